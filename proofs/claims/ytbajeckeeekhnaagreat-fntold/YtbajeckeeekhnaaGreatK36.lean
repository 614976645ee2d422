/- Own lemmas. -/
import Derived.Test.YtbajeckeeekhnaaGreatK32
import Derived.Test.YtbajeckeeekhnaaGreatK33
import Derived.Test.YtbajeckeeekhnaaGreatK34
import Derived.Test.YtbajeckeeekhnaaGreatK35
namespace Go.Proofs.YtbajeckeeekhnaaGreat
open Go.RowKit
set_option linter.unusedVariables false

def insR (b:Nat) (i:Ins):Kr:=⟨b,#[.int .i64 i.op,.int .i64 i.rd,.int .i64 i.a,.int .i64 i.b,.int .i64 i.imm],63,[]⟩

section
variable {B hh r bi : Nat} {M0 M : MV} {A0 A : MA} {w0 W : World}

set_option maxRecDepth 100000 in
theorem exec_r {S:World→Prop} (i:Ins) (wd:Int) (hi:InsOk i) (hwd:U wd) (hW:Hx B r [hartR hh r,insR bi i] M0 A0 w0 M A W) (hg:Gd M) (hd:Ud M.d) :
 Wg Tryz.prog S (bodyPost Tryz.prog Tryz.f47 (HR B hh r M0 A0 w0 (execM M i wd))) Tryz.f47.ntmps [.code (dropC 9 (bodyOf Tryz.f47))] [(0,.pointer (some ⟨hh,0,none⟩),2),(3,.pointer (some ⟨r,0,none⟩),1),(5,.int .u64 wd,0),(7,.pointer (some ⟨bi,0,none⟩),3)] W:=by
 obtain ⟨o1,o98,rd0,rd31,a0,a31,b0,b31,im0,im1,_⟩:=hi
 have h32:=hg.x32
 have h22:=(mach_parts hg.ok).1
 obtain ⟨b,hb,hcell⟩:=hW.ht.atX h32
 have cc:∀ (j:Nat),j < 32→∀ W,Hx B r [hartR hh r,insR bi i] M0 A0 w0 M A W→W.cell? ⟨b,j,none⟩=some (.int .u64 (M.x.getD j 0)):=fun j hj W hW=>by
  obtain ⟨b',hb',hcell'⟩:=hW.ht.atX h32
  rw [hb] at hb'
  cases hb'
  exact (hcell' j hj).1
 refine wk_S (Hx B r [hartR hh r,insR bi i] M0 A0 w0 M A) (by kernel_rfl) ?_
 refine wk_adv (Hx.eng (dr:=true)) { ov:=[(117,ovX M.x.length A.cx .i64 i.a hb ⟨a0,by omega⟩ Tryz.underlying25 (by kernel_rfl)),(118,ovL ⟨b,0+i.a.toNat,none⟩ (.int .u64 (M.x.getD (0+i.a.toNat) 0)) Tryz.underlying24 rfl (cc (0+i.a.toNat) (by omega))),(125,ovX M.x.length A.cx .i64 i.b hb ⟨b0,by omega⟩ Tryz.underlying25 (by kernel_rfl)),(126,ovL ⟨b,0+i.b.toNat,none⟩ (.int .u64 (M.x.getD (0+i.b.toNat) 0)) Tryz.underlying24 rfl (cc (0+i.b.toNat) (by omega)))] } 40 hW (by kernel_rfl) (by kernel_rfl) fun W1 h1=>?_
 have ua:=hg.ux i.a.toNat
 have ub:=hg.ux i.b.toNat
 have un:U (IntKind.u64.wrap i.imm):=U_wrap _
 refine wk_join [.code (dropC 13 (bodyOf Tryz.f47))] [(0,.pointer (some ⟨hh,0,none⟩),2),(3,.pointer (some ⟨r,0,none⟩),1),(5,.int .u64 wd,0),(7,.pointer (some ⟨bi,0,none⟩),3),(9,.int .u64 (M.x.getD (0+i.a.toNat) 0),0),(10,.int .u64 (M.x.getD (0+i.b.toNat) 0),0),(11,.int .u64 (IntKind.u64.wrap i.imm),0),(12,.int .u64 (IntKind.u64.wrap (M.pc+4)),0)] (by kernel_rfl) (by kernel_rfl) ?_
 rw [Nat.zero_add,Nat.zero_add]
 refine wk_S (Hs r [hartR hh r,insR bi i] (mvc M A)) (by kernel_rfl) ?_
 clear cc hcell hb hW
 by_cases c0:i.op=1
 ·have g138:(i.op==1)=true:=by simp;omega
  have eV:execM M i wd=(doneM M i.rd (IntKind.u64.wrap i.imm) (IntKind.u64.wrap (M.pc+4)),1):=by unfold execM;dsimp only;rw [if_pos (by omega)]
  rw [eV]
  clear eV
  exact Hx.last (Hs.eng (dr:=true) (fun _ h=>h.hs)) { eq:=[(138,eqB g138)] } 300 h1 (fun W hW=>done_r i.rd _ _ rd0 rd31 hW.ht h32 h22) rfl (by kernel_rfl) (by kernel_rfl) (fun _=>by kernel_rfl)
 by_cases c1:i.op=2
 ·have g138:(i.op==1)=false:=by simp;omega
  have g148:(i.op==2)=true:=by simp;omega
  have eV:execM M i wd=(doneM M i.rd (IntKind.u64.wrap (M.pc+IntKind.u64.wrap i.imm)) (IntKind.u64.wrap (M.pc+4)),1):=by unfold execM;dsimp only;rw [if_neg (by omega),if_pos (by omega)]
  rw [eV]
  clear eV
  refine wk_adv (Hs.eng (dr:=false) (fun _ h=>h.hs)) { eq:=[(138,eqB g138),(148,eqB g148)] } 20 h1 (by kernel_rfl) (by kernel_rfl) fun W2 h2=>?_
  refine wk_K 10 (by kernel_rfl) (by kernel_rfl) ?_
  exact Hx.last (Hs.eng (dr:=true) (fun _ h=>h.hs)) {} 60 (h2.below (Below.refl _ _).drew) (fun W hW=>done_r i.rd _ _ rd0 rd31 hW.ht h32 h22) rfl (by kernel_rfl) (by kernel_rfl) (fun _=>by kernel_rfl)
 by_cases c2:i.op≤10
 ·have g138:(i.op==1)=false:=by simp;omega
  have g148:(i.op==2)=false:=by simp;omega
  have g163:decide (i.op≤10)=true:=by rw [decide_eq_true_eq];omega
  have eV:execM M i wd=jumpM M i (M.x.getD i.a.toNat 0) (M.x.getD i.b.toNat 0) (IntKind.u64.wrap i.imm):=by unfold execM;dsimp only;rw [if_neg (by omega),if_neg (by omega),if_pos (by omega)]
  rw [eV]
  clear eV
  exact Hx.last (Hs.eng (dr:=true) (fun _ h=>h.hs)) { eq:=[(138,eqB g138),(148,eqB g148),(163,eqB g163)] } 300 h1 (fun W hW=>jump_r i _ _ _ (by omega) c2 rd0 rd31 hW.ht hg) rfl (by kernel_rfl) (by kernel_rfl) (fun _=>by kernel_rfl)
 by_cases c3:i.op≤17
 ·have g138:(i.op==1)=false:=by simp;omega
  have g148:(i.op==2)=false:=by simp;omega
  have g163:decide (i.op≤10)=false:=by rw [decide_eq_false_iff_not];omega
  have g173:decide (i.op≤17)=true:=by rw [decide_eq_true_eq];omega
  have eV:execM M i wd=loadM M i (IntKind.u64.wrap (M.x.getD i.a.toNat 0+IntKind.u64.wrap i.imm)):=by unfold execM;dsimp only;rw [if_neg (by omega),if_neg (by omega),if_neg (by omega),if_pos (by omega)]
  rw [eV]
  clear eV
  exact Hx.last (Hs.eng (dr:=true) (fun _ h=>h.hs)) { eq:=[(138,eqB g138),(148,eqB g148),(163,eqB g163),(173,eqB g173)] } 300 h1 (fun W hW=>load_r i _ (by omega) c3 rd0 rd31 (U_wrap _) hW.ht hg) rfl (by kernel_rfl) (by kernel_rfl) (fun _=>by kernel_rfl)
 by_cases c4:i.op≤21
 ·have g138:(i.op==1)=false:=by simp;omega
  have g148:(i.op==2)=false:=by simp;omega
  have g163:decide (i.op≤10)=false:=by rw [decide_eq_false_iff_not];omega
  have g173:decide (i.op≤17)=false:=by rw [decide_eq_false_iff_not];omega
  have g183:decide (i.op≤21)=true:=by rw [decide_eq_true_eq];omega
  have eV:execM M i wd=storeM M i (IntKind.u64.wrap (M.x.getD i.a.toNat 0+IntKind.u64.wrap i.imm)) (M.x.getD i.b.toNat 0):=by unfold execM;dsimp only;rw [if_neg (by omega),if_neg (by omega),if_neg (by omega),if_neg (by omega),if_pos (by omega)]
  rw [eV]
  clear eV
  exact Hx.last (Hs.eng (dr:=true) (fun _ h=>h.hs)) { eq:=[(138,eqB g138),(148,eqB g148),(163,eqB g163),(173,eqB g173),(183,eqB g183)] } 300 h1 (fun W hW=>store_r i _ _ (by omega) c4 (U_wrap _) ub hW.ht hg) rfl (by kernel_rfl) (by kernel_rfl) (fun _=>by kernel_rfl)
 by_cases c5:i.op≤62
 ·have g138:(i.op==1)=false:=by simp;omega
  have g148:(i.op==2)=false:=by simp;omega
  have g163:decide (i.op≤10)=false:=by rw [decide_eq_false_iff_not];omega
  have g173:decide (i.op≤17)=false:=by rw [decide_eq_false_iff_not];omega
  have g183:decide (i.op≤21)=false:=by rw [decide_eq_false_iff_not];omega
  have g194:decide (i.op≤62)=true:=by rw [decide_eq_true_eq];omega
  have eV:execM M i wd=(doneM M i.rd (aluV i.op (M.x.getD i.a.toNat 0) (if (formOf i.op).toList=[82] then M.x.getD i.b.toNat 0 else IntKind.u64.wrap i.imm)) (IntKind.u64.wrap (M.pc+4)),1):=by unfold execM;dsimp only;rw [if_neg (by omega),if_neg (by omega),if_neg (by omega),if_neg (by omega),if_neg (by omega),if_pos (by omega)]
  rw [eV]
  clear eV
  have hfm:=fun W=>specForm_any i.op (wf_op (by omega) (by omega)) W
  cases hf:((formOf i.op).toList==(⟨#[82]⟩:ByteArray).toList) with
  | true =>
    rw [if_pos (show (formOf i.op).toList=[82] from (eq_of_beq hf).trans (by decide +kernel))]
    exact Hx.last (Hs.eng (dr:=true) (fun _ h=>h.hs)) { eq:=[(138,eqB g138),(148,eqB g148),(163,eqB g163),(173,eqB g173),(183,eqB g183),(194,eqB g194),(198,eqB (show (!((formOf i.op).toList==(⟨#[82]⟩:ByteArray).toList))=false by rw [hf];rfl))],cv:=[(197,cvC (fun h k=>h.below k) fun W _=>hfm W),(205,cvC (fun h k=>h.below k) fun W _=>specAlu_any i.op _ _ (wf_op (by omega) (by omega)) ua.1 ua.2 ub.1 ub.2 W)] } 300 h1 (fun W hW=>done_r i.rd _ _ rd0 rd31 hW.ht h32 h22) rfl (by kernel_rfl) (by kernel_rfl) (fun _=>by kernel_rfl)
  | false =>
    rw [if_neg (show ¬ (formOf i.op).toList=[82] from fun e=>by rw [e] at hf;exact absurd hf (by decide +kernel))]
    exact Hx.last (Hs.eng (dr:=true) (fun _ h=>h.hs)) { eq:=[(138,eqB g138),(148,eqB g148),(163,eqB g163),(173,eqB g173),(183,eqB g183),(194,eqB g194),(198,eqB (show (!((formOf i.op).toList==(⟨#[82]⟩:ByteArray).toList))=true by rw [hf];rfl))],cv:=[(197,cvC (fun h k=>h.below k) fun W _=>hfm W),(205,cvC (fun h k=>h.below k) fun W _=>specAlu_any i.op _ _ (wf_op (by omega) (by omega)) ua.1 ua.2 un.1 un.2 W)] } 300 h1 (fun W hW=>done_r i.rd _ _ rd0 rd31 hW.ht h32 h22) rfl (by kernel_rfl) (by kernel_rfl) (fun _=>by kernel_rfl)
 by_cases c6:i.op≤84
 ·have g138:(i.op==1)=false:=by simp;omega
  have g148:(i.op==2)=false:=by simp;omega
  have g163:decide (i.op≤10)=false:=by rw [decide_eq_false_iff_not];omega
  have g173:decide (i.op≤17)=false:=by rw [decide_eq_false_iff_not];omega
  have g183:decide (i.op≤21)=false:=by rw [decide_eq_false_iff_not];omega
  have g194:decide (i.op≤62)=false:=by rw [decide_eq_false_iff_not];omega
  have g217:decide (i.op≤84)=true:=by rw [decide_eq_true_eq];omega
  have eV:execM M i wd=atomM M i (M.x.getD i.a.toNat 0) (M.x.getD i.b.toNat 0):=by unfold execM;dsimp only;rw [if_neg (by omega),if_neg (by omega),if_neg (by omega),if_neg (by omega),if_neg (by omega),if_neg (by omega),if_pos (by omega)]
  rw [eV]
  clear eV
  exact Hx.last (Hs.eng (dr:=true) (fun _ h=>h.hs)) { eq:=[(138,eqB g138),(148,eqB g148),(163,eqB g163),(173,eqB g173),(183,eqB g183),(194,eqB g194),(217,eqB g217)] } 300 h1 (fun W hW=>atomic_r i _ _ (by omega) c6 rd0 rd31 ua ub hW.ht hg hd) rfl (by kernel_rfl) (by kernel_rfl) (fun _=>by kernel_rfl)
 by_cases c7:i.op≤86
 ·have g138:(i.op==1)=false:=by simp;omega
  have g148:(i.op==2)=false:=by simp;omega
  have g163:decide (i.op≤10)=false:=by rw [decide_eq_false_iff_not];omega
  have g173:decide (i.op≤17)=false:=by rw [decide_eq_false_iff_not];omega
  have g183:decide (i.op≤21)=false:=by rw [decide_eq_false_iff_not];omega
  have g194:decide (i.op≤62)=false:=by rw [decide_eq_false_iff_not];omega
  have g217:decide (i.op≤84)=false:=by rw [decide_eq_false_iff_not];omega
  have g226:decide (i.op≤86)=true:=by rw [decide_eq_true_eq];omega
  have eV:execM M i wd=(doneM M 0 0 (IntKind.u64.wrap (M.pc+4)),1):=by unfold execM;dsimp only;rw [if_neg (by omega),if_neg (by omega),if_neg (by omega),if_neg (by omega),if_neg (by omega),if_neg (by omega),if_neg (by omega),if_pos (by omega)]
  rw [eV]
  clear eV
  exact Hx.last (Hs.eng (dr:=true) (fun _ h=>h.hs)) { eq:=[(138,eqB g138),(148,eqB g148),(163,eqB g163),(173,eqB g173),(183,eqB g183),(194,eqB g194),(217,eqB g217),(226,eqB g226)] } 300 h1 (fun W hW=>done_r 0 0 _ (by decide) (by decide) hW.ht h32 h22) rfl (by kernel_rfl) (by kernel_rfl) (fun _=>by kernel_rfl)
 by_cases c8:i.op≤92
 ·have g138:(i.op==1)=false:=by simp;omega
  have g148:(i.op==2)=false:=by simp;omega
  have g163:decide (i.op≤10)=false:=by rw [decide_eq_false_iff_not];omega
  have g173:decide (i.op≤17)=false:=by rw [decide_eq_false_iff_not];omega
  have g183:decide (i.op≤21)=false:=by rw [decide_eq_false_iff_not];omega
  have g194:decide (i.op≤62)=false:=by rw [decide_eq_false_iff_not];omega
  have g217:decide (i.op≤84)=false:=by rw [decide_eq_false_iff_not];omega
  have g226:decide (i.op≤86)=false:=by rw [decide_eq_false_iff_not];omega
  have g233:decide (i.op≤92)=true:=by rw [decide_eq_true_eq];omega
  have eV:execM M i wd=csrM M i (M.x.getD i.a.toNat 0) wd:=by unfold execM;dsimp only;rw [if_neg (by omega),if_neg (by omega),if_neg (by omega),if_neg (by omega),if_neg (by omega),if_neg (by omega),if_neg (by omega),if_neg (by omega),if_pos (by omega)]
  rw [eV]
  clear eV
  exact Hx.last (Hs.eng (dr:=true) (fun _ h=>h.hs)) { eq:=[(138,eqB g138),(148,eqB g148),(163,eqB g163),(173,eqB g173),(183,eqB g183),(194,eqB g194),(217,eqB g217),(226,eqB g226),(233,eqB g233)] } 300 h1 (fun W hW=>csr_r i _ wd (by omega) c8 rd0 rd31 hwd hW.ht hg) rfl (by kernel_rfl) (by kernel_rfl) (fun _=>by kernel_rfl)
 have g138:(i.op==1)=false:=by simp;omega
 have g148:(i.op==2)=false:=by simp;omega
 have g163:(decide (i.op≤10))=false:=by rw [decide_eq_false_iff_not];omega
 have g173:(decide (i.op≤17))=false:=by rw [decide_eq_false_iff_not];omega
 have g183:(decide (i.op≤21))=false:=by rw [decide_eq_false_iff_not];omega
 have g194:(decide (i.op≤62))=false:=by rw [decide_eq_false_iff_not];omega
 have g217:(decide (i.op≤84))=false:=by rw [decide_eq_false_iff_not];omega
 have g226:(decide (i.op≤86))=false:=by rw [decide_eq_false_iff_not];omega
 have g233:(decide (i.op≤92))=false:=by rw [decide_eq_false_iff_not];omega
 have eV:execM M i wd=sysM M i wd:=by unfold execM;dsimp only;rw [if_neg (by omega),if_neg (by omega),if_neg (by omega),if_neg (by omega),if_neg (by omega),if_neg (by omega),if_neg (by omega),if_neg (by omega),if_neg (by omega)]
 rw [eV]
 exact Hx.last (Hs.eng (dr:=true) (fun _ h=>h.hs)) { eq:=[(138,eqB g138),(148,eqB g148),(163,eqB g163),(173,eqB g173),(183,eqB g183),(194,eqB g194),(217,eqB g217),(226,eqB g226),(233,eqB g233)] } 300 h1 (fun W hW=>system_r i (M.x.getD i.a.toNat 0) wd (by omega) o98 hwd hW.ht hg) rfl (by kernel_rfl) (by kernel_rfl) (fun _=>by kernel_rfl)

end

end Go.Proofs.YtbajeckeeekhnaaGreat
