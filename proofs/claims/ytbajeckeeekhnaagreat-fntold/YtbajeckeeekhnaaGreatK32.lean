/- Own lemmas. -/
import Derived.Test.YtbajeckeeekhnaaGreatK30
import Derived.Test.YtbajeckeeekhnaaGreatK31
namespace Go.Proofs.YtbajeckeeekhnaaGreat
open Go.RowKit
set_option linter.unusedVariables false

theorem at_code2 (M:MV) (pa size x:Int):(atM M pa size 2 x).2.2=0∨(atM M pa size 2 x).2.2=21:=by
 unfold atM
 split
 ·split<;>exact Or.inl rfl
 ·split
  ·split
   ·exact Or.inl rfl
   ·exact Or.inr rfl
  ·split
   ·split
    ·exact Or.inl rfl
    ·exact Or.inr rfl
   ·exact Or.inr rfl

theorem acc_code2 (M:MV) (addr size x:Int):(accV M addr size 2 x).2.2=0∨∃ c:Nat,c < 14∧(accV M addr size 2 x).2.2=c+16:=by
 unfold accV
 split
 ·exact Or.inr ⟨4,by omega,rfl⟩
 ·unfold accW
  split
  ·rcases walk_code M.ram M.ram.length M.cs (effV M.cs M.pr 2) addr 2 with e | e | e
   ·refine Or.inr ⟨0,by omega,?_⟩
    show wrap64 ((walkV M.ram M.ram.length M.cs (effV M.cs M.pr 2) addr 2).code+16)=_
    rw [e];unfold wrap64;decide
   ·refine Or.inr ⟨13,by omega,?_⟩
    show wrap64 ((walkV M.ram M.ram.length M.cs (effV M.cs M.pr 2) addr 2).code+16)=_
    rw [e];unfold wrap64;decide
   ·refine Or.inr ⟨5,by omega,?_⟩
    show wrap64 ((walkV M.ram M.ram.length M.cs (effV M.cs M.pr 2) addr 2).code+16)=_
    rw [e];unfold wrap64;decide
  ·split
   ·exact Or.inr ⟨5,by omega,rfl⟩
   ·refine (at_code2 _ _ _ _).imp id fun e=>⟨5,by omega,e⟩

theorem code_18 {M:MV} {addr size x c:Int} (hc:(accV M addr size 2 x).2.2=c) (hn:(c != 0)=true):IntKind.i64.wrap (c - 16)=(((c - 16).toNat:Nat):Int)∧IntKind.i64.wrap ((((c - 16).toNat:Nat):Int)+2)=(((c - 16).toNat+2:Nat):Int)∧(c - 16).toNat+2 < 16:=by
 have h:=acc_code2 M addr size x
 rw [hc] at h
 rcases h with h | ⟨d,h1,h2⟩
 ·rw [h] at hn;cases hn
 ·rw [IntKind.wrap_i64,IntKind.wrap_i64]
  omega

section
variable {B hh r : Nat} {M : MV} {A : MA} {w : World}

set_option maxRecDepth 100000 in
theorem lr_q (op rd ia ib imm a b:Int) (hop:op=63∨op=74) (hr0:0≤rd) (hr1:rd≤31) (ha:U a) (hb:U b) (h:Ht B hh r M A w) (hg:Gd M) :
 Calls Tryz.prog 67 #[.pointer (some ⟨hh,0,none⟩),.agg #[.int .i64 op,.int .i64 rd,.int .i64 ia,.int .i64 ib,.int .i64 imm],.int .u64 a,.int .u64 b] w (HR B hh r M A w (atomM M ⟨op,rd,ia,ib,imm⟩ a b)):=by
 obtain ⟨V,hV⟩:∃ V,atomM M ⟨op,rd,ia,ib,imm⟩ a b=V:=⟨_,rfl⟩
 rw [hV]
 obtain ⟨sz,q⟩:∃ sz,sz=atomSize op:=⟨_,rfl⟩
 obtain p | p:=hop
 all_goals
  have ga:=hg.acc a sz 2 0
  have hac:=fun W (hW:Mp B r M A W)=>l9Access_any M A B r a sz 2 0 W hW hg.len hg.mw hg.ok (by subst p q;decide) (by omega) (by omega) ha ⟨by decide,by decide⟩
  have ec:=fun c=>code_16 (M:=M) (addr:=a) (size:=sz) (kind:=2) (x:=0) (c:=c)
  have eV:(if ((accV M a sz 2 0).2.2 != 0)=true then refuseM (accV M a sz 2 0) 0 a else (doneM (holdM (ledM (accV M a sz 2 0).2.1 a 2) true (leadM (accV M a sz 2 0).2.1 a 2).addr) rd (widen (8*sz) (accV M a sz 2 0).1) (IntKind.u64.wrap (M.pc+4)),1))=V:=by subst p q;exact hV
  clear hV
  generalize accV M a sz 2 0=X at *
  obtain ⟨y,N,c⟩:=X
  dsimp only at ga hac ec eV
  refine wk_go (S:=Hs r (hartR hh r :: boxR w.heap.size [(#[.int .i64 op,.int .i64 rd,.int .i64 ia,.int .i64 ib,.int .i64 imm],63)]) (mvc M A)) (args:=[.pointer (some ⟨hh,0,none⟩),.agg #[.int .i64 op,.int .i64 rd,.int .i64 ia,.int .i64 ib,.int .i64 imm],.int .u64 a,.int .u64 b]) [(#[.int .i64 op,.int .i64 rd,.int .i64 ia,.int .i64 ib,.int .i64 imm],63)] Tryz.func67 rfl (by subst p q;kernel_rfl) (by subst p q;kernel_rfl) ?_
  refine wk_tag 0 2 (wk_tag 5 3 ?_)
  refine wk_ac (Hs.eng (dr:=true) (fun _ h=>h.hs)) {} 160 (Hx.start h _) (fun W1 h1=>hac W1 h1.mp) (by subst p q;kernel_rfl) (by subst p q;kernel_rfl) ?_
  rintro W1 e W2 h1 ⟨rfl,C,h2,k2⟩
  refine ⟨_,0,rfl,nob (by subst p q;kernel_rfl),wk_S (Hs r (hartR hh r :: boxR w.heap.size [(#[.int .i64 op,.int .i64 rd,.int .i64 ia,.int .i64 ib,.int .i64 imm],63)]) (mvc N C)) (by subst p q;kernel_rfl) ?_⟩
  cases hc:(c != 0) with
  | true =>
    rw [hc,if_pos rfl] at eV
    subst eV
    exact Hx.last (Hs.eng (dr:=true) (fun _ h=>h.hs)) { eq:=[(53,eqB hc),(56,eqI .i64 (ec c rfl hc).1)] } 60 (h1.step h2 k2) (fun W hW=>trap_r _ (ec c rfl hc).2 a hW.ht ga) rfl (by subst p q;kernel_rfl) (by subst p q;kernel_rfl) (fun _=>by subst p q;kernel_rfl)
  | false =>
    rw [hc,if_neg (by decide)] at eV
    have gl:Gd (ledM N a 2):=ga.marked _
    have hld:=fun W (hW:Mp B r N C W)=>lead_m N C B r a 2 W hW ga.len ga.mw ga.ok (by omega) (by omega) ha (leadM N a 2) rfl
    have hld2:∀ W,Mp B r N C W→Calls Tryz.prog 76 #[.pointer (some ⟨r,0,none⟩),.slice none 0 0,.int .u64 a,.int .i64 2] W fun e w'=>e=.returned (.tuple #[.int .u64 (leadM N a 2).addr,.int .i64 (leadM N a 2).code])∧Mp B r (ledM N a 2) C w'∧Kx r (mvF N C) (mvF (ledM N a 2) C) W w':=hld
    clear hld
    generalize ledM N a 2=N2 at gl hld2 eV
    generalize leadM N a 2=F at hld2 eV
    obtain ⟨pa,fc,fm,ft,fe⟩:=F
    dsimp only at hld2 eV
    subst eV
    refine wk_ac (Hs.eng (dr:=true) (fun _ h=>h.hs)) { eq:=[(53,eqB hc)] } 60 (h1.step h2 k2) (fun W hW=>hld2 W hW.mp) (by subst p q;kernel_rfl) (by subst p q;kernel_rfl) ?_
    rintro W3 e W4 h3 ⟨rfl,h4,k4⟩
    refine ⟨_,0,rfl,nob (by subst p q;kernel_rfl),wk_S (Hs r (hartR hh r :: boxR w.heap.size [(#[.int .i64 op,.int .i64 rd,.int .i64 ia,.int .i64 ib,.int .i64 imm],63)]) (mvc N2 C)) (by subst p q;kernel_rfl) ?_⟩
    refine wk_adv (Hs.eng (dr:=false) (fun _ h=>h.hs)) {} 60 (h3.step h4 k4) (by subst p q;kernel_rfl) (by subst p q;kernel_rfl) fun W5 h5=>?_
    refine wk_sk (by subst p q;kernel_rfl) (run_stc (i:=12) (T:=4) (v:=.bool true) h5.mp.row (show 12 < 14 by decide) (by subst p q;kernel_rfl) rfl) (nob (by subst p q;kernel_rfl)) ?_
    have h6:=h5.fld (M':=holdM N2 true N2.hd) 12 (.bool true) rfl rfl
    refine wk_S (Hs r (hartR hh r :: boxR w.heap.size [(#[.int .i64 op,.int .i64 rd,.int .i64 ia,.int .i64 ib,.int .i64 imm],63)]) (mvc (holdM N2 true N2.hd) C)) (by subst p q;kernel_rfl) ?_
    refine wk_adv (Hs.eng (dr:=false) (fun _ h=>h.hs)) {} 60 h6 (by subst p q;kernel_rfl) (by subst p q;kernel_rfl) fun W7 h7=>?_
    refine wk_sk (by subst p q;kernel_rfl) (run_stc (i:=11) (T:=24) (v:=.int .u64 pa) h7.mp.row (show 11 < 14 by decide) (by subst p q;kernel_rfl) rfl) (nob (by subst p q;kernel_rfl)) ?_
    have h8:=h7.fld (M':=holdM N2 true pa) 11 (.int .u64 pa) rfl rfl
    refine wk_S (Hs r (hartR hh r :: boxR w.heap.size [(#[.int .i64 op,.int .i64 rd,.int .i64 ia,.int .i64 ib,.int .i64 imm],63)]) (mvc (holdM N2 true pa) C)) (by subst p q;kernel_rfl) ?_
    have n32:(holdM N2 true pa).x.length=32:=by unfold holdM;exact gl.x32
    have n22:(holdM N2 true pa).cs.length=22:=by unfold holdM;exact (mach_parts gl.ok).1
    generalize holdM N2 true pa=N3 at h8 n32 n22 ⊢
    refine wk_adv (Hs.eng (dr:=false) (fun _ h=>h.hs)) {} 60 h8 (by subst p q;kernel_rfl) (by subst p q;kernel_rfl) fun W9 h9=>?_
    refine wk_K 9 (by subst p q;kernel_rfl) (by subst p q;kernel_rfl) ?_
    refine wk_ac (Hs.eng (dr:=true) (fun _ h=>h.hs)) {} 60 (h9.below (Below.refl _ _).drew) (fun W _=>l1Widen_any y (8*sz) (by subst p q;decide) (by subst p q;decide) W) (by subst p q;kernel_rfl) (by subst p q;kernel_rfl) ?_
    rintro W10 e W11 h10 ⟨rfl,hw11⟩
    subst hw11
    refine ⟨_,0,rfl,fun _=>h10.hs,?_⟩
    exact Hx.last (Hs.eng (dr:=true) (fun _ h=>h.hs)) {} 60 h10 (fun W hW=>done_r rd (widen (8*sz) y) _ hr0 hr1 hW.ht n32 n22) rfl (by subst p q;kernel_rfl) (by subst p q;kernel_rfl) (fun _=>by subst p q;kernel_rfl)

set_option maxRecDepth 100000 in
theorem sc_q (op rd ia ib imm a b:Int) (hop:op=64∨op=75) (hr0:0≤rd) (hr1:rd≤31) (ha:U a) (hb:U b) (h:Ht B hh r M A w) (hg:Gd M) :
 Calls Tryz.prog 67 #[.pointer (some ⟨hh,0,none⟩),.agg #[.int .i64 op,.int .i64 rd,.int .i64 ia,.int .i64 ib,.int .i64 imm],.int .u64 a,.int .u64 b] w (HR B hh r M A w (atomM M ⟨op,rd,ia,ib,imm⟩ a b)):=by
 obtain ⟨V,hV⟩:∃ V,atomM M ⟨op,rd,ia,ib,imm⟩ a b=V:=⟨_,rfl⟩
 rw [hV]
 obtain ⟨sz,q⟩:∃ sz,sz=atomSize op:=⟨_,rfl⟩
 obtain p | p:=hop
 all_goals
  have hs0:(sz:Int)≠0:=by subst p q;decide
  have a0:a.tmod sz=a % ((sz:Nat):Int):=Int.tmod_eq_emod_of_nonneg ha.1
  have gl:Gd (ledM M a 3):=hg.marked _
  have hpc:(ledM M a 3).pc=M.pc:=rfl
  have hld2:∀ W,Mp B r M A W→Calls Tryz.prog 76 #[.pointer (some ⟨r,0,none⟩),.slice none 0 0,.int .u64 a,.int .i64 3] W fun e w'=>e=.returned (.tuple #[.int .u64 (leadM M a 3).addr,.int .i64 (leadM M a 3).code])∧Mp B r (ledM M a 3) A w'∧Kx r (mvF M A) (mvF (ledM M a 3) A) W w':=fun W hW=>lead_m M A B r a 3 W hW hg.len hg.mw hg.ok (by omega) (by omega) ha (leadM M a 3) rfl
  obtain ⟨c,c16,hfc⟩:∃ c:Nat,c < 16∧(leadM M a 3).code=c:=walk_few M.ram M.ram.length M.cs (effV M.cs M.pr 3) a 3
  have eV:(if (a % ((sz:Nat):Int) != 0)=true then (trapM M 6 false a,2) else if ((leadM M a 3).code != 0)=true then (trapM (ledM M a 3) (leadM M a 3).code.toNat false a,2) else scM (ledM M a 3) ⟨op,rd,ia,ib,imm⟩ a b (leadM M a 3).addr)=V:=by subst p q;exact hV
  clear hV
  generalize ledM M a 3=N at gl hld2 eV hpc
  generalize leadM M a 3=F at hld2 hfc eV
  obtain ⟨pa,fc,fm,ft,fe⟩:=F
  dsimp only at hld2 hfc eV
  subst hfc
  rw [← a0] at eV
  refine wk_go (S:=Hs r (hartR hh r :: boxR w.heap.size [(#[.int .i64 op,.int .i64 rd,.int .i64 ia,.int .i64 ib,.int .i64 imm],63)]) (mvc M A)) (args:=[.pointer (some ⟨hh,0,none⟩),.agg #[.int .i64 op,.int .i64 rd,.int .i64 ia,.int .i64 ib,.int .i64 imm],.int .u64 a,.int .u64 b]) [(#[.int .i64 op,.int .i64 rd,.int .i64 ia,.int .i64 ib,.int .i64 imm],63)] Tryz.func67 rfl (by subst p q;kernel_rfl) (by subst p q;kernel_rfl) ?_
  refine wk_tag 0 2 (wk_tag 5 3 ?_)
  cases hz:(a.tmod sz != 0) with
  | true =>
    rw [hz,if_pos rfl] at eV
    subst eV
    exact Hx.last (Hs.eng (dr:=true) (fun _ h=>h.hs)) { eq:=[(90,eqB hz)],ov:=[(89,ovR .u64 a sz hs0)] } 160 (Hx.start h _) (fun W hW=>trap_r 6 (by decide) a hW.ht hg) rfl (by subst p q;kernel_rfl) (by subst p q;kernel_rfl) (fun _=>by subst p q;kernel_rfl)
  | false =>
  rw [hz,if_neg (by decide)] at eV
  refine wk_ac (Hs.eng (dr:=true) (fun _ h=>h.hs)) { eq:=[(90,eqB hz)],ov:=[(89,ovR .u64 a sz hs0)] } 160 (Hx.start h _) (fun W hW=>hld2 W hW.mp) (by subst p q;kernel_rfl) (by subst p q;kernel_rfl) ?_
  rintro W3 e W4 h3 ⟨rfl,h4,k4⟩
  refine ⟨_,0,rfl,nob (by subst p q;kernel_rfl),wk_S (Hs r (hartR hh r :: boxR w.heap.size [(#[.int .i64 op,.int .i64 rd,.int .i64 ia,.int .i64 ib,.int .i64 imm],63)]) (mvc N A)) (by subst p q;kernel_rfl) ?_⟩
  have h5:=h3.step h4 k4
  cases hc:(((c:Nat):Int) != 0) with
  | true =>
    rw [hc,if_pos rfl] at eV
    subst eV
    exact Hx.last (Hs.eng (dr:=true) (fun _ h=>h.hs)) { eq:=[(105,eqB hc)] } 60 h5 (fun W hW=>trap_r c c16 a hW.ht gl) rfl (by subst p q;kernel_rfl) (by subst p q;kernel_rfl) (fun _=>by subst p q;kernel_rfl)
  | false =>
  rw [hc,if_neg (by decide)] at eV
  have eV2:(if (N.hl&&(N.hd==pa))=true then (if ((accV N a sz 3 b).2.2 != 0)=true then refuseM (accV N a sz 3 b) 0 a else (doneM (holdM (accV N a sz 3 b).2.1 false 0) rd 0 (IntKind.u64.wrap (N.pc+4)),1)) else (doneM (holdM N false 0) rd 1 (IntKind.u64.wrap (N.pc+4)),1))=V:=by subst p q;exact eV
  clear eV
  rw [hpc] at eV2
  have no:(N.hl&&(N.hd==pa))=false→(doneM (holdM N false 0) rd 1 (IntKind.u64.wrap (M.pc+4)),1)=V:=fun hn=>by rw [hn,if_neg (by decide)] at eV2;exact eV2
  cases hl:N.hl with
  | false =>
    have eV3:=no (by rw [hl];rfl)
    subst eV3
    refine wk_adv (Hs.eng (dr:=false) (fun _ h=>h.hs)) { eq:=[(105,eqB hc),(115,eqB hl)] } 60 h5 (by subst p q;kernel_rfl) (by subst p q;kernel_rfl) fun W5 h5=>?_
    refine wk_sk (by subst p q;kernel_rfl) (run_stc (i:=12) (T:=4) (v:=.bool false) h5.mp.row (show 12 < 14 by decide) (by subst p q;kernel_rfl) rfl) (nob (by subst p q;kernel_rfl)) ?_
    have h6:=h5.fld (M':=holdM N false N.hd) 12 (.bool false) rfl rfl
    refine wk_S (Hs r (hartR hh r :: boxR w.heap.size [(#[.int .i64 op,.int .i64 rd,.int .i64 ia,.int .i64 ib,.int .i64 imm],63)]) (mvc (holdM N false N.hd) A)) (by subst p q;kernel_rfl) ?_
    refine wk_adv (Hs.eng (dr:=false) (fun _ h=>h.hs)) {} 60 h6 (by subst p q;kernel_rfl) (by subst p q;kernel_rfl) fun W7 h7=>?_
    refine wk_sk (by subst p q;kernel_rfl) (run_stc (i:=11) (T:=24) (v:=.int .u64 0) h7.mp.row (show 11 < 14 by decide) (by subst p q;kernel_rfl) rfl) (nob (by subst p q;kernel_rfl)) ?_
    have h8:=h7.fld (M':=holdM N false 0) 11 (.int .u64 0) rfl rfl
    refine wk_S (Hs r (hartR hh r :: boxR w.heap.size [(#[.int .i64 op,.int .i64 rd,.int .i64 ia,.int .i64 ib,.int .i64 imm],63)]) (mvc (holdM N false 0) A)) (by subst p q;kernel_rfl) ?_
    have n32:(holdM N false 0).x.length=32:=by unfold holdM;exact gl.x32
    have n22:(holdM N false 0).cs.length=22:=by unfold holdM;exact (mach_parts gl.ok).1
    generalize holdM N false 0=N3 at h8 n32 n22 ⊢
    exact Hx.last (Hs.eng (dr:=true) (fun _ h=>h.hs)) {} 60 h8 (fun W hW=>done_r rd 1 _ hr0 hr1 hW.ht n32 n22) rfl (by subst p q;kernel_rfl) (by subst p q;kernel_rfl) (fun _=>by subst p q;kernel_rfl)
  | true =>
  cases hd:(N.hd==pa) with
  | false =>
    have eV3:=no (by rw [hl,hd];rfl)
    subst eV3
    refine wk_adv (Hs.eng (dr:=false) (fun _ h=>h.hs)) { eq:=[(105,eqB hc),(115,eqB hl),(122,eqB hd)] } 60 h5 (by subst p q;kernel_rfl) (by subst p q;kernel_rfl) fun W5 h5=>?_
    refine wk_sk (by subst p q;kernel_rfl) (run_stc (i:=12) (T:=4) (v:=.bool false) h5.mp.row (show 12 < 14 by decide) (by subst p q;kernel_rfl) rfl) (nob (by subst p q;kernel_rfl)) ?_
    have h6:=h5.fld (M':=holdM N false N.hd) 12 (.bool false) rfl rfl
    refine wk_S (Hs r (hartR hh r :: boxR w.heap.size [(#[.int .i64 op,.int .i64 rd,.int .i64 ia,.int .i64 ib,.int .i64 imm],63)]) (mvc (holdM N false N.hd) A)) (by subst p q;kernel_rfl) ?_
    refine wk_adv (Hs.eng (dr:=false) (fun _ h=>h.hs)) {} 60 h6 (by subst p q;kernel_rfl) (by subst p q;kernel_rfl) fun W7 h7=>?_
    refine wk_sk (by subst p q;kernel_rfl) (run_stc (i:=11) (T:=24) (v:=.int .u64 0) h7.mp.row (show 11 < 14 by decide) (by subst p q;kernel_rfl) rfl) (nob (by subst p q;kernel_rfl)) ?_
    have h8:=h7.fld (M':=holdM N false 0) 11 (.int .u64 0) rfl rfl
    refine wk_S (Hs r (hartR hh r :: boxR w.heap.size [(#[.int .i64 op,.int .i64 rd,.int .i64 ia,.int .i64 ib,.int .i64 imm],63)]) (mvc (holdM N false 0) A)) (by subst p q;kernel_rfl) ?_
    have n32:(holdM N false 0).x.length=32:=by unfold holdM;exact gl.x32
    have n22:(holdM N false 0).cs.length=22:=by unfold holdM;exact (mach_parts gl.ok).1
    generalize holdM N false 0=N3 at h8 n32 n22 ⊢
    exact Hx.last (Hs.eng (dr:=true) (fun _ h=>h.hs)) {} 60 h8 (fun W hW=>done_r rd 1 _ hr0 hr1 hW.ht n32 n22) rfl (by subst p q;kernel_rfl) (by subst p q;kernel_rfl) (fun _=>by subst p q;kernel_rfl)
  | true =>
    clear no
    rw [hl,hd,if_pos (by decide)] at eV2
    have ga:=gl.acc a sz 3 b
    have hac:=fun W (hW:Mp B r N A W)=>l9Access_any N A B r a sz 3 b W hW gl.len gl.mw gl.ok (by subst p q;decide) (by omega) (by omega) ha hb
    have ec:=fun c=>code_16 (M:=N) (addr:=a) (size:=sz) (kind:=3) (x:=b) (c:=c)
    generalize accV N a sz 3 b=X at ga hac ec eV2
    obtain ⟨y,N2,c2⟩:=X
    dsimp only at ga hac ec eV2
    refine wk_ac (Hs.eng (dr:=true) (fun _ h=>h.hs)) { eq:=[(105,eqB hc),(115,eqB hl),(122,eqB hd)] } 90 h5 (fun W1 h1=>hac W1 h1.mp) (by subst p q;kernel_rfl) (by subst p q;kernel_rfl) ?_
    rintro W6 e W7 h6 ⟨rfl,C,h7,k7⟩
    refine ⟨_,0,rfl,nob (by subst p q;kernel_rfl),wk_S (Hs r (hartR hh r :: boxR w.heap.size [(#[.int .i64 op,.int .i64 rd,.int .i64 ia,.int .i64 ib,.int .i64 imm],63)]) (mvc N2 C)) (by subst p q;kernel_rfl) ?_⟩
    cases hc2:(c2 != 0) with
    | true =>
      rw [hc2,if_pos rfl] at eV2
      subst eV2
      exact Hx.last (Hs.eng (dr:=true) (fun _ h=>h.hs)) { eq:=[(137,eqB hc2),(140,eqI .i64 (ec c2 rfl hc2).1)] } 60 (h6.step h7 k7) (fun W hW=>trap_r _ (ec c2 rfl hc2).2 a hW.ht ga) rfl (by subst p q;kernel_rfl) (by subst p q;kernel_rfl) (fun _=>by subst p q;kernel_rfl)
    | false =>
    rw [hc2,if_neg (by decide)] at eV2
    subst eV2
    refine wk_adv (Hs.eng (dr:=false) (fun _ h=>h.hs)) { eq:=[(137,eqB hc2)] } 60 (h6.step h7 k7) (by subst p q;kernel_rfl) (by subst p q;kernel_rfl) fun W5 h5=>?_
    refine wk_sk (by subst p q;kernel_rfl) (run_stc (i:=12) (T:=4) (v:=.bool false) h5.mp.row (show 12 < 14 by decide) (by subst p q;kernel_rfl) rfl) (nob (by subst p q;kernel_rfl)) ?_
    have h6:=h5.fld (M':=holdM N2 false N2.hd) 12 (.bool false) rfl rfl
    refine wk_S (Hs r (hartR hh r :: boxR w.heap.size [(#[.int .i64 op,.int .i64 rd,.int .i64 ia,.int .i64 ib,.int .i64 imm],63)]) (mvc (holdM N2 false N2.hd) C)) (by subst p q;kernel_rfl) ?_
    refine wk_adv (Hs.eng (dr:=false) (fun _ h=>h.hs)) {} 60 h6 (by subst p q;kernel_rfl) (by subst p q;kernel_rfl) fun W7 h7=>?_
    refine wk_sk (by subst p q;kernel_rfl) (run_stc (i:=11) (T:=24) (v:=.int .u64 0) h7.mp.row (show 11 < 14 by decide) (by subst p q;kernel_rfl) rfl) (nob (by subst p q;kernel_rfl)) ?_
    have h8:=h7.fld (M':=holdM N2 false 0) 11 (.int .u64 0) rfl rfl
    refine wk_S (Hs r (hartR hh r :: boxR w.heap.size [(#[.int .i64 op,.int .i64 rd,.int .i64 ia,.int .i64 ib,.int .i64 imm],63)]) (mvc (holdM N2 false 0) C)) (by subst p q;kernel_rfl) ?_
    have n32:(holdM N2 false 0).x.length=32:=by unfold holdM;exact ga.x32
    have n22:(holdM N2 false 0).cs.length=22:=by unfold holdM;exact (mach_parts ga.ok).1
    generalize holdM N2 false 0=N3 at h8 n32 n22 ⊢
    exact Hx.last (Hs.eng (dr:=true) (fun _ h=>h.hs)) {} 60 h8 (fun W hW=>done_r rd 0 _ hr0 hr1 hW.ht n32 n22) rfl (by subst p q;kernel_rfl) (by subst p q;kernel_rfl) (fun _=>by subst p q;kernel_rfl)

set_option maxRecDepth 100000 in
theorem amo_q (op rd ia ib imm a b:Int) (sz:Nat) (hs:65≤op∧op≤73∧sz=4∨76≤op∧op≤84∧sz=8) (hr0:0≤rd) (hr1:rd≤31) (ha:U a) (hb:U b) (h:Ht B hh r M A w) (hg:Gd M) (hU:U (accV (ledM M a 3) a sz 2 0).1) (hV2:∀ y,U y→U (amoV op y b)) :
 Calls Tryz.prog 67 #[.pointer (some ⟨hh,0,none⟩),.agg #[.int .i64 op,.int .i64 rd,.int .i64 ia,.int .i64 ib,.int .i64 imm],.int .u64 a,.int .u64 b] w (HR B hh r M A w (atomM M ⟨op,rd,ia,ib,imm⟩ a b)):=by
 obtain ⟨V,hV⟩:∃ V,atomM M ⟨op,rd,ia,ib,imm⟩ a b=V:=⟨_,rfl⟩
 rw [hV]
 obtain ⟨kk,eK⟩:∃ kk,atomK op=kk:=⟨_,rfl⟩
 have eS:atomSize op=sz:=by unfold atomSize;split<;>omega
 obtain ⟨h1,h2,q,p⟩ | ⟨h1,h2,q,p⟩:(65≤op∧op≤73∧sz=4∧kk=op - 63)∨(76≤op∧op≤84∧sz=8∧kk=op - 74):=by rw [← eK];unfold atomK;split<;>omega
 all_goals
  have g40:(kk==0)=false:=by simp;omega
  have g111:(kk==1)=false:=by simp;omega
  have eW:(if (a % ((sz:Nat):Int) != 0)=true then (trapM M 6 false a,2) else if ((leadM M a 3).code != 0)=true then (trapM (ledM M a 3) (leadM M a 3).code.toNat false a,2) else (if ((accV (ledM M a 3) a sz 2 0).2.2 != 0)=true then refuseM (accV (ledM M a 3) a sz 2 0) 2 a else if ((accV (accV (ledM M a 3) a sz 2 0).2.1 a sz 3 (amoV op (accV (ledM M a 3) a sz 2 0).1 b)).2.2 != 0)=true then refuseM (accV (accV (ledM M a 3) a sz 2 0).2.1 a sz 3 (amoV op (accV (ledM M a 3) a sz 2 0).1 b)) 0 a else (doneM (accV (accV (ledM M a 3) a sz 2 0).2.1 a sz 3 (amoV op (accV (ledM M a 3) a sz 2 0).1 b)).2.1 rd (widen (8*sz) (accV (ledM M a 3) a sz 2 0).1) (IntKind.u64.wrap ((ledM M a 3).pc+4)),1)))=V:=by
   rw [← hV];unfold atomM amoM;dsimp only;rw [eK,g40,g111,eS,if_neg (show ¬ (false=true) by decide),if_neg (show ¬ (false=true) by decide)]
  have e63:IntKind.i64.wrap (op - 63)=op - 63:=by rw [IntKind.wrap_i64];omega
  have e74:IntKind.i64.wrap (op - 63 - 11)=op - 74:=by rw [IntKind.wrap_i64];omega
  have g31:decide (11≤op - 63)=decide (sz=8):=by rw [decide_eq_decide];omega
  have hs0:(sz:Int)≠0:=by subst p q;decide
  have a0:a.tmod sz=a % ((sz:Nat):Int):=Int.tmod_eq_emod_of_nonneg ha.1
  have gl:Gd (ledM M a 3):=hg.marked _
  have hpc:(ledM M a 3).pc=M.pc:=rfl
  have hld2:∀ W,Mp B r M A W→Calls Tryz.prog 76 #[.pointer (some ⟨r,0,none⟩),.slice none 0 0,.int .u64 a,.int .i64 3] W fun e w'=>e=.returned (.tuple #[.int .u64 (leadM M a 3).addr,.int .i64 (leadM M a 3).code])∧Mp B r (ledM M a 3) A w'∧Kx r (mvF M A) (mvF (ledM M a 3) A) W w':=fun W hW=>lead_m M A B r a 3 W hW hg.len hg.mw hg.ok (by omega) (by omega) ha (leadM M a 3) rfl
  obtain ⟨c,c16,hfc⟩:∃ c:Nat,c < 16∧(leadM M a 3).code=c:=walk_few M.ram M.ram.length M.cs (effV M.cs M.pr 3) a 3
  have eV:(if (a % ((sz:Nat):Int) != 0)=true then (trapM M 6 false a,2) else if ((leadM M a 3).code != 0)=true then (trapM (ledM M a 3) (leadM M a 3).code.toNat false a,2) else (if ((accV (ledM M a 3) a sz 2 0).2.2 != 0)=true then refuseM (accV (ledM M a 3) a sz 2 0) 2 a else if ((accV (accV (ledM M a 3) a sz 2 0).2.1 a sz 3 (amoV op (accV (ledM M a 3) a sz 2 0).1 b)).2.2 != 0)=true then refuseM (accV (accV (ledM M a 3) a sz 2 0).2.1 a sz 3 (amoV op (accV (ledM M a 3) a sz 2 0).1 b)) 0 a else (doneM (accV (accV (ledM M a 3) a sz 2 0).2.1 a sz 3 (amoV op (accV (ledM M a 3) a sz 2 0).1 b)).2.1 rd (widen (8*sz) (accV (ledM M a 3) a sz 2 0).1) (IntKind.u64.wrap ((ledM M a 3).pc+4)),1)))=V:=by exact eW
  clear hV
  generalize ledM M a 3=N at hU gl hld2 eV hpc
  generalize leadM M a 3=F at hld2 hfc eV
  obtain ⟨pa,fc,fm,ft,fe⟩:=F
  dsimp only at hld2 hfc eV
  subst hfc
  rw [← a0] at eV
  refine wk_go (S:=Hs r (hartR hh r :: boxR w.heap.size [(#[.int .i64 op,.int .i64 rd,.int .i64 ia,.int .i64 ib,.int .i64 imm],63)]) (mvc M A)) (args:=[.pointer (some ⟨hh,0,none⟩),.agg #[.int .i64 op,.int .i64 rd,.int .i64 ia,.int .i64 ib,.int .i64 imm],.int .u64 a,.int .u64 b]) [(#[.int .i64 op,.int .i64 rd,.int .i64 ia,.int .i64 ib,.int .i64 imm],63)] Tryz.func67 rfl (by subst p q;kernel_rfl) (by subst p q;kernel_rfl) ?_
  refine wk_tag 0 2 (wk_tag 5 3 ?_)
  cases hz:(a.tmod sz != 0) with
  | true =>
    rw [hz,if_pos rfl] at eV
    subst eV
    exact Hx.last (Hs.eng (dr:=true) (fun _ h=>h.hs)) { eq:=[(29,eqI .i64 e63),(31,eqB g31),(33,eqI .i64 e74),(40,eqB g40),(90,eqB hz)],ov:=[(89,ovR .u64 a sz hs0)] } 160 (Hx.start h _) (fun W hW=>trap_r 6 (by decide) a hW.ht hg) rfl (by subst p q;kernel_rfl) (by subst p q;kernel_rfl) (fun _=>by subst p q;kernel_rfl)
  | false =>
  rw [hz,if_neg (by decide)] at eV
  refine wk_ac (Hs.eng (dr:=true) (fun _ h=>h.hs)) { eq:=[(29,eqI .i64 e63),(31,eqB g31),(33,eqI .i64 e74),(40,eqB g40),(90,eqB hz)],ov:=[(89,ovR .u64 a sz hs0)] } 160 (Hx.start h _) (fun W hW=>hld2 W hW.mp) (by subst p q;kernel_rfl) (by subst p q;kernel_rfl) ?_
  rintro W3 e W4 h3 ⟨rfl,h4,k4⟩
  refine ⟨_,0,rfl,nob (by subst p q;kernel_rfl),wk_S (Hs r (hartR hh r :: boxR w.heap.size [(#[.int .i64 op,.int .i64 rd,.int .i64 ia,.int .i64 ib,.int .i64 imm],63)]) (mvc N A)) (by subst p q;kernel_rfl) ?_⟩
  have h5:=h3.step h4 k4
  cases hc:(((c:Nat):Int) != 0) with
  | true =>
    rw [hc,if_pos rfl] at eV
    subst eV
    exact Hx.last (Hs.eng (dr:=true) (fun _ h=>h.hs)) { eq:=[(105,eqB hc)] } 60 h5 (fun W hW=>trap_r c c16 a hW.ht gl) rfl (by subst p q;kernel_rfl) (by subst p q;kernel_rfl) (fun _=>by subst p q;kernel_rfl)
  | false =>
  rw [hc,if_neg (by decide)] at eV
  rw [hpc] at eV
  have ga:=gl.acc a sz 2 0
  have hac:=fun W (hW:Mp B r N A W)=>l9Access_any N A B r a sz 2 0 W hW gl.len gl.mw gl.ok (by subst p q;decide) (by omega) (by omega) ha ⟨by decide,by decide⟩
  have ec:=fun c=>code_18 (M:=N) (addr:=a) (size:=sz) (x:=0) (c:=c)
  generalize accV N a sz 2 0=X at *
  obtain ⟨y,N2,c2⟩:=X
  dsimp only at ga hac ec eV hU
  have hv:=hV2 y hU
  refine wk_ac (Hs.eng (dr:=true) (fun _ h=>h.hs)) { eq:=[(105,eqB hc),(111,eqB g111)] } 90 h5 (fun W1 h1=>hac W1 h1.mp) (by subst p q;kernel_rfl) (by subst p q;kernel_rfl) ?_
  rintro W6 e W7 h6 ⟨rfl,C,h7,k7⟩
  refine ⟨_,0,rfl,nob (by subst p q;kernel_rfl),wk_S (Hs r (hartR hh r :: boxR w.heap.size [(#[.int .i64 op,.int .i64 rd,.int .i64 ia,.int .i64 ib,.int .i64 imm],63)]) (mvc N2 C)) (by subst p q;kernel_rfl) ?_⟩
  cases hc2:(c2 != 0) with
  | true =>
    rw [hc2,if_pos rfl] at eV
    subst eV
    exact Hx.last (Hs.eng (dr:=true) (fun _ h=>h.hs)) { eq:=[(167,eqB hc2),(170,eqI .i64 (ec c2 rfl hc2).1),(171,eqI .i64 (ec c2 rfl hc2).2.1)] } 60 (h6.step h7 k7) (fun W hW=>trap_r _ (ec c2 rfl hc2).2.2 a hW.ht ga) rfl (by subst p q;kernel_rfl) (by subst p q;kernel_rfl) (fun _=>by subst p q;kernel_rfl)
  | false =>
  rw [hc2,if_neg (by decide)] at eV
  have gb:=ga.acc a sz 3 (amoV op y b)
  have hbc:=fun W (hW:Mp B r N2 C W)=>l9Access_any N2 C B r a sz 3 (amoV op y b) W hW ga.len ga.mw ga.ok (by subst p q;decide) (by omega) (by omega) ha hv
  have ed:=fun c=>code_16 (M:=N2) (addr:=a) (size:=sz) (kind:=3) (x:=amoV op y b) (c:=c)
  have hAm:=fun W=>specAmo_any op y b hU.1 hU.2 hb.1 hb.2 W
  generalize accV N2 a sz 3 (amoV op y b)=X at *
  generalize amoV op y b=z at *
  generalize amoB op=zb at *
  obtain ⟨y2,N4,c3⟩:=X
  dsimp only at gb hbc ed eV
  refine wk_ac (Hs.eng (dr:=true) (fun _ h=>h.hs)) { eq:=[(167,eqB hc2)] } 60 (h6.step h7 k7) (fun W1 h1=>hAm W1) (by subst p q;kernel_rfl) (by subst p q;kernel_rfl) ?_
  rintro W8 e W9 h8 ⟨rfl,hw9⟩
  subst hw9
  refine ⟨_,0,rfl,nob (by subst p q;kernel_rfl),?_⟩
  refine wk_ac (Hs.eng (dr:=true) (fun _ h=>h.hs)) {} 60 h8 (fun W1 h1=>hbc W1 h1.mp) (by subst p q;kernel_rfl) (by subst p q;kernel_rfl) ?_
  rintro Wa e Wb ha1 ⟨rfl,C2,hb1,kb⟩
  refine ⟨_,0,rfl,nob (by subst p q;kernel_rfl),wk_S (Hs r (hartR hh r :: boxR w.heap.size [(#[.int .i64 op,.int .i64 rd,.int .i64 ia,.int .i64 ib,.int .i64 imm],63)]) (mvc N4 C2)) (by subst p q;kernel_rfl) ?_⟩
  cases hc3:(c3 != 0) with
  | true =>
    rw [hc3,if_pos rfl] at eV
    subst eV
    exact Hx.last (Hs.eng (dr:=true) (fun _ h=>h.hs)) { eq:=[(195,eqB hc3),(198,eqI .i64 (ed c3 rfl hc3).1)] } 60 (ha1.step hb1 kb) (fun W hW=>trap_r _ (ed c3 rfl hc3).2 a hW.ht gb) rfl (by subst p q;kernel_rfl) (by subst p q;kernel_rfl) (fun _=>by subst p q;kernel_rfl)
  | false =>
    rw [hc3,if_neg (by decide)] at eV
    subst eV
    refine wk_adv (Hs.eng (dr:=false) (fun _ h=>h.hs)) { eq:=[(195,eqB hc3)] } 60 (ha1.step hb1 kb) (by subst p q;kernel_rfl) (by subst p q;kernel_rfl) fun Wc hc9=>?_
    refine wk_K 9 (by subst p q;kernel_rfl) (by subst p q;kernel_rfl) ?_
    refine wk_ac (Hs.eng (dr:=true) (fun _ h=>h.hs)) {} 60 (hc9.below (Below.refl _ _).drew) (fun W _=>l1Widen_any y (8*sz) (by subst p q;decide) (by subst p q;decide) W) (by subst p q;kernel_rfl) (by subst p q;kernel_rfl) ?_
    rintro W10 e W11 h10 ⟨rfl,hw11⟩
    subst hw11
    refine ⟨_,0,rfl,fun _=>h10.hs,?_⟩
    exact Hx.last (Hs.eng (dr:=true) (fun _ h=>h.hs)) {} 60 h10 (fun W hW=>done_r rd (widen (8*sz) y) _ hr0 hr1 hW.ht gb.x32 (mach_parts gb.ok).1) rfl (by subst p q;kernel_rfl) (by subst p q;kernel_rfl) (fun _=>by subst p q;kernel_rfl)

end

def Ud (D:DV):Prop:=U D.t∧U D.cm

theorem wf_op {x:Int} (h0 : -9223372036854775808≤x) (h1:x < 9223372036854775808):(Lit.int .i64 x).wf=true:=by
 simp [Lit.wf,IntKind.min,IntKind.max,IntKind.signed,IntKind.bits];omega

theorem u_0:U 0:=⟨by decide,by decide⟩

theorem u_byte {zs:List Int} (h:∀ y ∈ zs,(Lit.int .u8 y).wf=true) (i:Nat):0≤zs.getD i 0∧zs.getD i 0≤255:=by
 by_cases hi:i < zs.length
 ·exact wf8q_bd (h (zs.getD i 0) (by simp [List.getD,List.getElem?_eq_getElem hi]))
 ·simp [List.getD,List.getElem?_eq_none (Nat.le_of_not_lt hi)]

theorem ld_U {D:DV} (h:Ud D) (hb:bytesOk D) (k:Nat):U (ldV D k).1:=by
 unfold ldV
 split
 ·show U (oneIf D.so)
  cases D.so<;>exact ⟨by decide,by decide⟩
 ·exact h.2
 ·exact h.1
 ·have:=u_byte hb.1 0;exact ⟨this.1,by show D.xs.getD 0 0 < _;omega⟩
 ·exact U_wrap _
 ·exact U_wrap _
 ·exact u_0

theorem at_U {M:MV} (h:Gd M) (hd:Ud M.d) (pa:Int) (n:Nat) (hn:n≤8) (kind x:Int):U (atM M pa n kind x).1:=by
 unfold atM
 split
 ·split
  ·exact u_0
  ·exact le_bd8 M.ram (u_byte h.mw.ram) _ _ (by rw [Int.toNat_natCast];exact hn)
 ·split
  ·split
   ·exact ld_U hd ⟨h.mw.xs,h.mw.ys⟩ _
   ·exact u_0
  ·split
   ·split<;>exact u_0
   ·exact u_0

theorem acc_U {M:MV} (h:Gd M) (hd:Ud M.d) (a:Int) (n:Nat) (hn:n≤8) (kind x:Int):U (accV M a n kind x).1:=by
 unfold accV
 split
 ·exact u_0
 ·unfold accW
  split
  ·exact u_0
  ·split
   ·exact u_0
   ·exact at_U (h.marked _) hd _ n hn kind x

theorem ld_Ud {D:DV} (h:Ud D) (k:Nat):Ud (ldV D k).2.1:=by
 unfold ldV
 split
 ·exact h
 ·exact h
 ·exact h
 ·exact ⟨h.1,h.2⟩
 ·exact h
 ·exact h
 ·exact ⟨u_0,u_0⟩

theorem st_Ud {D:DV} (h:Ud D) {x:Int} (hx:U x) (addr size:Int):Ud (stV D x (sel addr size)).1:=by
 have h0:=stV_0 D x
 have h1:=stV_1 D x
 have h2:=stV_2 D x
 have h3:(stV D x 3).1.t=D.t∧(stV D x 3).1.cm=D.cm:=by
  by_cases hl:D.ys.length < 4096
  ·rw [stV_3r _ _ hl];exact ⟨rfl,rfl⟩
  ·rw [stV_3f _ _ hl];exact ⟨rfl,rfl⟩
 obtain ⟨q,h4⟩:∃ q,stV D x 4=(⟨D.t,D.cm,D.so,D.xs,D.ys,q⟩,true):=⟨_,stV_4 D x⟩
 have h5:=stV_5 D x
 have h6:=stV_6 D x
 generalize (bits .and .u64 x 1==1)=r at h0
 refine sel_cases addr size (fun k=>Ud (stV D x k).1) (fun _ _=>?_) (fun _ _=>?_) (fun _ _=>?_) (fun _ _=>?_) (fun _ _=>?_) (fun _ _=>?_) (fun _ _ _ _ _ _=>?_)
 ·show Ud (stV D x 0).1
  rw [h0];exact ⟨h.1,h.2⟩
 ·show Ud (stV D x 1).1
  rw [h1];exact ⟨h.1,hx⟩
 ·show Ud (stV D x 2).1
  rw [h2];exact ⟨hx,h.2⟩
 ·show Ud (stV D x 3).1
  unfold Ud;rw [h3.1,h3.2];exact h
 ·have e:(stV D x 4).1=⟨D.t,D.cm,D.so,D.xs,D.ys,q⟩:=congrArg Prod.fst h4
  exact e ▸ (⟨h.1,h.2⟩:Ud ⟨D.t,D.cm,D.so,D.xs,D.ys,q⟩)
 ·show Ud (stV D x 5).1
  rw [h5];exact h
 ·show Ud (stV D x 6).1
  rw [h6];exact ⟨u_0,u_0⟩

theorem let_Ud {M:MV} (h:Ud M.d) (pa:Int):Ud (letM M pa).d:=by unfold letM;split<;>exact h

theorem acc_Ud {M:MV} (h:Ud M.d) (a n kind:Int) {x:Int} (hx:U x):Ud (accV M a n kind x).2.1.d:=by
 have key:∀ (N:MV) (pa:Int),Ud N.d→Ud (atM N pa n kind x).2.1.d:=by
  intro N pa hN
  unfold atM
  split
  ·split
   ·have k:∀ R,Ud (letM (memM N R) pa).d:=fun R=>let_Ud (M:=memM N R) hN pa
    exact k _
   ·exact hN
  ·split
   ·split
    ·have k:∀ D,Ud D→Ud (lineM (devM N D)).d:=fun D hD=>hD
     exact k _ (ld_Ud hN _)
    ·exact hN
   ·split
    ·split
     ·have k:∀ D,Ud D→Ud (letM (lineM (devM N D)) pa).d:=fun D hD=>let_Ud (M:=lineM (devM N D)) hD pa
      exact k _ (st_Ud hN hx _ _)
     ·exact hN
    ·exact hN
 unfold accV
 split
 ·exact h
 ·unfold accW
  split
  ·exact h
  ·split
   ·exact h
   ·have k:∀ R pa,Ud (atM (memM M R) pa n kind x).2.1.d:=fun R pa=>key (memM M R) pa h
    exact k _ _

theorem mf_U (f:MF) {a b:Int} (ha:U a) (hb:U b):U (f.v a b):=by
 cases f<;>unfold MF.v<;>dsimp only
 ·exact hb
 ·exact U_wrap _
 ·exact U_bits _ _ _
 ·exact U_bits _ _ _
 ·exact U_bits _ _ _
 all_goals (split<;>assumption)

theorem amo_U (op:Int) {a b:Int} (ha:U a) (hb:U b):U (amoV op a b):=by
 unfold amoV
 split
 ·exact mf_U _ ha hb
 ·split
  ·generalize (mfAt (op - 65).toNat).v (widen 32 a) (widen 32 b)=y
   unfold U;omega
  ·exact u_0

section
variable {B hh r : Nat} {M : MV} {A : MA} {w : World}

theorem atomic_r (i:Ins) (a b:Int) (h63:63≤i.op) (h84:i.op≤84) (hr0:0≤i.rd) (hr1:i.rd≤31) (ha:U a) (hb:U b) (h:Ht B hh r M A w) (hg:Gd M) (hd:Ud M.d) :
 Calls Tryz.prog 67 #[.pointer (some ⟨hh,0,none⟩),.agg #[.int .i64 i.op,.int .i64 i.rd,.int .i64 i.a,.int .i64 i.b,.int .i64 i.imm],.int .u64 a,.int .u64 b] w (HR B hh r M A w (atomM M i a b)):=by
 obtain ⟨op,rd,ia,ib,imm⟩:=i
 dsimp only at h63 h84 hr0 hr1 ⊢
 by_cases e1:op=63
 ·subst e1;exact lr_q _ rd ia ib imm a b (.inl rfl) hr0 hr1 ha hb h hg
 by_cases e2:op=64
 ·subst e2;exact sc_q _ rd ia ib imm a b (.inl rfl) hr0 hr1 ha hb h hg
 by_cases e3:op≤73
 ·exact amo_q op rd ia ib imm a b 4 (by omega) hr0 hr1 ha hb h hg (acc_U (hg.marked _) hd a 4 (by omega) 2 0) (fun y hy=>amo_U op hy hb)
 by_cases e4:op=74
 ·subst e4;exact lr_q _ rd ia ib imm a b (.inr rfl) hr0 hr1 ha hb h hg
 by_cases e5:op=75
 ·subst e5;exact sc_q _ rd ia ib imm a b (.inr rfl) hr0 hr1 ha hb h hg
 exact amo_q op rd ia ib imm a b 8 (by omega) hr0 hr1 ha hb h hg (acc_U (hg.marked _) hd a 8 (by omega) 2 0) (fun y hy=>amo_U op hy hb)

end

end Go.Proofs.YtbajeckeeekhnaaGreat
