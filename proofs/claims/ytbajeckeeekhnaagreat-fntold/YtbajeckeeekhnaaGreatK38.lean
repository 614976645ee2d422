/- Own lemmas. -/
import Derived.Test.YtbajeckeeekhnaaGreatK11
import Derived.Test.YtbajeckeeekhnaaGreatK14
import Derived.Test.YtbajeckeeekhnaaGreatK18
import Derived.Test.YtbajeckeeekhnaaGreatK19
import Derived.Test.YtbajeckeeekhnaaGreatK25
import Derived.Test.YtbajeckeeekhnaaGreatK36
import Derived.Test.YtbajeckeeekhnaaGreatK37
import Derived.Deep.RegionHeld3
namespace Go.Proofs.YtbajeckeeekhnaaGreat
open Go.RowKit
set_option linter.unusedVariables false

theorem sl_at {w:World} {b off:Nat} {l:List Int} (h:Sl .u64 w (some ⟨b,off,none⟩) l) (k:Nat) (hk:k < l.length):b < w.heap.size∧w.cell? ⟨b,off+k,none⟩=some (.int .u64 (l.getD k 0)):=by
 obtain ⟨b',off',e,hb,hc⟩:=h k hk
 simp only [Option.some.injEq,Addr.mk.injEq,and_true] at e
 obtain ⟨rfl,rfl⟩:=e
 exact ⟨hb,hc⟩

set_option maxRecDepth 100000 in
theorem l5Pending_any (b off cap:Nat) (l:List Int) (p:Int) (hp:privB p=true) (w:World) (hz:l.length=22) (hs:Sl .u64 w (some ⟨b,off,none⟩) l) :
 Calls Tryz.prog 57 #[.slice (some ⟨b,off,none⟩) 22 cap,.int .i64 p] w fun e w'=>e=.returned (.int .i64 (pendV l p))∧Below w.heap.size w w':=by
 obtain ⟨V,hV⟩:∃ V,V=pendV l p:=⟨_,rfl⟩
 rw [← hV]
 unfold pendV pendS hearM hearS waitV at hV
 have cc:∀ j,j < 22→∀ W,Bs w [] W→W.cell? ⟨b,off+j,none⟩=some (.int .u64 (l.getD j 0)):=fun j hj W h=>(h.2.cell (by exact (sl_at hs 0 (by omega)).1)).trans (sl_at hs j (by omega)).2
 have F1:=fun x W (_:Below w.heap.size w W)=>l5First_any x W
 have HB:=fun (i:Nat) (hi:i < 64) W (_:Below w.heap.size w W)=>l5Bit_any (l.getD 0 0) i hi W
 refine wk_go (S:=Bs w []) (args:=[.slice (some ⟨b,off,none⟩) 22 cap,.int .i64 p]) [] Tryz.func57 rfl (by kernel_rfl) (by kernel_rfl) ?_
 have hp3:p=0∨p=1∨p=3:=by simpa [privB,or_assoc] using hp
 cases d1:decide (firstV (bits .andNot .u64 (bits .and .u64 (l.getD 9 0) (l.getD 3 0)) (l.getD 2 0)) ≥ 0)<;>cases d2:(bitAt (l.getD 0 0) 1==1)<;>cases d3:(bitAt (l.getD 0 0) 3==1)<;>rw [d1,d2,d3] at hV<;>rcases hp3 with rfl | rfl | rfl <;>
  exact wk_end (t:=4) (v:=.int .i64 V) Bs.eng { eq:=[(21,eqB d3),(30,eqB d1),(42,eqB d2)],ov:=[(9,ovL ⟨b,off+9,none⟩ _ Tryz.underlying24 rfl (cc 9 (by omega))),(12,ovL ⟨b,off+3,none⟩ _ Tryz.underlying24 rfl (cc 3 (by omega))),(19,ovL ⟨b,off+0,none⟩ _ Tryz.underlying24 rfl (cc 0 (by omega))),(40,ovL ⟨b,off+0,none⟩ _ Tryz.underlying24 rfl (cc 0 (by omega))),(26,ovL ⟨b,off+2,none⟩ _ Tryz.underlying24 rfl (cc 2 (by omega))),(48,ovL ⟨b,off+2,none⟩ _ Tryz.underlying24 rfl (cc 2 (by omega)))],cv:=[(20,cvE (HB 3 (by omega))),(41,cvE (HB 1 (by omega))),(28,cvW (F1 (bits .andNot .u64 (bits .and .u64 (l.getD 9 0) (l.getD 3 0)) (l.getD 2 0)))),(50,cvW (F1 (bits .and .u64 (bits .and .u64 (l.getD 9 0) (l.getD 3 0)) (l.getD 2 0))))] } 120 (Bs.start _ _) (by subst hV;kernel_rfl) (by subst hV;kernel_rfl) rfl (fun w' h=>⟨rfl,h.2⟩)

theorem pend_16 (l:List Int) (p:Int) (h:0≤pendV l p):∃ k:Nat,k < 16∧pendV l p=k:=by
 have key:∀ x,0≤firstV x→∃ k:Nat,k < 16∧firstV x=k:=fun x hx=>by
  unfold firstV at hx ⊢
  rcases firstIn_bd x ranks with e | ⟨n,hn,e,_⟩
  ·rw [e] at hx;omega
  ·refine ⟨n,?_,e⟩
   have:∀ m ∈ ranks,m < 16:=by decide
   exact this n hn
 unfold pendV at h ⊢
 split at h
 ·exact key _ h
 ·unfold pendS at h ⊢
  split at h
  ·exact key _ h
  ·omega

section
variable {B hh r : Nat} {M : MV} {A : MA} {w : World}

theorem pend_ht (h:Ht B hh r M A w) (hg:Gd M):Calls Tryz.prog 57 #[.slice A.ac M.cs.length A.cc,.int .i64 M.pr] w fun e w'=>e=.returned (.int .i64 (pendV M.cs M.pr))∧Below w.heap.size w w':=by
 obtain ⟨h22,hcs,hpr,_,_,_⟩:=mach_parts hg.ok
 obtain ⟨g,hac,hown,_⟩:=h.mp.cs h22
 rw [hac,h22]
 exact l5Pending_any g 0 A.cc M.cs M.pr hpr w h22 (own_sl' hown)

theorem Hx.var {L:List Kr} {M0:MV} {A0:MA} {w0 W:World} (h:Hx B r L M0 A0 w0 M A W) {W':World} (hb:Below W.heap.size W W') (x:Kr) (hx:W'.heap[x.b]?=some (.cells x.cs x.t (0,0))) (hn:W.heap.size≤x.b):Hx B r (L ++ [x]) M0 A0 w0 M A W':=by
 have h2:=h.below hb
 refine ⟨h2.mp,h2.kx,fun y hy=>?_⟩
 rcases List.mem_append.1 hy with hy | hy
 ·exact h2.rows y hy
 ·rw [List.mem_singleton] at hy
  subst hy
  refine ⟨hx,by have:=h.mp.lt;omega,fun q hq e=>?_⟩
  have:=((h.mp.fam.own q hq).lt y.b e).2
  omega

end

section
variable {B hh r : Nat} {M : MV} {A : MA} {w : World}

set_option maxRecDepth 100000 in
theorem step_r (h:Ht B hh r M A w) (hg:Gd M) (hd:Ud M.d):Calls Tryz.prog 47 #[.pointer (some ⟨hh,0,none⟩)] w (HR B hh r M A w (stepM M)):=by
 obtain ⟨h22,hcs,hpr,_,_,_⟩:=mach_parts hg.ok
 obtain ⟨b,hb,hcell⟩:=h.atC h22
 have cc:∀ (j:Nat),j < 22→∀ W,Hx B r [hartR hh r] M A w M A W→W.cell? ⟨b,j,none⟩=some (.int .u64 (M.cs.getD j 0)):=fun j hj W hW=>by
  obtain ⟨b',hb',hcell'⟩:=hW.ht.atC h22
  rw [hb] at hb'
  cases hb'
  exact (hcell' j hj).1
 have fin:∀ (S:World→Prop) (W:World),Hx B r [hartR hh r] M A w M A W→(M.wt&&(waitV M.cs==0))=false→Wg Tryz.prog S (bodyPost Tryz.prog Tryz.f47 (HR B hh r M A w (stepM M))) Tryz.f47.ntmps [.code (dropC 3 (bodyOf Tryz.f47))] [(0,.pointer (some ⟨hh,0,none⟩),2),(3,.pointer (some ⟨r,0,none⟩),1)] W:=by
  intro S W hW hn
  clear cc hcell hb
  have eV:stepM M=if 0≤pendV M.cs M.pr then (trapM (waitM M false) (pendV M.cs M.pr).toNat true 0,3) else (let q:=accV (waitM M false) M.pc 4 1 0;if (q.2.2 != 0)=true then refuseM q 0 q.2.1.pc else match dec q.1 with | none=>(trapM q.2.1 2 false q.1,2) | some i=>execM q.2.1 i q.1):=by
   unfold stepM;rw [hn,if_neg (by decide)];rfl
  rw [eV]
  clear eV
  have g1:=hg.wait false
  have hpd:pendV M.cs M.pr=pendV (waitM M false).cs (waitM M false).pr:=rfl
  have hpc:M.pc=(waitM M false).pc:=rfl
  have hd1:Ud (waitM M false).d:=hd
  refine wk_S (Hs r [hartR hh r] (mvc M A)) (by kernel_rfl) ?_
  refine wk_adv (Hs.eng (dr:=false) (fun _ h=>h.hs)) {} 40 hW (by kernel_rfl) (by kernel_rfl) fun W1 h1=>?_
  refine wk_sk (by kernel_rfl) (run_stc (i:=13) (T:=4) (v:=.bool false) h1.mp.row (show 13 < 14 by decide) (by kernel_rfl) rfl) (nob (by kernel_rfl)) ?_
  have h2:=h1.fld (M':=waitM M false) 13 (.bool false) rfl rfl
  rw [hpd,hpc]
  generalize waitM M false=N at g1 h2 hd1 ⊢
  clear hpd hpc
  refine wk_S (Hx B r [hartR hh r] M A w N A) (by kernel_rfl) ?_
  by_cases e:0≤pendV N.cs N.pr
  ·obtain ⟨k,k16,hk⟩:=pend_16 _ _ e
   have q:decide (0≤((k:Nat):Int))=true:=by rw [decide_eq_true_eq];omega
   have hc:∀ W,Hx B r [hartR hh r] M A w N A W→Calls Tryz.prog 57 #[.slice A.ac N.cs.length A.cc,.int .i64 N.pr] W fun e w'=>e=.returned (.int .i64 ((k:Nat):Int))∧Below W.heap.size W w':=fun W hW=>hk ▸ pend_ht hW.ht g1
   rw [if_pos e,hk,Int.toNat_natCast]
   clear hk e
   refine wk_adv (Hx.eng (dr:=true)) { eq:=[(52,eqB q)],cv:=[(50,cvC (fun h k=>h.below k) fun W hW=>hc W hW)] } 22 h2 (by kernel_rfl) (by kernel_rfl) fun W3 h3=>?_
   have hl:(trapM N k true 0).cs.length=N.cs.length:=enterL_len _ _ _ _ _ _
   have em:mvc (csM N (trapM N k true 0).cs) A=mvc N A:=by unfold mvc csM;dsimp only;rw [hl]
   refine wk_S (Hs r [hartR hh r] (mvc N A)) (by kernel_rfl) ?_
   refine wk_K 21 (by kernel_rfl) (by kernel_rfl) ?_
   refine wk_ac (Hs.eng (dr:=true) (fun _ h=>h.hs)) {} 100 (h3.below (Below.refl _ _).drew) (fun W1 h1=>l5Enter_ht h1.ht g1 k k16 true 0) (by kernel_rfl) (by kernel_rfl) ?_
   rintro W4 e W5 h4 ⟨rfl,h5,k5⟩
   have h6:=h4.to h5 k5
   refine ⟨_,0,rfl,fun _=>em ▸ h6.hs,?_⟩
   refine wk_adv (Hs.eng (dr:=true) (fun _ h=>em ▸ h.hs)) {} 40 h6 (by kernel_rfl) (by kernel_rfl) fun W7 h7=>?_
   refine wk_sk (by kernel_rfl) (run_stc (i:=2) (T:=2) (v:=.int .i64 (trapM N k true 0).pr) h7.mp.row (show 2 < 14 by decide) (by kernel_rfl) rfl) (nob (by kernel_rfl)) ?_
   have h8:=h7.fld (M':=privM (csM N (trapM N k true 0).cs) (trapM N k true 0).pr) 2 (.int .i64 (trapM N k true 0).pr) rfl rfl
   refine wk_S (Hx B r [hartR hh r] M A w (privM (csM N (trapM N k true 0).cs) (trapM N k true 0).pr) A) (by kernel_rfl) ?_
   refine wk_adv (Hx.eng (dr:=true)) {} 40 h8 (by kernel_rfl) (by kernel_rfl) fun W9 h9=>?_
   refine wk_sk (by kernel_rfl) (run_stc (i:=0) (T:=24) (v:=.int .u64 (trapM N k true 0).pc) h9.mp.row (show 0 < 14 by decide) (by kernel_rfl) rfl) (nob (by kernel_rfl)) ?_
   have h10:=h9.fld (M':=trapM N k true 0) 0 (.int .u64 (trapM N k true 0).pc) rfl rfl
   refine wk_S (Hx B r [hartR hh r] M A w (trapM N k true 0) A) (by kernel_rfl) ?_
   exact wk_end (t:=2) (v:=.int .i64 3) (Hx.eng (dr:=true)) { cv:=[(77,cvS fun W hW=>drop_any (trapM N k true 0) A B hh r W hW.ht)] } 40 h10 (by kernel_rfl) (by kernel_rfl) rfl fun W hW=>hW.hr 3
  ·have q:decide (0≤pendV N.cs N.pr)=false:=by rw [decide_eq_false_iff_not];exact e
   rw [if_neg e]
   clear e
   generalize hpv:pendV N.cs N.pr=pv at q
   have hc:∀ W,Hx B r [hartR hh r] M A w N A W→Calls Tryz.prog 57 #[.slice A.ac N.cs.length A.cc,.int .i64 N.pr] W fun e w'=>e=.returned (.int .i64 pv)∧Below W.heap.size W w':=fun W hW=>hpv ▸ pend_ht hW.ht g1
   clear hpv
   refine wk_adv (Hx.eng (dr:=true)) { eq:=[(52,eqB q)],cv:=[(50,cvC (fun h k=>h.below k) fun W hW=>hc W hW)] } 22 h2 (by kernel_rfl) (by kernel_rfl) fun W3 h3=>?_
   refine wk_join [.code (dropC 5 (bodyOf Tryz.f47))] [(0,.pointer (some ⟨hh,0,none⟩),2),(3,.pointer (some ⟨r,0,none⟩),1)] (by kernel_rfl) (by kernel_rfl) ?_
   clear hc q
   have ga:=g1.acc N.pc 4 1 0
   have hac:=fun W (hW:Mp B r N A W)=>l9Access_any N A B r N.pc 4 1 0 W hW g1.len g1.mw g1.ok (by decide) (by omega) (by omega) g1.pc u_0
   have ec:=fun c=>code_16 (M:=N) (addr:=N.pc) (size:=4) (kind:=1) (x:=0) (c:=c)
   have uy:=acc_U g1 hd1 N.pc 4 (by omega) 1 0
   have ud:=acc_Ud hd1 N.pc 4 1 u_0
   rw [show ((4:Nat):Int)=4 from rfl] at uy
   generalize accV N N.pc 4 1 0=X at *
   obtain ⟨y,N2,c⟩:=X
   dsimp only at ga hac ec uy ud ⊢
   refine wk_S (Hs r [hartR hh r] (mvc N A)) (by kernel_rfl) ?_
   refine wk_adv (Hs.eng (dr:=false) (fun _ h=>h.hs)) {} 1 h3 (by kernel_rfl) (by kernel_rfl) fun W4 h4=>?_
   refine wk_K 9 (by kernel_rfl) (by kernel_rfl) ?_
   refine wk_ac (Hs.eng (dr:=true) (fun _ h=>h.hs)) {} 100 (h4.below (Below.refl _ _).drew) (fun W1 h1=>hac W1 h1.mp) (by kernel_rfl) (by kernel_rfl) ?_
   rintro W5 e W6 h5 ⟨rfl,C,h6,k6⟩
   refine ⟨_,0,rfl,nob (by kernel_rfl),wk_S (Hs r [hartR hh r] (mvc N2 C)) (by kernel_rfl) ?_⟩
   have h7:=h5.step h6 k6
   cases hc:(c != 0) with
   | true =>
     rw [if_pos rfl]
     have tg:∀ W,Hx B r [hartR hh r] M A w N2 C W→Calls Tryz.prog 61 #[.pointer (some ⟨hh,0,none⟩),.int .i64 ((c - 16).toNat:Nat),.int .u64 N2.pc] W (HR B hh r N2 C W (refuseM (y,N2,c) 0 N2.pc)):=fun W hW=>trap_r _ (ec c rfl hc).2 N2.pc hW.ht ga
     exact Hx.last (Hs.eng (dr:=true) (fun _ h=>h.hs)) { eq:=[(92,eqB hc),(95,eqI .i64 (ec c rfl hc).1)] } 60 h7 tg rfl (by kernel_rfl) (by kernel_rfl) (fun _=>by kernel_rfl)
   | false =>
     rw [if_neg (by decide)]
     have hdv:=fun W=>specDecode_any y uy.1 uy.2 W
     unfold decV at hdv
     cases he:dec y with
     | none =>
       simp only [he] at hdv
       refine wk_ac (Hs.eng (dr:=true) (fun _ h=>h.hs)) { eq:=[(92,eqB hc)] } 60 h7 (fun W1 h1=>hdv W1) (by kernel_rfl) (by kernel_rfl) ?_
       rintro W8 e W9 h8 ⟨rfl,k9⟩
       refine ⟨_,0,rfl,nob (by kernel_rfl),?_⟩
       have h9:=h8.below k9
       refine wk_adv (Hs.eng (dr:=false) (fun _ h=>h.hs)) {} 3 h9 (by kernel_rfl) (by kernel_rfl) fun W10 h10=>?_
       refine wk_op 3 (by kernel_rfl) (run_al (T:=63) (z:=.agg #[.int .i64 0,.int .i64 0,.int .i64 0,.int .i64 0,.int .i64 0]) (by kernel_rfl) W10) (nob (by kernel_rfl)) ?_
       refine wk_sk (by kernel_rfl) (run_stRow (g:=W10.heap.size) (t:=63) (ty:=63) (old:=#[.int .i64 0,.int .i64 0,.int .i64 0,.int .i64 0,.int .i64 0]) (cells:=#[.int .i64 0,.int .i64 0,.int .i64 0,.int .i64 0,.int .i64 0]) (heap_alloc_new _ _) (by kernel_rfl) rfl (by kernel_rfl)) (nob (by kernel_rfl)) ?_
       have h11:=h10.below (below_setRow ((Below.refl _ _).alloc (Nat.le_refl W10.heap.size) (.cells #[.int .i64 0,.int .i64 0,.int .i64 0,.int .i64 0,.int .i64 0] 63)) (Nat.le_refl _) #[.int .i64 0,.int .i64 0,.int .i64 0,.int .i64 0,.int .i64 0])
       have tg:∀ W,Hx B r [hartR hh r] M A w N2 C W→Calls Tryz.prog 61 #[.pointer (some ⟨hh,0,none⟩),.int .i64 2,.int .u64 y] W (HR B hh r N2 C W (trapM N2 2 false y,2)):=fun W hW=>trap_r 2 (by decide) y hW.ht ga
       exact Hx.last (Hs.eng (dr:=true) (fun _ h=>h.hs)) {} 60 h11 tg rfl (by kernel_rfl) (by kernel_rfl) (fun _=>by kernel_rfl)
     | some i =>
       simp only [he] at hdv
       have hi:=dec_ok he
       refine wk_ac (Hs.eng (dr:=true) (fun _ h=>h.hs)) { eq:=[(92,eqB hc)] } 60 h7 (fun W1 h1=>hdv W1) (by kernel_rfl) (by kernel_rfl) ?_
       rintro W8 e W9 h8 ⟨rfl,k9⟩
       refine ⟨_,0,rfl,nob (by kernel_rfl),?_⟩
       have h9:=h8.below k9
       refine wk_adv (Hs.eng (dr:=false) (fun _ h=>h.hs)) {} 3 h9 (by kernel_rfl) (by kernel_rfl) fun W10 h10=>?_
       refine wk_op 3 (by kernel_rfl) (run_al (T:=63) (z:=.agg #[.int .i64 0,.int .i64 0,.int .i64 0,.int .i64 0,.int .i64 0]) (by kernel_rfl) W10) (nob (by kernel_rfl)) ?_
       refine wk_sk (by kernel_rfl) (run_stRow (g:=W10.heap.size) (t:=63) (ty:=63) (old:=#[.int .i64 0,.int .i64 0,.int .i64 0,.int .i64 0,.int .i64 0]) (cells:=#[.int .i64 i.op,.int .i64 i.rd,.int .i64 i.a,.int .i64 i.b,.int .i64 i.imm]) (heap_alloc_new _ _) (by kernel_rfl) rfl (by kernel_rfl)) (nob (by kernel_rfl)) ?_
       have h11:Hx B r [hartR hh r,insR W10.heap.size i] M A w N2 C ((W10.alloc (.cells #[.int .i64 0,.int .i64 0,.int .i64 0,.int .i64 0,.int .i64 0] 63)).setRow W10.heap.size #[.int .i64 i.op,.int .i64 i.rd,.int .i64 i.a,.int .i64 i.b,.int .i64 i.imm]):=h10.var (below_setRow ((Below.refl _ _).alloc (Nat.le_refl W10.heap.size) _) (Nat.le_refl _) _) (insR W10.heap.size i) (setRow_heap _ _ _ _ _ _ (heap_alloc_new _ _)) (Nat.le_refl _)
       refine wk_S (Hx B r [hartR hh r,insR W10.heap.size i] M A w N2 C) (by kernel_rfl) ?_
       refine wk_adv (Hx.eng (dr:=false)) {} 10 h11 (by kernel_rfl) (by kernel_rfl) fun W12 h12=>?_
       exact wk_join _ _ (by kernel_rfl) (by kernel_rfl) (exec_r i y hi uy h12 ga ud)
 refine wk_go (S:=Hx B r [hartR hh r] M A w M A) (args:=[.pointer (some ⟨hh,0,none⟩)]) [] Tryz.func47 rfl (by kernel_rfl) (by kernel_rfl) ?_
 refine wk_tag 0 2 ?_
 have h0:=Hx.start h []
 cases hw:M.wt with
 | true =>
   cases hz:(waitV M.cs==0) with
   | true =>
     have eV:stepM M=(M,4):=by unfold stepM;rw [hw,hz,if_pos (by decide)]
     rw [eV]
     exact wk_end (t:=2) (v:=.int .i64 4) (Hx.eng (dr:=true)) { eq:=[(22,eqB hw),(37,eqB hz)],ov:=[(28,ovX M.cs.length A.cc .i64 9 hb ⟨by omega,by omega⟩ Tryz.underlying25 (by kernel_rfl)),(29,ovL ⟨b,0+(9:Int).toNat,none⟩ (.int .u64 (M.cs.getD 9 0)) Tryz.underlying24 rfl (cc 9 (by omega))),(34,ovX M.cs.length A.cc .i64 3 hb ⟨by omega,by omega⟩ Tryz.underlying25 (by kernel_rfl)),(35,ovL ⟨b,0+(3:Int).toNat,none⟩ (.int .u64 (M.cs.getD 3 0)) Tryz.underlying24 rfl (cc 3 (by omega)))] } 60 h0 (by kernel_rfl) (by kernel_rfl) rfl fun W hW=>hW.hr 4
   | false =>
     refine wk_adv (Hx.eng (dr:=true)) { eq:=[(22,eqB hw),(37,eqB hz)],ov:=[(28,ovX M.cs.length A.cc .i64 9 hb ⟨by omega,by omega⟩ Tryz.underlying25 (by kernel_rfl)),(29,ovL ⟨b,0+(9:Int).toNat,none⟩ (.int .u64 (M.cs.getD 9 0)) Tryz.underlying24 rfl (cc 9 (by omega))),(34,ovX M.cs.length A.cc .i64 3 hb ⟨by omega,by omega⟩ Tryz.underlying25 (by kernel_rfl)),(35,ovL ⟨b,0+(3:Int).toNat,none⟩ (.int .u64 (M.cs.getD 3 0)) Tryz.underlying24 rfl (cc 3 (by omega)))] } 34 h0 (by kernel_rfl) (by kernel_rfl) fun W hW=>?_
     exact wk_join _ _ (by kernel_rfl) (by kernel_rfl) (fin _ W hW (by rw [hw,hz];rfl))
 | false =>
   refine wk_adv (Hx.eng (dr:=true)) { eq:=[(22,eqB hw)] } 34 h0 (by kernel_rfl) (by kernel_rfl) fun W hW=>?_
   exact wk_join _ _ (by kernel_rfl) (by kernel_rfl) (fin _ W hW (by rw [hw];rfl))

end

theorem mvc_one (M:MV) (A:MA):(mvc M A).all (·.oneCell')=true:=by
 unfold mvc
 kernel_rfl

structure Fit (M:MV):Prop where
 mw:MW M
 ux:∀ j,U (M.x.getD j 0)
 pc:U M.pc
 hd:U M.hd
 ud:Ud M.d

theorem Fit.gd {M:MV} (h:Fit M) (hok:machB M=true):Gd M:=⟨hok,h.mw,h.ux,h.pc,h.hd⟩

theorem res_ct {P:Program} {fn:Func} {F:Fr} {n:Nat} {a:Act} {p u g:Nat} {T t:TypeId} {d:TypeDesc} {cs:Array Value} {v:Value} {w:World} (hk:Knows F n a) (h:fn.results=#[.cell p T,.tmp u]) (hp:(lk F p).map Prod.fst=some (.pointer (some ⟨g,0,none⟩))) (hv:(lk F u).map Prod.fst=some v) (hg:w.heap[g]?=some (.cells cs t (0,0))) (hu:P.underlying T=some d) (hd:(match d with | .struct _ | .array _ _=>true | _=>false)=true) (hi:(P.info? T).map (·.size)=some cs.size) :
 (results fn a.tmps).run P w=.ok (.tuple #[.agg cs,v]) w:=by
 rw [results_row2 h a.tmps w g t cs (0,0) d (hk.slot hp) hg hu hd hi,hk.slot hv]

theorem run_bx {P:Program} (T:TypeId) (v:Value) (w:World):(do pure (.value (← Instr.box T v)):Sem Next).run P w=.ok (.value (.pointer (some ⟨w.heap.size,0,none⟩))) (w.alloc (.cells v.cells T)):=by
 simp [Instr.box,newVar,newRow]

end Go.Proofs.YtbajeckeeekhnaaGreat
