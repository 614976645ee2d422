/- Own lemmas. -/
import Derived.Test.YtbajeckeeekhnaaGreatK15
import Derived.Test.YtbajeckeeekhnaaGreatK26
import Derived.Test.YtbajeckeeekhnaaGreatK30
import Derived.Test.YtbajeckeeekhnaaGreatK32
import Derived.Test.YtbajeckeeekhnaaGreatK33
namespace Go.Proofs.YtbajeckeeekhnaaGreat
open Go.RowKit
set_option linter.unusedVariables false

theorem div_U {a:Int} (ha:U a) (n:Nat):U (a / 2 ^ n):=by
 have hp:(0:Int) < 2 ^ n:=Int.pow_pos (by omega)
 refine ⟨Int.ediv_nonneg ha.1 (by omega),?_⟩
 have:a / 2 ^ n≤a:=Int.ediv_le_self _ ha.1
 have:=ha.2
 omega

theorem high_U {a b:Int} (ha:U a) (hb:U b):U (highV a b):=by
 unfold highV
 refine ⟨Int.ediv_nonneg (Int.mul_nonneg ha.1 hb.1) (by omega),Int.ediv_lt_of_lt_mul (by omega) ?_⟩
 have h1:a*b≤a*18446744073709551616:=Int.mul_le_mul_of_nonneg_left (by have:=hb.2;omega) ha.1
 have h2:a*18446744073709551616 < 18446744073709551616*18446744073709551616:=Int.mul_lt_mul_of_pos_right ha.2 (by omega)
 omega

theorem af_U (f:AF) {a b:Int} (ha:U a) (hb:U b):U (f.v a b):=by
 have bv:∀ c:Bool,U (bitV c):=fun c=>by cases c<;>exact ⟨by decide,by decide⟩
 have hsu:U (highSuV a b):=by unfold highSuV;split;exact U_wrap _;exact high_U ha hb
 cases f<;>unfold AF.v<;>dsimp only
 ·exact U_wrap _
 ·exact bv _
 ·exact bv _
 ·exact U_bits _ _ _
 ·exact U_bits _ _ _
 ·exact U_bits _ _ _
 ·exact U_wrap _
 ·exact div_U ha _
 ·exact U_wrap _
 ·exact U_wrap _
 ·exact U_wrap _
 ·unfold highSV;split;exact U_wrap _;exact hsu
 ·exact hsu
 ·exact high_U ha hb
 ·split;exact ⟨by decide,by decide⟩;exact U_wrap _
 ·split;exact ⟨by decide,by decide⟩;exact U_wrap _
 ·split;exact ha;exact U_wrap _
 ·split
  ·exact ha
  ·rw [Int.tmod_eq_emod_of_nonneg ha.1]
   have h1:=Int.emod_nonneg a (show b≠0 by assumption)
   have h2:=Int.emod_lt_of_pos a (show 0 < b by have:=hb.1;omega)
   exact ⟨h1,by have:=hb.2;omega⟩

theorem alu_U (op:Int) {a b:Int} (ha:U a) (hb:U b):U (aluV op a b):=by
 unfold aluV
 split
 ·cases aoAt (op - 22).toNat with
  | d f=>exact af_U f ha hb
  | w f l r=>exact widen32_bd _
 ·exact u_0

theorem Gd.al4 {M:MV} (h:Gd M):M.pc % 4=0:=by
 have h1:=(mach_all h.ok).1
 rw [and3 _ h.pc] at h1
 exact eq_of_beq h1

theorem al4_of {x:Int} (h:U x) (h4:x % 4=0):bits .and .u64 x 3=0:=by rw [and3 _ h,h4]

theorem next_4 {M:MV} (h:Gd M):bits .and .u64 (IntKind.u64.wrap (M.pc+4)) 3=0:=al4_of (U_wrap _) (by have:=h.al4;rw [IntKind.wrap_u64];omega)

theorem and2_4 {x:Int} (h:U x) (he:x % 2=0) (h2:(bits .and .u64 x 2 != 0)=false):bits .and .u64 x 3=0:=by
 have h3:bits .and .u64 x 2=0:=by simpa using h2
 refine bt_ext _ _ (U_bits _ _ _) u_0 fun i hi=>?_
 have e0:bt x 0=false:=by
  have:bits .and .u64 x 1=x % 2:=and_low x 1 h.1 h.2 (by omega)
  rw [he] at this
  have q:=bt_and x 1 0
  rw [this] at q
  have z0:bt 0 0=false:=by decide
  have z1:bt 1 0=true:=by decide
  rw [z0,z1,Bool.and_true] at q
  exact q.symm
 have e1:bt x 1=false:=by
  have q:=bt_and x 2 1
  rw [h3] at q
  have z0:bt 0 1=false:=by decide
  have z1:bt 2 1=true:=by decide
  rw [z0,z1,Bool.and_true] at q
  exact q.symm
 rw [bt_and]
 have key:∀ j,j < 64→∀ c:Bool,(j=0→c=false)→(j=1→c=false)→(c&&bt 3 j)=bt 0 j:=by decide +kernel
 exact key i hi _ (fun e=>by rw [e];exact e0) (fun e=>by rw [e];exact e1)

theorem not1_even (x:Int):bits .andNot .u64 x 1 % 2=0:=by
 have hU:=U_bits .andNot x 1
 have h1:bits .and .u64 (bits .andNot .u64 x 1) 1=bits .andNot .u64 x 1 % 2:=and_low _ 1 hU.1 hU.2 (by omega)
 rw [← h1]
 refine bt_ext _ _ (U_bits _ _ _) u_0 fun i hi=>?_
 rw [bt_and,bt_andNot _ _ _ hi]
 have key:∀ j,j < 64→∀ c:Bool,((c&&!bt 1 j)&&bt 1 j)=bt 0 j:=by decide +kernel
 exact key i hi _

theorem read_U {l:List Int} (h:∀ j,U (l.getD j 0)) (n:Int):U (readV l n):=by
 unfold readV
 split
 ·exact u_0
 ·split
  ·exact ⟨by decide,by decide⟩
  ·split
   ·exact U_bits _ _ _
   ·split
    ·exact U_bits _ _ _
    ·split
     ·exact U_bits _ _ _
     ·exact h _

theorem write_9 (l:List Int) (h22:l.length=22) (n x:Int):bits .and .u64 ((writeV l n x).getD 9 0) 2184=bits .and .u64 (l.getD 9 0) 2184:=by
 have mix:∀ m,(∀ i,i < 64→(bt m i&&bt 2184 i)=false)→bits .and .u64 (mixV (l.getD 9 0) m x) 2184=bits .and .u64 (l.getD 9 0) 2184:=fun m hm=>by
  refine bt_ext _ _ (U_bits _ _ _) (U_bits _ _ _) fun i hi=>?_
  unfold mixV
  rw [bt_and,bt_or,bt_and,bt_andNot _ _ _ hi,bt_and]
  have:=hm i hi
  cases hb:bt 2184 i
  ·simp
  ·rw [hb,Bool.and_true] at this
   rw [this];simp
 have set:∀ k,k≠9→∀ v,(l.set k v).getD 9 0=l.getD 9 0:=fun k hk v=>getD_setj l k 9 v hk
 have set9:∀ v,(l.set 9 v).getD 9 0=v:=fun v=>getD_setk l 9 v (by omega)
 have k2:∀ i,i < 64→∀ c:Bool,((c&&bt 2 i)&&bt 2184 i)=false:=by decide +kernel
 have k546:∀ i,i < 64→(bt 546 i&&bt 2184 i)=false:=by decide +kernel
 unfold writeV
 split
 ·rfl
 ·split
  ·rw [set 0 (by omega)]
  ·split
   ·rw [set 3 (by omega)]
   ·split
    ·rw [set9];exact mix _ fun i hi=>by rw [bt_and];exact k2 i hi _
    ·unfold putV
     split
     ·rw [set9];exact mix _ k546
     ·split
      ·split
       ·rw [set 15 (by omega)]
       ·rfl
      ·split
       ·rw [set 16 (by omega)]
       ·rename_i h9 _ _
        have hp:=placeV_bd n
        have hne:(placeV n).toNat≠9∨placeV n=-1:=by omega
        split
        ·split
         ·rfl
         ·rw [set _ (by omega)]
        ·rcases hne with e | e
         ·rw [set _ e]
         ·rw [e];exact congrArg (fun y=>bits .and .u64 y 2184) (set 0 (by omega) _)

theorem Gd.cs_ {M:MV} (h:Gd M) {l:List Int} (hz:l.length=22) (hok:csrsOk 22 l=true) (hu:∀ j,U (l.getD j 0)) (h9:bits .and .u64 (l.getD 9 0) 2184=bits .and .u64 (M.cs.getD 9 0) 2184):Gd (csM M l):=by
 obtain ⟨h1,h2,h3,h4,h5,h6,h7⟩:=mach_all h.ok
 obtain ⟨_,_,hpr,_,_,_⟩:=mach_parts h.ok
 refine ⟨mach_mk (M:=csM M l) h1 h2 ?_ h4 h5 h6 ?_,⟨hu,h.mw.ram,h.mw.xs,h.mw.ys⟩,h.ux,h.pc,h.hd⟩
 ·show legalB l.length l M.pr=true
  unfold legalB
  rw [hz,hok,hpr];rfl
 ·show (bits .and .u64 (l.getD 9 0) 2184==linesV M.d)=true
  rw [h9];exact h7

theorem Gd.priv {M:MV} (h:Gd M) {p:Int} (hp:privB p=true):Gd (privM M p):=by
 obtain ⟨h1,h2,h3,h4,h5,h6,h7⟩:=mach_all h.ok
 obtain ⟨h22,hcs,_,_,_,_⟩:=mach_parts h.ok
 refine ⟨mach_mk (M:=privM M p) h1 h2 ?_ h4 h5 h6 h7,⟨h.mw.cs,h.mw.ram,h.mw.xs,h.mw.ys⟩,h.ux,h.pc,h.hd⟩
 show legalB M.cs.length M.cs p=true
 unfold legalB
 rw [h22,hcs,hp];rfl

def Gw (M:MV):Prop:=Gd M∧Ud M.d

theorem trap_gw {M:MV} (h:Gw M) {k:Nat} (hk:k < 16) (i:Bool) {v:Int} (hv:U v):Gw (trapM M k i v):=⟨h.1.trap hk i hv,h.2⟩

theorem done_gw {M:MV} (h:Gw M) {rd x to:Int} (hr0:0≤rd) (hr1:rd≤31) (hx:U x) (ht:U to) (h4:bits .and .u64 to 3=0):Gw (doneM M rd x to):=⟨h.1.done hr0 hr1 hx ht h4,h.2⟩

theorem acc_gw {M:MV} (h:Gw M) (a n kind:Int) {x:Int} (hx:U x):Gw (accV M a n kind x).2.1:=⟨h.1.acc a n kind x,acc_Ud h.2 a n kind hx⟩

theorem refuse_gw {M:MV} (h:Gw M) {a n kind x v:Int} (hx:U x) (hc:((accV M a n kind x).2.2 != 0)=true) (hv:U v):Gw (refuseM (accV M a n kind x) 0 v).1:=by
 unfold refuseM
 exact trap_gw (acc_gw h a n kind hx) (code_16 rfl hc).2 false hv

theorem led_gw {M:MV} (h:Gw M) (a kind:Int):Gw (ledM M a kind):=⟨h.1.marked _,h.2⟩

theorem next_gw {M:MV} (h:Gw M) {rd x:Int} (hr0:0≤rd) (hr1:rd≤31) (hx:U x) {N:MV} (hN:Gw N) (e:N.pc=M.pc):Gw (doneM N rd x (IntKind.u64.wrap (M.pc+4))):=done_gw hN hr0 hr1 hx (U_wrap _) (by rw [← e];exact next_4 hN.1)

theorem jump_gw {M:MV} (h:Gw M) {i:Ins} (hi:InsOk i) (h3:3≤i.op) (h10:i.op≤10) (a b:Int):Gw (jumpM M i a b (IntKind.u64.wrap i.imm)).1:=by
 have hto:U (jumpTo M i a b (IntKind.u64.wrap i.imm))∧jumpTo M i a b (IntKind.u64.wrap i.imm) % 2=0:=by
  have h4:=h.1.al4
  unfold jumpTo
  split
  ·exact ⟨U_bits .andNot _ 1,not1_even _⟩
  ·rename_i hn
   split
   ·refine ⟨U_wrap _,?_⟩;rw [IntKind.wrap_u64];omega
   ·refine ⟨U_wrap _,?_⟩
    have:=hi.even (by omega)
    rw [IntKind.wrap_u64,IntKind.wrap_u64];omega
 unfold jumpM
 split
 ·exact trap_gw h (by decide) false hto.1
 ·rename_i hc
  refine done_gw h ?_ ?_ (U_wrap _) hto.1 (and2_4 hto.1 hto.2 (by simpa using hc))
  ·split;exact Int.le_refl 0;exact hi.rd0
  ·split;decide;exact hi.rd31

theorem load_gw {M:MV} (h:Gw M) {i:Ins} (hi:InsOk i) (h11:11≤i.op) (h17:i.op≤17) {a:Int} (ha:U a):Gw (loadM M i a).1:=by
 have hs:loadSize i.op≤8:=by
  obtain ⟨op,rd,ia,ib,imm⟩:=i
  dsimp only at h11 h17 ⊢
  obtain rfl | rfl | rfl | rfl | rfl | rfl | rfl:op=11∨op=12∨op=13∨op=14∨op=15∨op=16∨op=17:=by omega
  all_goals decide
 unfold loadM
 dsimp only
 split
 ·exact refuse_gw h u_0 ‹_› ha
 ·refine next_gw (acc_gw h a _ 2 u_0) hi.rd0 hi.rd31 ?_ (acc_gw h a _ 2 u_0) rfl
  split
  ·exact U_wrap _
  ·exact acc_U h.1 h.2 a _ hs 2 0

theorem store_gw {M:MV} (h:Gw M) {i:Ins} {a b:Int} (ha:U a) (hb:U b):Gw (storeM M i a b).1:=by
 unfold storeM
 dsimp only
 split
 ·exact refuse_gw h hb ‹_› ha
 ·exact next_gw (acc_gw h a _ 3 hb) (by decide) (by decide) u_0 (acc_gw h a _ 3 hb) rfl

theorem hold_gw {M:MV} (h:Gw M) {b:Bool} {a:Int} (ha:U a) (hb:b=true∨a=0):Gw (holdM M b a):=⟨h.1.hold ha hb,h.2⟩

theorem atom_gw {M:MV} (h:Gw M) {i:Ins} (hi:InsOk i) {a b:Int} (ha:U a) (hb:U b):Gw (atomM M i a b).1:=by
 have hs:atomSize i.op≤8:=by unfold atomSize;split<;>decide
 have hl:=led_gw h a 3
 have ep:∀ kind,(ledM M a kind).pc=M.pc:=fun _=>rfl
 unfold atomM
 split
 ·unfold lrM
  dsimp only
  split
  ·exact refuse_gw h u_0 ‹_› ha
  ·have hA:=acc_gw h a (atomSize i.op) 2 u_0
   have e:=(acc_same M a (atomSize i.op) 2 0).1
   exact next_gw h hi.rd0 hi.rd31 (U_wrap _) (hold_gw (led_gw hA a 2) (walkV_U _ _ _ _ _ _ ha) (Or.inl rfl)) e
 ·split
  ·exact trap_gw h (by decide) false ha
  ·split
   ·obtain ⟨c,c16,hc⟩:=walk_few M.ram M.ram.length M.cs (effV M.cs M.pr 3) a 3
    have hc':(leadM M a 3).code=c:=hc
    rw [hc',Int.toNat_natCast]
    exact trap_gw hl c16 false ha
   ·split
    ·unfold scM
     split
     ·dsimp only
      split
      ·exact refuse_gw hl hb ‹_› ha
      ·exact next_gw hl hi.rd0 hi.rd31 u_0 (hold_gw (acc_gw hl a _ 3 hb) u_0 (Or.inr rfl)) (acc_same (ledM M a 3) a (atomSize i.op) 3 b).1
     ·exact next_gw hl hi.rd0 hi.rd31 ⟨by decide,by decide⟩ (hold_gw hl u_0 (Or.inr rfl)) rfl
    ·unfold amoM
     dsimp only
     split
     ·rename_i hc
      unfold refuseM
      exact trap_gw (acc_gw hl a _ 2 u_0) (code_18 rfl hc).2.2 false ha
     ·have h2:=acc_gw hl a (atomSize i.op) 2 u_0
      have hv:U (amoV i.op (accV (ledM M a 3) a (atomSize i.op) 2 0).1 b):=amo_U _ (acc_U hl.1 hl.2 a _ hs 2 0) hb
      split
      ·exact refuse_gw h2 hv ‹_› ha
      ·exact next_gw hl hi.rd0 hi.rd31 (U_wrap _) (acc_gw h2 a _ 3 hv) ((acc_same _ _ _ _ _).1.trans (acc_same _ _ _ _ _).1)

theorem csr_gw {M:MV} (h:Gw M) {i:Ins} (hi:InsOk i) {a w:Int} (ha:U a) (hw:U w):Gw (csrM M i a w).1:=by
 unfold csrM
 split
 ·exact trap_gw h (by decide) false hw
 ·rename_i hc
  have hr:=read_U h.1.mw.cs i.imm
  have hN:=next_gw h hi.rd0 hi.rd31 hr h rfl
  have hmay:mayB M.cs.length M.cs i.imm M.pr=true:=by
   cases q:mayB M.cs.length M.cs i.imm M.pr
   ·rw [q] at hc;exact absurd rfl hc
   ·rfl
  have hkn:knownB i.imm=true:=by
   unfold mayB at hmay
   simp only [Bool.and_eq_true] at hmay
   exact hmay.1.1.2
  have hx:U (csrX i a (readV M.cs i.imm)):=by
   have hg:U (csrArg i a):=by unfold csrArg;split;exact U_wrap _;exact ha
   unfold csrX
   split
   ·exact U_bits _ _ _
   ·split
    ·exact U_bits _ _ _
    ·exact hg
  dsimp only
  split
  ·generalize doneM M i.rd (readV M.cs i.imm) (IntKind.u64.wrap (M.pc+4))=N at hN ⊢
   obtain ⟨h22,hcs,_,_,_,_⟩:=mach_parts hN.1.ok
   exact ⟨hN.1.cs_ (by rw [writeV_len];exact h22) (write_right _ h22 hN.1.mw.cs hcs _ _ hx hkn) (U_write _ hN.1.mw.cs _ _ hx) (write_9 _ h22 _ _),hN.2⟩
  ·exact hN

theorem leave_priv (s:Int) (h:U s) (hok:okAt 0 s=true) (m:Bool):privB (leaveP s m)=true:=by
 cases m with
 | true=>exact mpp_priv s h hok
 | false =>
   show privB (wrap64 (bitAt s 8))=true
   rw [bitAt_btF s 8 h]
   split<;>decide +kernel

theorem sys_gw {M:MV} (h:Gw M) {i:Ins} (hi:InsOk i) {w:Int} (hw:U w):Gw (sysM M i w).1:=by
 obtain ⟨h22,hcs,hpr,_,_,_⟩:=mach_parts h.1.ok
 have u0:=h.1.mw.cs 0
 have h0:=right_at hcs 0 (by omega)
 unfold sysM
 split
 ·refine trap_gw h ?_ false u_0
  unfold callK;split;decide;split<;>decide
 ·split
  ·exact trap_gw h (by decide) false h.1.pc
  ·split
   ·split
    ·exact trap_gw h (by decide) false hw
    ·have g1:Gd (csM M (M.cs.set 0 (leaveS (M.cs.getD 0 0) (i.op==96)))):=h.1.cs_ (by rw [List.length_set];exact h22) (right_set _ h22 hcs 0 (by omega) _ (leave_ok _ u0 _ h0)) (U_put _ h.1.mw.cs 0 _ (U_leaveS _ _)) (by rw [getD_setj _ 0 9 _ (by omega)])
     refine done_gw ⟨g1.priv (leave_priv _ u0 h0 _),h.2⟩ (by decide) (by decide) u_0 ?_ ?_
     ·unfold leaveAt;split;exact h.1.mw.cs 6;exact h.1.mw.cs 12
     ·unfold leaveAt;split
      ·exact pc4 _ (Or.inl (right_at hcs 6 (by omega)))
      ·exact pc4 _ (Or.inr (right_at hcs 12 (by omega)))
   ·split
    ·exact trap_gw h (by decide) false hw
    ·split
     ·exact next_gw h (by decide) (by decide) u_0 (N:=waitM M true) ⟨h.1.wait true,h.2⟩ rfl
     ·exact next_gw h (by decide) (by decide) u_0 h rfl

theorem exec_gw {M:MV} (h:Gw M) {i:Ins} (hi:InsOk i) {w:Int} (hw:U w):Gw (execM M i w).1:=by
 have ua:=h.1.ux i.a.toNat
 have ub:=h.1.ux i.b.toNat
 have o1:=hi.op1
 unfold execM
 dsimp only
 split
 ·exact next_gw h hi.rd0 hi.rd31 (U_wrap _) h rfl
 split
 ·exact next_gw h hi.rd0 hi.rd31 (U_wrap _) h rfl
 split
 ·exact jump_gw h hi (by omega) ‹_› _ _
 split
 ·exact load_gw h hi (by omega) ‹_› (U_wrap _)
 split
 ·exact store_gw h (U_wrap _) ub
 split
 ·exact next_gw h hi.rd0 hi.rd31 (alu_U _ ua (by split;exact ub;exact U_wrap _)) h rfl
 split
 ·exact atom_gw h hi ua ub
 split
 ·exact next_gw h (by decide) (by decide) u_0 h rfl
 split
 ·exact csr_gw h hi ua hw
 ·exact sys_gw h hi hw

theorem step_gw {M:MV} (h:Gw M) (hp:∀ l p,0≤pendV l p→∃ k:Nat,k < 16∧pendV l p=k):Gw (stepM M).1:=by
 have hwt:Gw (waitM M false):=⟨h.1.wait false,h.2⟩
 unfold stepM
 split
 ·exact h
 ·split
  ·rename_i hk
   obtain ⟨k,k16,e⟩:=hp _ _ hk
   rw [e,Int.toNat_natCast]
   exact trap_gw hwt k16 true u_0
  ·dsimp only
   split
   ·exact refuse_gw hwt u_0 ‹_› (acc_gw hwt M.pc 4 1 u_0).1.pc
   ·have uy:=acc_U hwt.1 hwt.2 M.pc 4 (by omega) 1 0
    split
    ·exact trap_gw (acc_gw hwt M.pc 4 1 u_0) (by decide) false uy
    ·rename_i i hi
     exact exec_gw (acc_gw hwt M.pc 4 1 u_0) (dec_ok hi) uy

theorem writeV_len9 (l:List Int) (n x:Int):(writeV l n x).length=l.length:=by
 exact writeV_len l n x

theorem csrM_may {M:MV} {i:Ins} {a w:Int} (h:mayB M.cs.length M.cs i.imm M.pr=false):csrM M i a w=(trapM M 2 false w,2):=by
 unfold csrM
 rw [h,Bool.not_false,Bool.true_or,if_pos rfl]

theorem csrM_ro {M:MV} {i:Ins} {a w:Int} (h:mayB M.cs.length M.cs i.imm M.pr=true) (hw:writesB i=true) (hr:((wrap64 (i.imm.tdiv 1024)).tmod 4==3)=true):csrM M i a w=(trapM M 2 false w,2):=by
 unfold csrM
 rw [h,hw,hr,Bool.not_true,Bool.false_or,Bool.and_self,if_pos rfl]

theorem csrM_no {M:MV} {i:Ins} {a w:Int} (h:mayB M.cs.length M.cs i.imm M.pr=true) (hw:writesB i=false):csrM M i a w=(doneM M i.rd (readV M.cs i.imm) (IntKind.u64.wrap (M.pc+4)),1):=by
 unfold csrM
 rw [h,hw,Bool.not_true,Bool.false_or,Bool.false_and,if_neg (by decide)]
 dsimp only
 rw [if_neg (by decide)]

theorem csrM_yes {M:MV} {i:Ins} {a w v:Int} (h:mayB M.cs.length M.cs i.imm M.pr=true) (hw:writesB i=true) (hr:((wrap64 (i.imm.tdiv 1024)).tmod 4==3)=false) (hv:csrX i a (readV M.cs i.imm)=v):csrM M i a w=(csM (doneM M i.rd (readV M.cs i.imm) (IntKind.u64.wrap (M.pc+4))) (writeV (doneM M i.rd (readV M.cs i.imm) (IntKind.u64.wrap (M.pc+4))).cs i.imm v),1):=by
 unfold csrM
 rw [h,hw,hr,Bool.not_true,Bool.false_or,Bool.and_false,if_neg (by decide)]
 dsimp only
 rw [if_pos rfl,hv]

theorem l4Write_ht {B hh r:Nat} {M:MV} {A:MA} {w:World} (h:Ht B hh r M A w) (h22:M.cs.length=22) (n:Int) (hk:knownB n=true) (x:Int) :
 Calls Tryz.prog 90 #[.slice A.ac M.cs.length A.cc,.int .i64 n,.int .u64 x] w fun e w'=>e=.returned (.tuple #[])∧Ht B hh r (csM M (writeV M.cs n x)) A w'∧Kx r (mvF M A) (mvF (csM M (writeV M.cs n x)) A) w w'∧(csM M (writeV M.cs n x)).cs.length=M.cs.length:=by
 obtain ⟨g,hac,hown,hup⟩:=h.mp.cs h22
 rw [hac,h22]
 refine (l4Write_any B g A.cc M.cs n x hk w hown).mono fun e w' ⟨h1,h2,h3⟩=>?_
 obtain ⟨hm,hx⟩:=hup w' _ (by rw [writeV_len9];exact h22) h3 h2
 exact ⟨h1,h.step hm hx,hx,(writeV_len9 _ _ _).trans h22⟩

section
variable {B hh r : Nat} {M : MV} {A : MA} {w : World}

set_option maxRecDepth 100000 in
theorem csr_r (i:Ins) (a x:Int) (h87:87≤i.op) (h92:i.op≤92) (hr0:0≤i.rd) (hr1:i.rd≤31) (hx:U x) (h:Ht B hh r M A w) (hg:Gd M) :
 Calls Tryz.prog 68 #[.pointer (some ⟨hh,0,none⟩),.agg #[.int .i64 i.op,.int .i64 i.rd,.int .i64 i.a,.int .i64 i.b,.int .i64 i.imm],.int .u64 a,.int .u64 x] w (HR B hh r M A w (csrM M i a x)):=by
 obtain ⟨V,hV⟩:∃ V,csrM M i a x=V:=⟨_,rfl⟩
 have h22:=(mach_parts hg.ok).1
 rw [hV]
 obtain ⟨op,rd,ia,ib,imm⟩:=i
 dsimp only at h87 h92 hr0 hr1 ⊢
 have e87:IntKind.i64.wrap (op - 87)=op - 87:=by rw [IntKind.wrap_i64];omega
 have fin:∀ (S:World→Prop) (v:Int) (C:MA) (W:World),knownB imm=true→(csM (doneM M rd (readV M.cs imm) (IntKind.u64.wrap (M.pc+4))) (writeV (doneM M rd (readV M.cs imm) (IntKind.u64.wrap (M.pc+4))).cs imm v),1)=V→Hx B r (hartR hh r :: boxR w.heap.size [(#[.int .i64 op,.int .i64 rd,.int .i64 ia,.int .i64 ib,.int .i64 imm],63)]) M A w (doneM M rd (readV M.cs imm) (IntKind.u64.wrap (M.pc+4))) C W→Wg Tryz.prog S (bodyPost Tryz.prog Tryz.f68 (HR B hh r M A w V)) Tryz.f68.ntmps [.code (headC (dropC 2 (thenC (dropC 1 (headC (dropC 8 (bodyOf Tryz.f68))))))),.code (dropC 3 (thenC (dropC 1 (headC (dropC 8 (bodyOf Tryz.f68)))))),.code (dropC 9 (bodyOf Tryz.f68))] [(0,.pointer (some ⟨hh,0,none⟩),2),(5,.pointer (some ⟨w.heap.size,0,none⟩),3),(9,.pointer (some ⟨r,0,none⟩),1),(13,.int .i64 1,0),(14,.int .u64 v,0)] W:=by
  intro S v C W hkn eV hW
  subst eV
  have g22:(doneM M rd (readV M.cs imm) (IntKind.u64.wrap (M.pc+4))).cs.length=22:=by show (M.cs.set _ _).length=22;rw [List.length_set];exact h22
  refine wk_S (Hs r (hartR hh r :: boxR w.heap.size [(#[.int .i64 op,.int .i64 rd,.int .i64 ia,.int .i64 ib,.int .i64 imm],63)]) (mvc (doneM M rd (readV M.cs imm) (IntKind.u64.wrap (M.pc+4))) C)) (by kernel_rfl) ?_
  refine wk_K 7 (by kernel_rfl) (by kernel_rfl) ?_
  refine wk_ac (Hs.eng (dr:=true) (fun _ h=>h.hs)) {} 60 (hW.below (Below.refl _ _).drew) (fun W1 h1=>l4Write_ht h1.ht g22 imm hkn v) (by kernel_rfl) (by kernel_rfl) ?_
  rintro W1 e W2 h1 ⟨rfl,h2,k2,_⟩
  refine ⟨_,0,rfl,nob (by kernel_rfl),wk_S (Hs r (hartR hh r :: boxR w.heap.size [(#[.int .i64 op,.int .i64 rd,.int .i64 ia,.int .i64 ib,.int .i64 imm],63)]) (mvc (csM (doneM M rd (readV M.cs imm) (IntKind.u64.wrap (M.pc+4))) (writeV (doneM M rd (readV M.cs imm) (IntKind.u64.wrap (M.pc+4))).cs imm v)) C)) (by kernel_rfl) ?_⟩
  have h3:=h1.to h2 k2
  obtain ⟨p0,q0⟩:∃ b,(placeV imm==0)=b:=⟨_,rfl⟩
  obtain ⟨p1,q1⟩:∃ b,(placeV imm==15)=b:=⟨_,rfl⟩
  have h4:=fun W=>l1In_any (placeV imm) 16 20 W
  obtain ⟨p2,q2⟩:∃ b,decide (16≤placeV imm∧placeV imm≤20)=b:=⟨_,rfl⟩
  rw [q2] at h4
  cases p0<;>cases p1<;>cases p2 <;>
  exact wk_end (t:=8) (v:=.int .i64 1) (Hs.eng (dr:=true) (fun _ h=>h.hs)) { eq:=[(104,eqB q0),(107,eqB q1)],cv:=[(102,cvC Hx.below fun W _=>specPlace_any imm W),(111,cvS fun W _=>h4 W),(114,cvS fun W hW=>drop_any _ C B hh r W hW.ht)] } 100 h3 (by kernel_rfl) (by kernel_rfl) rfl fun W hW=>⟨rfl,C,hW.ht,hW.kx⟩
 have main:∀ (ca:Int) (wr:Bool),csrArg ⟨op,rd,ia,ib,imm⟩ a=ca→writesB ⟨op,rd,ia,ib,imm⟩=wr→∀ (S:World→Prop) (W:World),Hx B r (hartR hh r :: boxR w.heap.size [(#[.int .i64 op,.int .i64 rd,.int .i64 ia,.int .i64 ib,.int .i64 imm],63)]) M A w M A W→Wg Tryz.prog S (bodyPost Tryz.prog Tryz.f68 (HR B hh r M A w V)) Tryz.f68.ntmps [.code (headC (headC (dropC 5 (bodyOf Tryz.f68)))),.code (dropC 1 (headC (dropC 5 (bodyOf Tryz.f68)))),.code (dropC 6 (bodyOf Tryz.f68))] [(0,.pointer (some ⟨hh,0,none⟩),2),(3,.int .u64 x,0),(5,.pointer (some ⟨w.heap.size,0,none⟩),3),(9,.pointer (some ⟨r,0,none⟩),1),(10,.int .i64 ((op - 87).tmod 3),0),(2,.int .u64 ca,0),(11,.bool wr,0)] W:=by
  intro ca wr hca hwr S W hW
  refine wk_S (Hs r (hartR hh r :: boxR w.heap.size [(#[.int .i64 op,.int .i64 rd,.int .i64 ia,.int .i64 ib,.int .i64 imm],63)]) (mvc M A)) (by kernel_rfl) ?_
  obtain ⟨my,hmy⟩:∃ my,mayB M.cs.length M.cs imm M.pr=my:=⟨_,rfl⟩
  refine wk_ac (Hs.eng (dr:=true) (fun _ h=>h.hs)) {} 60 hW (fun W1 h1=>l4May_any A.ac M.cs.length A.cc M.cs imm M.pr W1 rfl h1.mp.fam.msl.cs) (by kernel_rfl) (by kernel_rfl) ?_
  rintro W1 e W2 h1 ⟨rfl,hb1⟩
  rw [hmy]
  have h2:=h1.below hb1
  refine ⟨_,0,rfl,fun _=>h2.hs,?_⟩
  cases my with
  | false =>
    rw [csrM_may hmy] at hV
    subst hV
    exact Hx.last (Hs.eng (dr:=false) (fun _ h=>h.hs)) {} 60 h2 (fun W hW=>trap_r 2 (by decide) x hW.ht hg) rfl (by kernel_rfl) (by kernel_rfl) (fun _=>by kernel_rfl)
  | true =>
    have hkn:knownB imm=true:=by unfold mayB at hmy;simp only [Bool.and_eq_true] at hmy;exact hmy.1.1.2
    have hrd:∀ W,Hx B r (hartR hh r :: boxR w.heap.size [(#[.int .i64 op,.int .i64 rd,.int .i64 ia,.int .i64 ib,.int .i64 imm],63)]) M A w M A W→Calls Tryz.prog 89 #[.slice A.ac M.cs.length A.cc,.int .i64 imm] W fun e w''=>e=.returned (.int .u64 (readV M.cs imm))∧Below W.heap.size W w'':=fun W hW=>by rw [h22];exact l4Read_any A.ac A.cc M.cs imm W h22 hW.mp.fam.msl.cs hkn
    obtain ⟨ro,hro⟩:∃ ro,((wrap64 (imm.tdiv 1024)).tmod 4==3)=ro:=⟨_,rfl⟩
    have hro':((IntKind.i64.wrap (imm.tdiv 1024)).tmod 4==3)=ro:=by rw [← hro,IntKind.wrap_i64];unfold wrap64;rfl
    cases wr with
    | false =>
      rw [csrM_no hmy hwr] at hV
      subst hV
      refine wk_adv (Hs.eng (dr:=false) (fun _ h=>h.hs)) {} 60 h2 (by kernel_rfl) (by kernel_rfl) fun W3 h3=>?_
      refine wk_ac (Hs.eng (dr:=true) (fun _ h=>h.hs)) {} 40 h3 hrd (by kernel_rfl) (by kernel_rfl) ?_
      rintro W4 e W5 h4 ⟨rfl,hb4⟩
      have h5:=h4.below hb4
      refine ⟨_,0,rfl,fun _=>h5.hs,?_⟩
      refine wk_adv (Hs.eng (dr:=false) (fun _ h=>h.hs)) {} 40 h5 (by kernel_rfl) (by kernel_rfl) fun W6 h6=>?_
      refine wk_K 9 (by kernel_rfl) (by kernel_rfl) ?_
      refine wk_ac (Hs.eng (dr:=true) (fun _ h=>h.hs)) {} 40 (h6.below (Below.refl _ _).drew) (fun W hW=>done_r rd (readV M.cs imm) (IntKind.u64.wrap (M.pc+4)) hr0 hr1 hW.ht hg.x32 h22) (by kernel_rfl) (by kernel_rfl) ?_
      rintro W7 e W8 h7 ⟨rfl,C,h8,k8⟩
      refine ⟨_,0,rfl,nob (by kernel_rfl),wk_S (Hs r (hartR hh r :: boxR w.heap.size [(#[.int .i64 op,.int .i64 rd,.int .i64 ia,.int .i64 ib,.int .i64 imm],63)]) (mvc (doneM M rd (readV M.cs imm) (IntKind.u64.wrap (M.pc+4))) C)) (by kernel_rfl) ?_⟩
      have h9:=h7.to h8 k8
      exact wk_end (t:=8) (v:=.int .i64 1) (Hs.eng (dr:=false) (fun _ h=>h.hs)) {} 60 h9 (by kernel_rfl) (by kernel_rfl) rfl fun W hW=>⟨rfl,C,hW.ht,hW.kx⟩
    | true =>
      cases ro with
      | true =>
        rw [csrM_ro hmy hwr hro] at hV
        subst hV
        exact Hx.last (Hs.eng (dr:=false) (fun _ h=>h.hs)) { eq:=[(56,eqB hro')] } 60 h2 (fun W hW=>trap_r 2 (by decide) x hW.ht hg) rfl (by kernel_rfl) (by kernel_rfl) (fun _=>by kernel_rfl)
      | false =>
        refine wk_adv (Hs.eng (dr:=false) (fun _ h=>h.hs)) { eq:=[(56,eqB hro')] } 60 h2 (by kernel_rfl) (by kernel_rfl) fun W3 h3=>?_
        refine wk_ac (Hs.eng (dr:=true) (fun _ h=>h.hs)) {} 40 h3 hrd (by kernel_rfl) (by kernel_rfl) ?_
        rintro W4 e W5 h4 ⟨rfl,hb4⟩
        have h5:=h4.below hb4
        refine ⟨_,0,rfl,fun _=>h5.hs,?_⟩
        refine wk_adv (Hs.eng (dr:=false) (fun _ h=>h.hs)) {} 40 h5 (by kernel_rfl) (by kernel_rfl) fun W6 h6=>?_
        refine wk_K 9 (by kernel_rfl) (by kernel_rfl) ?_
        refine wk_ac (Hs.eng (dr:=true) (fun _ h=>h.hs)) {} 40 (h6.below (Below.refl _ _).drew) (fun W hW=>done_r rd (readV M.cs imm) (IntKind.u64.wrap (M.pc+4)) hr0 hr1 hW.ht hg.x32 h22) (by kernel_rfl) (by kernel_rfl) ?_
        rintro W7 e W8 h7 ⟨rfl,C,h8,k8⟩
        refine ⟨_,0,rfl,nob (by kernel_rfl),wk_S (Hs r (hartR hh r :: boxR w.heap.size [(#[.int .i64 op,.int .i64 rd,.int .i64 ia,.int .i64 ib,.int .i64 imm],63)]) (mvc (doneM M rd (readV M.cs imm) (IntKind.u64.wrap (M.pc+4))) C)) (by kernel_rfl) ?_⟩
        have h9:=h7.to h8 k8
        obtain ⟨b1,g1⟩:∃ b,((op - 87).tmod 3==1)=b:=⟨_,rfl⟩
        obtain ⟨b2,g2⟩:∃ b,((op - 87).tmod 3==2)=b:=⟨_,rfl⟩
        have hv:csrX ⟨op,rd,ia,ib,imm⟩ a (readV M.cs imm)=bif b1 then bits .or .u64 (readV M.cs imm) ca else bif b2 then bits .andNot .u64 (readV M.cs imm) ca else ca:=by
         unfold csrX
         dsimp only
         rw [g1,g2,hca]
         cases b1<;>cases b2<;>rfl
        rw [csrM_yes hmy hwr hro hv] at hV
        cases b1<;>cases b2 <;>
        ·refine wk_adv (Hs.eng (dr:=false) (fun _ h=>h.hs)) { eq:=[(83,eqB g1),(88,eqB g2)] } 60 h9 (by kernel_rfl) (by kernel_rfl) fun W hW=>?_
         exact wk_join _ _ (by kernel_rfl) (by kernel_rfl) (fin _ _ C W hkn hV hW)
 refine wk_go (S:=Hs r (hartR hh r :: boxR w.heap.size [(#[.int .i64 op,.int .i64 rd,.int .i64 ia,.int .i64 ib,.int .i64 imm],63)]) (mvc M A)) (args:=[.pointer (some ⟨hh,0,none⟩),.agg #[.int .i64 op,.int .i64 rd,.int .i64 ia,.int .i64 ib,.int .i64 imm],.int .u64 a,.int .u64 x]) [(#[.int .i64 op,.int .i64 rd,.int .i64 ia,.int .i64 ib,.int .i64 imm],63)] Tryz.func68 rfl (by kernel_rfl) (by kernel_rfl) ?_
 refine wk_tag 0 2 (wk_tag 5 3 ?_)
 obtain ⟨b9,h9⟩:∃ b,decide (90≤op)=b:=⟨_,rfl⟩
 obtain ⟨b0,h0⟩:∃ b,((op - 87).tmod 3==0)=b:=⟨_,rfl⟩
 obtain ⟨b1,h1⟩:∃ b,(ia != 0)=b:=⟨_,rfl⟩
 have hca:csrArg ⟨op,rd,ia,ib,imm⟩ a=bif b9 then IntKind.u64.wrap ia else a:=by
  unfold csrArg
  dsimp only
  by_cases e:90≤op
  ·rw [if_pos e,← h9,decide_eq_true e];rfl
  ·rw [if_neg e,← h9,decide_eq_false e];rfl
 have hwr:writesB ⟨op,rd,ia,ib,imm⟩=(b0||b1):=by
  unfold writesB
  dsimp only
  rw [h0,h1]
 cases b9<;>cases b0<;>cases b1 <;>
 ·refine wk_adv (Hs.eng (dr:=false) (fun _ h=>h.hs)) { eq:=[(22,eqI .i64 e87),(26,eqB h9),(31,eqB h0),(35,eqB h1)] } 80 (Hx.start h _) (by kernel_rfl) (by kernel_rfl) fun W hW=>?_
  exact wk_join _ _ (by kernel_rfl) (by kernel_rfl) (main _ _ hca hwr _ W hW)

end

end Go.Proofs.YtbajeckeeekhnaaGreat
