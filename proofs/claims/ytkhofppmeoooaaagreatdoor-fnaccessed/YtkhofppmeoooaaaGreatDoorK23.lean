/- Own lemmas. -/
import Derived.Test.YtkhofppmeoooaaaGreatDoorK01
import Derived.Test.YtkhofppmeoooaaaGreatDoorK11
import Derived.Test.YtkhofppmeoooaaaGreatDoorK15
import Derived.Test.YtkhofppmeoooaaaGreatDoorK22
import Derived.Lib.TrailingZeros
import Derived.RangeFuncNested
import Derived.RangeFuncBound
import Derived.RangeFuncCalls
import Derived.RangeFuncLeaves
import Derived.RangeFuncBox
import Derived.Shelf.Abstract
import Derived.Shelf.RegionOpen
import Derived.WalkKit
import Derived.OwnWalkIn
import Derived.TacticsInMore
import Derived.LoopNIn
import Derived.LoopIn
namespace Go.Proofs.YtkhofppmeoooaaaGreatDoor
open Go.RowKit
set_option linter.unusedVariables false

def onesI (a:Int):Nat:=min (Lib.ctz 64 (18446744073709551615 - a).toNat) 53

theorem bit_at (a:Nat) (ha:a < 18446744073709551616) (j:Nat):(bits .and .u64 ((a:Int) / 2 ^ j) 1==1)=a.testBit j:=by
 have h:=U_div (a:Int) ⟨by omega,by omega⟩ j
 have e:=and_low ((a:Int) / 2 ^ j) 1 h.1 h.2 (by omega)
 have e2:((2:Int) ^ 1 - 1)=1:=rfl
 rw [e2] at e
 rw [e,Nat.testBit_eq_decide_div_mod_eq]
 have e3:((a:Int) / 2 ^ j % 2 ^ 1)=((a / 2 ^ j % 2:Nat):Int):=by simp
 rw [e3]
 have:a / 2 ^ j % 2=0∨a / 2 ^ j % 2=1:=by omega
 rcases this with h | h<;>rw [h]<;>rfl

theorem trail_min (a:Int) (k:Nat) (h1:∀ j,j < k→(bits .and .u64 (a / 2 ^ j) 1==1)=true) (h2:(bits .and .u64 (a / 2 ^ k) 1==1)=false):∀ n i,i≤k→trailN a n i=min (i+n) k:=by
 intro n
 induction n with
 | zero=>intro i hi;show i=min (i+0) k;omega
 | succ n ih =>
  intro i hi
  unfold trailN
  rcases Nat.lt_or_ge i k with hlt | hge
  ·rw [if_pos (h1 i hlt),ih (i+1) hlt];omega
  ·obtain rfl:i=k:=by omega
   rw [if_neg (by rw [h2];decide)];omega

theorem ones_eq (a:Int) (h0:0≤a) (h1:a < 18014398509481984):onesI a=trailN a 53 0:=by
 obtain ⟨n,rfl⟩:∃ n:Nat,a=n:=⟨a.toNat,by omega⟩
 have hx:(18446744073709551615 - (n:Int)).toNat=18446744073709551615 - n:=by omega
 unfold onesI
 rw [hx]
 have hne:18446744073709551615 - n≠0:=by omega
 have hc:Lib.ctz 64 (18446744073709551615 - n)=Lib.ctzFrom 64 (18446744073709551615 - n):=by unfold Lib.ctz;rw [if_neg hne]
 obtain ⟨m,hm,hk⟩:=Lib.ctzFrom_spec 64 (18446744073709551615 - n) (by omega) (by omega)
 rw [hc]
 generalize Lib.ctzFrom 64 (18446744073709551615 - n)=k at *
 have hlt:2 ^ k*(2*m+1) < 2 ^ 64:=by omega
 have hn:n=2 ^ 64 - (2 ^ k*(2*m+1)+1):=by omega
 have hb:∀ j,j < 64→n.testBit j=!(decide (k≤j)&&(2*m+1).testBit (j - k)):=by
  intro j hj
  rw [hn,Nat.testBit_two_pow_sub_succ hlt,Nat.testBit_two_pow_mul,decide_eq_true hj,Bool.true_and]
 rw [trail_min (n:Int) k (fun j hj=>by rw [bit_at n (by omega),hb j (by omega),decide_eq_false (by omega)];rfl)
  (by rw [bit_at n (by omega),hb k hk,Nat.sub_self];simp) 53 0 (by omega)]
 omega

def headV (l:List Int) (i:Nat):Int:=if (i==0)=true then 0 else IntKind.u64.wrap (4*l.getD (16+i) 0)

def powLo (a:Int) (k:Nat):Int:=IntKind.u64.wrap (4*IntKind.u64.wrap (a / 2 ^ (k+1)*2 ^ (k+1)))

def powHi (a:Int) (k:Nat):Int:=IntKind.u64.wrap (powLo a k+IntKind.u64.wrap (2 ^ (k+3)))

def spanV (l:List Int) (i:Nat):Int × Int :=
 if (reachI (l.getD 16 0) i==1)=true then (headV l i,IntKind.u64.wrap (4*l.getD (17+i) 0))
 else if (reachI (l.getD 16 0) i==2)=true then (IntKind.u64.wrap (4*l.getD (17+i) 0),IntKind.u64.wrap (IntKind.u64.wrap (4*l.getD (17+i) 0)+4))
 else if (reachI (l.getD 16 0) i==3)=true then (powLo (l.getD (17+i) 0) (onesI (l.getD (17+i) 0)),powHi (l.getD (17+i) 0) (onesI (l.getD (17+i) 0)))
 else (0,0)

theorem pow_span (a:Int) (h0:0≤a) (h1:a < 18014398509481984) (k:Nat) (hk:k≤53):powLo a k=regLo a k∧IntKind.u64.wrap (powHi a k - 1)=regHi a k∧powLo a k < powHi a k:=by
 have hu:U a:=⟨h0,by omega⟩
 have e:=andNot_low a hu (k+1) (by omega)
 have hp:(0:Int) < 2 ^ (k+1):=Int.pow_pos (by omega)
 have hle:a / 2 ^ (k+1)*2 ^ (k+1)≤a:=Int.ediv_mul_le _ (by omega)
 have hge:0≤a / 2 ^ (k+1)*2 ^ (k+1):=Int.mul_nonneg (U_div a hu (k+1)).1 (by omega)
 have h8:∀ k,k≤53→(0:Int) < 2 ^ (k+3)∧(2:Int) ^ (k+3)≤72057594037927936:=by decide +kernel
 obtain ⟨h80,h81⟩:=h8 k hk
 have elo:powLo a k=4*(a / 2 ^ (k+1)*2 ^ (k+1)):=by
  unfold powLo
  generalize a / 2 ^ (k+1)*2 ^ (k+1)=z at *
  rw [IntKind.wrap_u64,IntKind.wrap_u64];omega
 have er:regLo a k=4*(a / 2 ^ (k+1)*2 ^ (k+1)):=by
  unfold regLo
  rw [e]
  generalize a / 2 ^ (k+1)*2 ^ (k+1)=z at *
  rw [IntKind.wrap_u64];omega
 refine ⟨elo.trans er.symm,?_,?_⟩
 ·unfold powHi regHi
  rw [elo,er]
 ·unfold powHi
  rw [elo]
  generalize a / 2 ^ (k+1)*2 ^ (k+1)=z at *
  generalize (2:Int) ^ (k+3)=q at *
  rw [IntKind.wrap_u64,IntKind.wrap_u64];omega

theorem span_region {l:List Int} (hl:∀ j,U (l.getD j 0)) (hok:csrsOk 22 l=true) (i:Nat) (hi:i < 4) :
 regionV l i=if (spanV l i).2≤(spanV l i).1 then (0,0,false) else ((spanV l i).1,IntKind.u64.wrap ((spanV l i).2 - 1),true):=by
 have er:reachI (l.getD 16 0) i=kindOf l i:=reach_fld l (hl 16) i hi
 have ha:=addr_bd hl hok (17+i) (by omega) (by omega)
 unfold regionV spanV
 rw [er]
 cases k1:(kindOf l i==1) with
 | true =>
  simp only [if_true]
  have eh:headV l i=regFrom l i:=by
   unfold headV regFrom
   rcases Nat.eq_zero_or_pos i with h | h
   ·subst h;rfl
   ·have:(i==0)=false:=by simp;omega
    rw [this,if_neg (by decide),if_pos h,Int.mul_comm]
  rw [eh,Int.mul_comm 4]
 | false =>
  simp only [Bool.false_eq_true,if_false]
  cases k2:(kindOf l i==2) with
  | true =>
   simp only [if_true]
   generalize l.getD (17+i) 0=a at *
   rw [Int.mul_comm a 4]
   simp only [IntKind.wrap_u64]
   rw [if_neg (by omega)]
   congr 2
   omega
  | false =>
   simp only [Bool.false_eq_true,if_false]
   cases k3:(kindOf l i==3) with
   | true =>
    simp only [if_true]
    rw [ones_eq _ ha.1 ha.2]
    obtain ⟨e1,e2,e3⟩:=pow_span _ ha.1 ha.2 (trailN (l.getD (17+i) 0) 53 0) (by have:=trail_le (l.getD (17+i) 0) 53 0;omega)
    rw [if_neg (by omega),e1,e2]
   | false =>
    simp only [Bool.false_eq_true,if_false]
    rfl

def pickR (l:List Int) (k:Nat):Option (Nat × Int × Int × Int):=if (spanV l k).2≤(spanV l k).1 then none else some (k,(spanV l k).1,IntKind.u64.wrap ((spanV l k).2 - 1),fld (l.getD 16 0) (8*k) 8)

def gotR (l:List Int) (k:Nat):List (Nat × Int × Int × Int):=(List.range k).filterMap (pickR l)

theorem gotR_none {l:List Int} {k:Nat} (h:(spanV l k).2≤(spanV l k).1):gotR l (k+1)=gotR l k:=by
 unfold gotR
 rw [List.range_succ,List.filterMap_append]
 have:pickR l k=none:=by unfold pickR;rw [if_pos h]
 simp [this]

theorem gotR_some {l:List Int} {k:Nat} (h:¬ (spanV l k).2≤(spanV l k).1):gotR l (k+1)=gotR l k ++ [(k,(spanV l k).1,IntKind.u64.wrap ((spanV l k).2 - 1),fld (l.getD 16 0) (8*k) 8)]:=by
 unfold gotR
 rw [List.range_succ,List.filterMap_append]
 have:pickR l k=some (k,(spanV l k).1,IntKind.u64.wrap ((spanV l k).2 - 1),fld (l.getD 16 0) (8*k) 8):=by unfold pickR;rw [if_neg h]
 simp [this]

theorem gotR_len (l:List Int) (k:Nat):(gotR l k).length≤k:=by
 unfold gotR
 exact Nat.le_trans (List.length_filterMap_le _ _) (by simp)

theorem gotR_pre (l:List Int):∀ d k,gotR l k <+: gotR l (k+d):=by
 intro d
 induction d with
 | zero=>intro k;exact List.prefix_refl _
 | succ d ih =>
  intro k
  refine (ih k).trans ?_
  show gotR l (k+d) <+: gotR l (k+d+1)
  unfold gotR
  rw [List.range_succ,List.filterMap_append]
  exact List.prefix_append _ _

theorem find_stop {α:Type} {q:α→Bool} {xs pre ini:List α} {last:α} (h:pre <+: xs) (e:pre=ini ++ [last]) (hi:∀ p ∈ ini,q p=false) (hl:q last=true):xs.find? q=some last:=by
 obtain ⟨r,rfl⟩:=h
 subst e
 rw [List.append_assoc,List.find?_append]
 have:ini.find? q=none:=List.find?_eq_none.2 fun p hp=>by rw [hi p hp];decide
 rw [this]
 simp [hl]

theorem find_done {α:Type} {q:α→Bool} {xs:List α} (hi:∀ p ∈ xs,q p=false):xs.find? q=none:=List.find?_eq_none.2 fun p hp=>by rw [hi p hp];decide

def regI (l:List Int) (i:Int):Int × Int × Bool:=match (gotR l 4).find? (fun p=>(p.1:Int)==i) with | some p=>(p.2.1,p.2.2.1,true) | none=>(0,0,false)

def meetsB (x y:Int) (p:Nat × Int × Int × Int):Bool:=decide (p.2.1≤y)&&decide (x≤p.2.2.1)

def metV (l:List Int) (x y:Int):Int × Int × Int × Bool:=match (gotR l 4).find? (meetsB x y) with | some p=>(p.2.1,p.2.2.1,p.2.2.2,true) | none=>(0,0,0,false)

theorem pickR_eq {l:List Int} (hl:∀ j,U (l.getD j 0)) (hok:csrsOk 22 l=true) (k:Nat) (hk:k < 4) :
 (pickR l k=none∧regionV l k=(0,0,false))∨(∃ lo hi,pickR l k=some (k,lo,hi,cfgAt l k)∧regionV l k=(lo,hi,true)):=by
 rw [span_region hl hok k hk]
 unfold pickR
 rw [at_fld l (hl 16) k]
 by_cases h:(spanV l k).2≤(spanV l k).1
 ·rw [if_pos h,if_pos h];exact .inl ⟨rfl,rfl⟩
 ·rw [if_neg h,if_neg h];exact .inr ⟨_,_,rfl,rfl⟩

theorem got_mem {l:List Int} {n:Nat} {p:Nat × Int × Int × Int} (h:p ∈ gotR l n):p.1 < n∧pickR l p.1=some p:=by
 unfold gotR at h
 obtain ⟨a,ha,e⟩:=List.mem_filterMap.1 h
 have h1:a < n:=List.mem_range.1 ha
 have h2:p.1=a:=by
  unfold pickR at e
  split at e
  ·cases e
  ·rw [← Option.some.inj e]
 rw [h2]
 exact ⟨h1,e⟩

theorem meets_skip {l:List Int} {k:Nat} {lo hi x y:Int} (er:regionV l k=(lo,hi,true)):skipB (regionV l k) x y=!meetsB x y (k,lo,hi,cfgAt l k):=by
 rw [er]
 unfold skipB meetsB
 simp only [Bool.not_true,Bool.false_or,Bool.not_and]
 congr 1
 ·rw [← decide_not];congr 1;exact propext ⟨fun h=>by omega,fun h=>by omega⟩
 ·rw [← decide_not];congr 1;exact propext ⟨fun h=>by omega,fun h=>by omega⟩

def permO (p x y kind:Int):Option (Nat × Int × Int × Int)→Bool
 | none=>(p==3)
 | some q=>!(decide (x < q.2.1)||decide (q.2.2.1 < y))&&letB q.2.2.2 p kind

theorem perm_find {l:List Int} (hl:∀ j,U (l.getD j 0)) (hok:csrsOk 22 l=true) (p x y kind:Int):∀ n k,k+n≤4→permRest l p x y kind n k=permO p x y kind (((List.range' k n).filterMap (pickR l)).find? (meetsB x y)):=by
 intro n
 induction n with
 | zero=>intro k hk;rfl
 | succ n ih =>
  intro k hk
  rw [permRest,List.range'_succ,List.filterMap_cons]
  rcases pickR_eq hl hok k (by omega) with ⟨e,er⟩ | ⟨lo,hi,e,er⟩
  ·rw [e,ih (k+1) (by omega)]
   have hs:skipB (regionV l k) x y=true:=by rw [er];rfl
   rw [hs,if_pos rfl]
  ·rw [e,meets_skip er]
   simp only [List.find?_cons]
   cases hm:meetsB x y (k,lo,hi,cfgAt l k) with
   | false =>
    rw [ih (k+1) (by omega)]
    rfl
   | true =>
    rw [er]
    rfl

theorem byte8:∀ z:Nat,z < 256→(bits .and .u64 (z:Int) 128==0)=((z:Int) / 128==0)∧(bits .and .u64 (z:Int) 128 != 0)=((z:Int) / 128==1)∧(bits .and .u64 (z:Int) 4 != 0)=(bits .and .u64 ((z:Int) / 4) 1==1)∧(bits .and .u64 (z:Int) 1 != 0)=(bits .and .u64 (z:Int) 1==1) ∧
 (bits .and .u64 (z:Int) 2 != 0)=(bits .and .u64 ((z:Int) / 2) 1==1)∧(bits .and .u64 (z:Int) 2==0)=(bits .and .u64 ((z:Int) / 2) 1==0):=by decide +kernel

theorem below_drN {B:Nat} {w w':World} (h:Below B w w') (q:Nat):Below B w (w'.drewN q):=⟨h.os,h.tape,h.output,h.size,h.block⟩

def kindB (k:Int):Bool:=(k==1)||(k==2)||(k==3)

theorem kind_eq (k:Int):kindB k=decide (1≤k∧k≤3):=by
 unfold kindB
 by_cases h1:k=1
 ·subst h1;rfl
 ·by_cases h2:k=2
  ·subst h2;rfl
  ·by_cases h3:k=3
   ·subst h3;rfl
   ·have:¬ (1≤k∧k≤3):=by omega
    rw [decide_eq_false this]
    simp [h1,h2,h3]

theorem kindOk_any (k:Int) (w:World):Calls Tryz.prog 39 #[.int .i64 k] w fun e w'=>e=.returned (.bool (kindB k))∧w'=w:=by
 have F:Hid (kindB k=((k==1)||(k==2)||(k==3))):=(rfl:kindB k=_)
 cases h1:(k==1) with
 | true =>
  rw [h1] at F
  go_enter Tryz.func39,Tryz.ntmps39
  go_wp2
  go_ret
  exact ⟨by rw [F.out];rfl,rfl⟩
 | false =>
  rw [h1] at F
  cases h2:(k==2) with
  | true =>
   rw [h2] at F
   go_enter Tryz.func39,Tryz.ntmps39
   go_wp2
   go_ret
   exact ⟨by rw [F.out];rfl,rfl⟩
  | false =>
   rw [h2] at F
   cases h3:(k==3) with
   | true =>
    rw [h3] at F
    go_enter Tryz.func39,Tryz.ntmps39
    go_wp2
    go_ret
    exact ⟨by rw [F.out];rfl,rfl⟩
   | false =>
    rw [h3] at F
    go_enter Tryz.func39,Tryz.ntmps39
    go_wp2
    go_ret
    exact ⟨by rw [F.out];rfl,rfl⟩

def kindM (k:Int):Int:=if (k==1)=true then 4 else if (k==2)=true then 1 else 2

theorem kindBit_any (k:Int) (w:World):Calls Tryz.prog 112 #[.int .i64 k] w fun e w'=>e=.returned (.int .u64 (kindM k))∧w'=w:=by
 have F:Hid (kindM k=if (k==1)=true then 4 else if (k==2)=true then 1 else 2):=(rfl:kindM k=_)
 cases h1:(k==1) with
 | true =>
  rw [h1] at F
  go_enter Tryz.func112,Tryz.ntmps112
  go_wp2
  go_ret
  exact ⟨by rw [F.out];rfl,rfl⟩
 | false =>
  rw [h1] at F
  cases h2:(k==2) with
  | true =>
   rw [h2] at F
   go_enter Tryz.func112,Tryz.ntmps112
   go_wp2
   go_ret
   exact ⟨by rw [F.out];rfl,rfl⟩
  | false =>
   rw [h2] at F
   go_enter Tryz.func112,Tryz.ntmps112
   go_wp2
   go_ret
   exact ⟨by rw [F.out];rfl,rfl⟩

def allB (lo hi x y:Int):Bool:=decide (lo≤x)&&decide (y≤hi)

theorem hasAll_any (lo hi r x y:Int) (w:World):Calls Tryz.prog 80 #[.agg #[.int .u64 lo,.int .u64 hi,.int .u64 r],.int .u64 x,.int .u64 y] w fun e w'=>e=.returned (.bool (allB lo hi x y))∧Below w.heap.size w w':=by
 have F:Hid (allB lo hi x y=(decide (lo≤x)&&decide (y≤hi))):=(rfl:allB lo hi x y=_)
 cases h1:decide (lo≤x) with
 | true =>
  rw [h1] at F
  cases h2:decide (y≤hi) with
  | true =>
   rw [h2] at F
   go_enter Tryz.func80,Tryz.ntmps80
   go_wp2
   go_ret
   exact ⟨by rw [F.out];rfl,(Below.refl _ _).alloc (Nat.le_refl _) _⟩
  | false =>
   rw [h2] at F
   go_enter Tryz.func80,Tryz.ntmps80
   go_wp2
   go_ret
   exact ⟨by rw [F.out];rfl,(Below.refl _ _).alloc (Nat.le_refl _) _⟩
 | false =>
  rw [h1] at F
  go_enter Tryz.func80,Tryz.ntmps80
  go_wp2
  go_ret
  exact ⟨by rw [F.out];rfl,(Below.refl _ _).alloc (Nat.le_refl _) _⟩

def allowB (r p k:Int):Bool:=((p==3)&&(bits .and .u64 r 128==0))||(bits .and .u64 r (kindM k) != 0)

theorem allows_any (lo hi r p k:Int) (w:World):Calls Tryz.prog 81 #[.agg #[.int .u64 lo,.int .u64 hi,.int .u64 r],.int .i64 p,.int .i64 k] w fun e w'=>e=.returned (.bool (allowB r p k))∧Below w.heap.size w w':=by
 have F:Hid (allowB r p k=(((p==3)&&(bits .and .u64 r 128==0))||(bits .and .u64 r (kindM k) != 0))):=(rfl:allowB r p k=_)
 have HQ:Hid (∀ w,Calls Tryz.prog 112 #[.int .i64 k] w fun e w'=>e=.returned (.int .u64 (kindM k))∧∃ q,w'=w.drewN q):=fun w=>(kindBit_any k w).mono fun e w' h=>⟨h.1,0,by rw [h.2];rfl⟩
 generalize kindM k=m at *
 cases h1:(p==3) with
 | true =>
  rw [h1] at F
  cases h2:(bits .and .u64 r 128==0) with
  | true =>
   rw [h2] at F
   go_enter Tryz.func81,Tryz.ntmps81
   go_wp2
   go_ret
   exact ⟨by rw [F.out];rfl,(Below.refl _ _).alloc (Nat.le_refl _) _⟩
  | false =>
   rw [h2] at F
   go_enter Tryz.func81,Tryz.ntmps81
   go_wp2_with fail
   go_quiet (first | (go_at_call 112;with_reducible refine Calls.quiet_of (HQ.out _)))
   go_wp2_with fail
   go_ret
   exact ⟨by rw [F.out];rfl,below_drN ((Below.refl _ _).alloc (Nat.le_refl _) _) _⟩
 | false =>
  rw [h1] at F
  go_enter Tryz.func81,Tryz.ntmps81
  go_wp2_with fail
  go_quiet (first | (go_at_call 112;with_reducible refine Calls.quiet_of (HQ.out _)))
  go_wp2_with fail
  go_ret
  exact ⟨by rw [F.out];rfl,below_drN ((Below.refl _ _).alloc (Nat.le_refl _) _) _⟩

theorem endAhead_any (b off cap:Nat) (l:List Int) (i:Nat) (hi:i < 4) (w:World) (c:w.cell? ⟨b,off+(16+i),none⟩=some (.int .u64 (l.getD (16+i) 0))) :
 Calls Tryz.prog 140 #[.slice (some ⟨b,off,none⟩) 22 cap,.int .i64 i] w fun e w'=>e=.returned (.int .u64 (headV l i))∧Below w.heap.size w w':=by
 have F:Hid (headV l i=if (i==0)=true then 0 else IntKind.u64.wrap (4*l.getD (16+i) 0)):=(rfl:headV l i=_)
 rcases Nat.eq_zero_or_pos i with h | h
 ·subst h
  go_enter Tryz.func140,Tryz.ntmps140
  go_wp2_with fail
  go_ret
  exact ⟨rfl,Below.refl _ _⟩
 ·have h0:((i:Int)==0)=false:=by simp;omega
  have e17:wrap64 (17+(i:Int))=((17+i:Nat):Int):=by unfold wrap64;omega
  have e16:wrap64 (((17+i:Nat):Int) - 1)=((16+i:Nat):Int):=by unfold wrap64;omega
  have b16:0≤((16+i:Nat):Int)∧((16+i:Nat):Int) < ((22:Nat):Int):=by omega
  have F2:Hid (headV l i=IntKind.u64.wrap (4*l.getD (16+i) 0)):=by
   have:=F.out
   rw [if_neg (by simp;omega)] at this
   exact this
  clear F
  generalize l.getD (16+i) 0=a at *
  go_enter Tryz.func140,Tryz.ntmps140
  go_wp2_with fail
  go_ret
  exact ⟨by rw [F2.out];rfl,Below.refl _ _⟩

theorem bt_xor (x y:Int) (i:Nat):bt (bits .xor .u64 x y) i=(bt x i ^^ bt y i):=by
 show (BitVec.ofInt 64 (IntKind.u64.wrap ((BitVec.ofInt 64 x ^^^ BitVec.ofInt 64 y).toNat:Int))).getLsbD i=_
 rw [ofInt_bv];simp [bt]

theorem not_nat (a:Nat) (h:a < 18446744073709551616):bits .xor .u64 IntKind.u64.max (a:Int)=((18446744073709551615 - a:Nat):Int):=by
 have e:IntKind.u64.max=18446744073709551615:=rfl
 rw [e]
 refine bt_ext _ _ (U_bits _ _ _) ⟨by omega,by omega⟩ fun i hi=>?_
 rw [bt_xor,litAll i hi,bt_nat _ ⟨by omega,by omega⟩,bt_nat _ ⟨by omega,by omega⟩]
 have e2:(18446744073709551615 - a:Nat)=2 ^ 64 - (a+1):=by omega
 simp only [Int.toNat_natCast]
 rw [e2,Nat.testBit_two_pow_sub_succ h,decide_eq_true hi]
 simp

theorem powerSpan_core (a:Int) (x z k:Nat) (ex:bits .xor .u64 IntKind.u64.max a=(x:Int)) (hk:min z 53=k) (hk3:k≤53) (w:World)
 (HZ:Hid (Calls Tryz.prog 146 #[.int .u64 x] w fun e w'=>e=.returned (.int .i64 z)∧w'=w)) :
 Calls Tryz.prog 141 #[.int .u64 a] w fun e w'=>e=.returned (.tuple #[.int .u64 (powLo a k),.int .u64 (powHi a k)])∧Below w.heap.size w w':=by
 have HK:Hid (min z 53=k):=hk
 have hsg:IntKind.u64.signed=false:=rfl
 clear hk
 go_enter Tryz.func141,Tryz.ntmps141
 go_wp2_with fail
 refine HZ.out.mono ?_
 rintro e w1 ⟨rfl,hw1⟩
 have hw2:=hw1.symm
 subst hw2
 go_wp2_with fail
 case inl =>
  rename_i hz53
  have e53:Hid (k=53):=by have:=HK.out;show k=53;omega
  go_quiet (fail)
  go_wp2_with fail
  go_ret2
  exact ⟨by rw [e53.out];rfl,below_drN (Below.refl _ _) _⟩
 case inr =>
  rename_i hz53
  have ez:Hid (k=z):=by have:=HK.out;show k=z;omega
  go_quiet (fail)
  go_wp2_with fail
  go_ret2
  exact ⟨by rw [ez.out];rfl,below_drN (Below.refl _ _) _⟩

theorem powerSpan_any (a:Int) (h:U a) (w:World) (hT:Tab w) :
 Calls Tryz.prog 141 #[.int .u64 a] w fun e w'=>e=.returned (.tuple #[.int .u64 (powLo a (onesI a)),.int .u64 (powHi a (onesI a))])∧Below w.heap.size w w':=by
 obtain ⟨n,rfl⟩:∃ n:Nat,a=n:=⟨a.toNat,by have:=h.1;omega⟩
 have hn:n < 18446744073709551616:=by have:=h.2;omega
 have e0:(18446744073709551615 - (n:Int)).toNat=18446744073709551615 - n:=by omega
 refine powerSpan_core (n:Int) (18446744073709551615 - n) (Lib.ctz 64 (18446744073709551615 - n)) _ (not_nat n hn) ?_ ?_ w (tz_any _ (by omega) w hT)
 ·unfold onesI;rw [e0]
 ·unfold onesI;exact Nat.min_le_right _ _

set_option maxRecDepth 100000 in
set_option maxHeartbeats 1600000 in
theorem span_any (b off cap:Nat) (l:List Int) (i:Nat) (hi:i < 4) (w:World) (hT:Tab w) (hl:∀ j,U (l.getD j 0)) (c16:w.cell? ⟨b,off+16,none⟩=some (.int .u64 (l.getD 16 0)))
 (c17:w.cell? ⟨b,off+(17+i),none⟩=some (.int .u64 (l.getD (17+i) 0))) (c15:w.cell? ⟨b,off+(16+i),none⟩=some (.int .u64 (l.getD (16+i) 0))) :
 Calls Tryz.prog 133 #[.slice (some ⟨b,off,none⟩) 22 cap,.int .i64 i] w fun e w'=>e=.returned (.tuple #[.int .u64 (spanV l i).1,.int .u64 (spanV l i).2])∧Below w.heap.size w w':=by
 have HR:Hid (Calls Tryz.prog 139 #[.int .u64 (l.getD 16 0),.int .i64 i] w fun e w'=>e=.returned (.int .u64 (reachI (l.getD 16 0) i))∧w'=w.drew):=pmpReach_any _ i (by omega) (hl 16).1 (hl 16).2 w
 have HE:Hid (Calls Tryz.prog 140 #[.slice (some ⟨b,off,none⟩) 22 cap,.int .i64 i] w.drew fun e w'=>e=.returned (.int .u64 (headV l i))∧Below w.heap.size w.drew w'):=endAhead_any b off cap l i hi w.drew (by rw [World.cell?_drew];exact c15)
 have HP:Hid (Calls Tryz.prog 141 #[.int .u64 (l.getD (17+i) 0)] w.drew fun e w'=>e=.returned (.tuple #[.int .u64 (powLo (l.getD (17+i) 0) (onesI (l.getD (17+i) 0))),.int .u64 (powHi (l.getD (17+i) 0) (onesI (l.getD (17+i) 0)))])∧Below w.heap.size w.drew w'):=powerSpan_any _ (hl (17+i)) w.drew (fun j hj=>by rw [World.cell?_drew];exact hT j hj)
 have F0:spanV l i=if (reachI (l.getD 16 0) i==1)=true then (headV l i,IntKind.u64.wrap (4*l.getD (17+i) 0))
  else if (reachI (l.getD 16 0) i==2)=true then (IntKind.u64.wrap (4*l.getD (17+i) 0),IntKind.u64.wrap (IntKind.u64.wrap (4*l.getD (17+i) 0)+4))
  else if (reachI (l.getD 16 0) i==3)=true then (powLo (l.getD (17+i) 0) (onesI (l.getD (17+i) 0)),powHi (l.getD (17+i) 0) (onesI (l.getD (17+i) 0)))
  else (0,0):=rfl
 have HD:Hid (Below w.heap.size w w.drew):=(Below.refl _ _).drew
 have e17:wrap64 (17+(i:Int))=((17+i:Nat):Int):=by unfold wrap64;omega
 have b17:0≤((17+i:Nat):Int)∧((17+i:Nat):Int) < ((22:Nat):Int):=by omega
 generalize spanV l i=r at *
 generalize headV l i=hv at *
 generalize onesI (l.getD (17+i) 0)=on at *
 generalize powLo (l.getD (17+i) 0) on=pl at *
 generalize powHi (l.getD (17+i) 0) on=ph at *
 generalize reachI (l.getD 16 0) i=q at *
 generalize l.getD (17+i) 0=a at *
 generalize l.getD 16 0=cf at *
 clear hT hl c15
 cases h1:(q==1) with
 | true =>
  rw [h1,if_pos rfl] at F0
  have F:Hid (r=(hv,IntKind.u64.wrap (4*a))):=F0
  clear F0
  go_enter Tryz.func133,Tryz.ntmps133
  go_wp2_with fail
  refine HR.out.mono ?_
  rintro e w1 ⟨rfl,hw1⟩
  subst hw1
  go_wp2_with fail
  refine HE.out.mono ?_
  rintro e w2 ⟨rfl,hb⟩
  go_wp2_with fail
  go_ret2
  exact ⟨by rw [F.out];rfl,HD.out.trans hb⟩
 | false =>
  rw [h1,if_neg (by decide)] at F0
  cases h2:(q==2) with
  | true =>
   rw [h2,if_pos rfl] at F0
   have F:Hid (r=(IntKind.u64.wrap (4*a),IntKind.u64.wrap (IntKind.u64.wrap (4*a)+4))):=F0
   clear F0
   go_enter Tryz.func133,Tryz.ntmps133
   go_wp2_with fail
   refine HR.out.mono ?_
   rintro e w1 ⟨rfl,hw1⟩
   subst hw1
   go_wp2_with fail
   go_ret2
   exact ⟨by rw [F.out];rfl,HD.out⟩
  | false =>
   rw [h2,if_neg (by decide)] at F0
   cases h3:(q==3) with
   | true =>
    rw [h3,if_pos rfl] at F0
    have F:Hid (r=(pl,ph)):=F0
    clear F0
    go_enter Tryz.func133,Tryz.ntmps133
    go_wp2_with fail
    refine HR.out.mono ?_
    rintro e w1 ⟨rfl,hw1⟩
    subst hw1
    go_wp2_with fail
    refine HP.out.mono ?_
    rintro e w2 ⟨rfl,hb⟩
    go_wp2_with fail
    go_ret2
    exact ⟨by rw [F.out];rfl,HD.out.trans hb⟩
   | false =>
    rw [h3,if_neg (by decide)] at F0
    have F:Hid (r=(0,0)):=F0
    clear F0
    go_enter Tryz.func133,Tryz.ntmps133
    go_wp2_with fail
    refine HR.out.mono ?_
    rintro e w1 ⟨rfl,hw1⟩
    subst hw1
    go_wp2_with fail
    go_ret2
    exact ⟨by rw [F.out];rfl,HD.out⟩

end Go.Proofs.YtkhofppmeoooaaaGreatDoor

namespace Go.Proofs.YtkhofppmeoooaaaGreatDoor
open Go.RowKit Go.Shelf
set_option linter.unusedVariables false

attribute [local go_sem] Oper.semAt_some

theorem grown_bel {w w':World} (hb:Below w.heap.size w w') (row:Option Nat):w.grownBy w' row:=⟨hb.os,hb.tape,hb.output,hb.size,fun k hk _=>hb.block k hk⟩

def encR (x:Nat × Int × Int × Int):Array Value:=#[.int .i64 (x.1:Int),.agg #[.int .u64 x.2.1,.int .u64 x.2.2.1,.int .u64 x.2.2.2]]

set_option maxRecDepth 100000 in
set_option maxHeartbeats 2000000 in
theorem regions1_in (n:Nat) (lp Bs n₀ b off cap:Nat) (l:List Int) (hl:∀ j,U (l.getD j 0)) (J Jx:List (Nat × Int × Int × Int)→World→Prop) (hb:b < n₀) (hBs:Bs < n₀) (hg:0 < n₀)
 (W:World) (hn:n₀≤W.heap.size) (hT:Tab W) (hc:W.cell? ⟨Bs,0,none⟩=some (.slice (some ⟨b,off,none⟩) 22 cap)) (hs:∀ j,j < 22→W.cell? ⟨b,off+j,none⟩=some (.int .u64 (l.getD j 0)))
 (hJ:AbidesFrom W.heap.size J)
 (hY:∀ pre x W1,J pre W1→pre.length < 4→YieldAt Fence.wide (n - 1) Tryz.prog lp (encR x) W1 fun e W'=>(e=.returned (.bool true)∧J (pre ++ [x]) W'∧Below n₀ W1 W')∨(e=.returned (.bool false)∧Jx (pre ++ [x]) W'))
 (h0:J [] W) :
 CallsIn Fence.wide n Tryz.prog 132 #[.func (.yield lp) #[] #[],.pointer (some ⟨Bs,0,none⟩)] W fun e W'=>(∃ v,e=.returned v)∧((∃ ys,ys=gotR l 4∧J ys W')∨(∃ pre,pre <+: gotR l 4∧Jx pre W')):=by
 have HC:Hid (W.cell? ⟨Bs,0,none⟩=some (.slice (some ⟨b,off,none⟩) 22 cap)):=hc
 have HS:Hid (∀ j,j < 22→W.cell? ⟨b,off+j,none⟩=some (.int .u64 (l.getD j 0))):=hs
 have HT:Hid (Tab W):=hT
 have HY:Hid (∀ pre x W1,J pre W1→pre.length < 4→YieldAt Fence.wide (n - 1) Tryz.prog lp (encR x) W1 fun e W'=>(e=.returned (.bool true)∧J (pre ++ [x]) W'∧Below n₀ W1 W')∨(e=.returned (.bool false)∧Jx (pre ++ [x]) W')):=hY
 have HJ:Hid (AbidesFrom W.heap.size J):=hJ
 have HL:Hid (∀ j,U (l.getD j 0)):=hl
 clear hc hs hT hY hJ hl
 refine callsIn_of_wp Tryz.func132 rfl trivial ?_ rfl
 simp only [Tryz.ntmps132,List.size_toArray,List.length_cons,List.length_nil,Nat.reduceAdd,Nat.reduceSub,Array.replicate_succ,Array.replicate_zero,List.push_toArray,List.append_toArray,List.nil_append,List.cons_append]
 gi_wp2
 gi_loopw [7] (fun i wr=>∃ k:Nat,k≤4∧i=.int .i64 k∧J (gotR l k) wr∧Below n₀ W wr) (fun i _=>4 - (intOf i).toNat)
 case atStart=>exact ⟨0,by omega,rfl,h0,Below.refl _ _⟩
 case round =>
  obtain ⟨k,hk,rfl,hJs,hbw⟩:=hrel
  have HB:Hid (Below n₀ W wr):=hbw
  have HJs:Hid (J (gotR l k) wr):=hJs
  have hcw:wr.cell? ⟨Bs,0,none⟩=some (.slice (some ⟨b,off,none⟩) 22 cap):=(hbw.cell (p:=⟨Bs,0,none⟩) hBs).trans HC.out
  have hsz:n₀≤wr.heap.size:=Nat.le_trans hn hbw.size
  clear hbw hJs
  by_cases hlt:k < 4
  ·have HSP:Hid (Calls Tryz.prog 133 #[.slice (some ⟨b,off,none⟩) 22 cap,.int .i64 k] wr fun e w'=>e=.returned (.tuple #[.int .u64 (spanV l k).1,.int .u64 (spanV l k).2])∧Below wr.heap.size wr w') :=
    span_any b off cap l k hlt wr (HT.out.from HB.out hg) HL.out ((HB.out.cell (p:=⟨b,off+16,none⟩) hb).trans (HS.out 16 (by omega))) ((HB.out.cell (p:=⟨b,off+(17+k),none⟩) hb).trans (HS.out (17+k) (by omega))) ((HB.out.cell (p:=⟨b,off+(16+k),none⟩) hb).trans (HS.out (16+k) (by omega)))
   by_cases hle:(spanV l k).2≤(spanV l k).1
   ·have HN:Hid (gotR l (k+1)=gotR l k):=gotR_none hle
    have hge:decide ((spanV l k).1 ≥ (spanV l k).2)=true:=by simpa using hle
    gi_wp2_with fail
    refine ⟨trivial,(fun h=>by cases h),(callsIn_wide.2 HSP.out).mono ?_⟩
    rintro e w1 ⟨rfl,hb1⟩
    clear HSP
    have HJ1:Hid (J (gotR l (k+1)) w1):=by
     have:=HJ.out _ wr w1 none HJs.out (grown_bel hb1 none) (fun r e=>by cases e)
     rw [HN.out];exact this
    have HB1:Hid (Below n₀ W w1):=HB.out.trans (hb1.mono hsz)
    gi_wp2_with fail
    go_roundw
    case rel=>exact ⟨k+1,by omega,by simp,HJ1.out,HB1.out⟩
    case measure=>simp [intOf];omega
   ·have hge:decide ((spanV l k).1 ≥ (spanV l k).2)=false:=by simpa using hle
    have HN:Hid (gotR l (k+1)=gotR l k ++ [(k,(spanV l k).1,IntKind.u64.wrap ((spanV l k).2 - 1),fld (l.getD 16 0) (8*k) 8)]):=gotR_some hle
    have HPB:Hid (∀ w,Calls Tryz.prog 134 #[.int .u64 (l.getD 16 0),.int .i64 k] w fun e w'=>e=.returned (.int .u64 (fld (l.getD 16 0) (8*k) 8))∧w'=w.drew):=fun w=>pmpByte_any _ k (by omega) (HL.out 16).1 (HL.out 16).2 w
    have HC16:Hid (∀ w1,Below wr.heap.size wr w1→w1.cell? ⟨b,off+16,none⟩=some (.int .u64 (l.getD 16 0))∧w1.cell? ⟨Bs,0,none⟩=some (.slice (some ⟨b,off,none⟩) 22 cap)):=fun w1 h1 =>
     ⟨(h1.cell (p:=⟨b,off+16,none⟩) (Nat.lt_of_lt_of_le hb hsz)).trans ((HB.out.cell (p:=⟨b,off+16,none⟩) hb).trans (HS.out 16 (by omega))),(h1.cell (p:=⟨Bs,0,none⟩) (Nat.lt_of_lt_of_le hBs hsz)).trans hcw⟩
    have HLN:Hid ((gotR l k).length < 4):=by have:=gotR_len l k;show (gotR l k).length < 4;omega
    have HPR:Hid (gotR l (k+1) <+: gotR l 4):=by have:=gotR_pre l (4 - (k+1)) (k+1);rw [show k+1+(4 - (k+1))=4 from by omega] at this;exact this
    generalize fld (l.getD 16 0) (8*k) 8=by8 at *
    generalize l.getD 16 0=c16 at *
    obtain ⟨s1,hs1⟩:∃ s1,(spanV l k).1=s1:=⟨_,rfl⟩
    obtain ⟨s2,hs2⟩:∃ s2,(spanV l k).2=s2:=⟨_,rfl⟩
    rw [hs1,hs2] at HSP HN hge
    clear hs1 hs2 hle
    gi_wp2_with fail
    refine ⟨trivial,(fun h=>by cases h),(callsIn_wide.2 HSP.out).mono ?_⟩
    rintro e w1 ⟨rfl,hb1⟩
    clear HSP
    obtain ⟨hc1,hc2⟩:=HC16.out w1 hb1
    have HJ1:Hid (J (gotR l k) w1):=HJ.out _ wr w1 none HJs.out (grown_bel hb1 none) (fun r e=>by cases e)
    have HB1:Hid (Below n₀ W w1):=HB.out.trans (hb1.mono hsz)
    have hsz1:Hid (n₀≤w1.heap.size):=Nat.le_trans hsz hb1.size
    clear hb1
    gi_wp2_with fail
    refine ⟨trivial,(fun h=>by cases h),(callsIn_wide.2 (HPB.out _)).mono ?_⟩
    rintro e w2 ⟨rfl,hw2⟩
    subst hw2
    gi_wp2_with fail
    obtain ⟨x3,hx3⟩:∃ x3,IntKind.u64.wrap (s2 - 1)=x3:=⟨_,rfl⟩
    have HN2:Hid (gotR l (k+1)=gotR l k ++ [(k,s1,x3,by8)]):=by have:=HN.out;rw [hx3] at this;exact this
    rw [hx3]
    clear hx3 HN
    have HBA:Hid (Below w1.heap.size w1 ((w1.alloc (.cells #[.int .u64 s1,.int .u64 x3,.int .u64 by8] 108)).drew)):=((Below.refl _ _).alloc (Nat.le_refl _) _).drew
    obtain ⟨fn,tmps,assign,body,hy,hR⟩:=HY.out (gotR l k) (k,s1,x3,by8) _ (HJ.out _ w1 _ none HJ1.out (grown_bel HBA.out none) (fun r e=>by cases e)) HLN.out
    simp only [encR] at hy
    rw [hy]
    gi_wp2_with fail
    refine ⟨(fun h=>by cases h),hR.mono ?_⟩
    rintro e W3 (⟨rfl,hJ3,hk3⟩ | ⟨rfl,hJx3⟩)
    ·have HJ3:Hid (J (gotR l (k+1)) W3):=by rw [HN2.out];exact hJ3
     have HB3:Hid (Below n₀ W W3):=(HB1.out.trans (HBA.out.mono hsz1.out)).trans hk3
     clear hJ3 hk3
     gi_wp2_with fail
     go_roundw
     case rel=>exact ⟨k+1,by omega,by simp,HJ3.out,HB3.out⟩
     case measure=>simp [intOf];omega
    ·have HJ3:Hid (Jx (gotR l (k+1)) W3):=by rw [HN2.out];exact hJx3
     clear hJx3
     gi_wp2_with fail
     refine bodyPost_ret (results_none rfl _ _ _) rfl ?_
     exact ⟨⟨_,rfl⟩,.inr ⟨_,HPR.out,HJ3.out⟩⟩
  ·obtain rfl:k=4:=by omega
   gi_wp2_with fail
   go_end0
   exact ⟨⟨_,rfl⟩,.inl ⟨_,rfl,HJs.out⟩⟩

set_option maxHeartbeats 1000000 in
theorem regions_in (n:Nat) (a:Option Addr) (m cap:Nat) (w:World) :
 CallsIn Fence.wide n Tryz.prog 111 #[.slice a m cap] w fun e w'=>e=.returned (.func (.func 132) #[] #[.pointer (some ⟨w.heap.size,0,none⟩)])∧w'=w.alloc (.cells #[.slice a m cap] 25):=by
 refine callsIn_of_wp Tryz.func111 rfl trivial ?_ rfl
 simp only [Tryz.ntmps111,List.size_toArray,List.length_cons,List.length_nil,Nat.reduceAdd,Nat.reduceSub,Array.replicate_succ,Array.replicate_zero,List.push_toArray,List.append_toArray,List.nil_append,List.cons_append]
 gi_wp2
 go_ret
 exact ⟨rfl,rfl⟩

theorem regions_stops (n:Nat) (Bs n₀ b off cap:Nat) (l:List Int) (hl:∀ j,U (l.getD j 0)) (hb:b < n₀) (hBs:Bs < n₀) (hg:0 < n₀) (w:World) (hn:n₀≤w.heap.size) (hT:Tab w)
 (hc:w.cell? ⟨Bs,0,none⟩=some (.slice (some ⟨b,off,none⟩) 22 cap)) (hs:∀ j,j < 22→w.cell? ⟨b,off+j,none⟩=some (.int .u64 (l.getD j 0))) :
 SeqStopsK Fence.wide n Tryz.prog 132 #[.pointer (some ⟨Bs,0,none⟩)] encR (Below n₀) (fun ys=>ys=gotR l 4) (fun pre=>pre <+: gotR l 4) 4 w:=fun lp J Jx W hW hJ hJx hY h0 =>
 regions1_in n lp Bs n₀ b off cap l hl J Jx hb hBs hg W (Nat.le_trans hn hW.size) (hT.from hW (Nat.lt_of_lt_of_le hg hn)) ((hW.cell (p:=⟨Bs,0,none⟩) (Nat.lt_of_lt_of_le hBs hn)).trans hc)
  (fun j hj=>(hW.cell (p:=⟨b,off+j,none⟩) (Nat.lt_of_lt_of_le hb hn)).trans (hs j hj)) hJ hY h0

theorem row_kept {A B:World} {row:Option Nat} {g:Nat} {cs:Array Value} {t:TypeId} {f:Nat × Nat} (h:A.heap[g]?=some (.cells cs t f)) (hg:A.grownBy B row) (hr:∀ r,row=some r→∃ o:Obj,A.heap[r]?=some o∧o.isCells=false):B.heap[g]?=some (.cells cs t f):=by
 refine (hg.block g (Array.getElem?_eq_some_iff.1 h).1 fun e=>?_).trans h
 obtain ⟨o,ho,hc⟩:=hr g e.symm
 rw [h] at ho
 cases ho
 cases hc

end Go.Proofs.YtkhofppmeoooaaaGreatDoor

namespace Go.Proofs.YtkhofppmeoooaaaGreatDoor
open Go.RowKit Go.Shelf
set_option linter.unusedVariables false

attribute [local go_sem] Oper.semAt_some

theorem row_setAt {W:World} {g j:Nat} {cs:Array Value} {t:TypeId} (h:W.heap[g]?=some (.cells cs t (0,0))) (v:Value):(W.setCell ⟨g,j,none⟩ v).heap[g]?=some (.cells (cs.set! j v) t (0,0)):=by
 have hlt:=(Array.getElem?_eq_some_iff.1 h).1
 simp only [World.setCell]
 rw [Array.getElem?_modify]
 simp [h]

theorem row_setOff {W:World} {g B j:Nat} {o:Obj} (h:W.heap[g]?=some o) (hne:g≠B) (v:Value):(W.setCell ⟨B,j,none⟩ v).heap[g]?=some o:=by
 simp only [World.setCell]
 rw [Array.getElem?_modify,if_neg (by simpa using Ne.symm hne)]
 exact h

theorem row_put {W:World} {g D:Nat} {o o':Obj} (h:W.heap[g]?=some o) (hne:g≠D):(W.putObj D o').heap[g]?=some o :=
 ((grownBy_putObj' W D o').block g (Array.getElem?_eq_some_iff.1 h).1 (by simpa using hne)).trans h

theorem cell_at {W:World} {g:Nat} {cs:Array Value} {t:TypeId} {f:Nat × Nat} (h:W.heap[g]?=some (.cells cs t f)) (j:Nat):W.cell? ⟨g,j,none⟩=cs[j]?:=by simp [World.cell?,h]

theorem row_alloc {W:World} {g:Nat} {o:Obj} (h:W.heap[g]?=some o) (o':Obj):(W.alloc o').heap[g]?=some o:=(Below.heap_alloc W o' g (Array.getElem?_eq_some_iff.1 h).1).trans h

set_option maxRecDepth 100000 in
set_option maxHeartbeats 4000000 in
theorem firstMet_any (b off cap:Nat) (l:List Int) (x y:Int) (w:World) (hbw:b < w.heap.size) (hs:∀ j,j < 22→w.cell? ⟨b,off+j,none⟩=some (.int .u64 (l.getD j 0))) (hl:∀ j,U (l.getD j 0)) (hT:Tab w) :
 Calls Tryz.prog 79 #[.slice (some ⟨b,off,none⟩) 22 cap,.int .u64 x,.int .u64 y] w fun e w'=>e=.returned (.tuple #[.agg #[.int .u64 (metV l x y).1,.int .u64 (metV l x y).2.1,.int .u64 (metV l x y).2.2.1],.bool (metV l x y).2.2.2])∧Below w.heap.size w w':=by
 have HS:Hid (∀ j,j < 22→w.cell? ⟨b,off+j,none⟩=some (.int .u64 (l.getD j 0))):=hs
 have HL:Hid (∀ j,U (l.getD j 0)):=hl
 have HT:Hid (Tab w):=hT
 clear hs hl hT
 refine (callsIn_wide (n:=3)).1 ?_
 refine callsIn_of_wp_marks Tryz.func79 rfl trivial ?_ rfl
 simp only [Tryz.ntmps79,List.size_toArray,List.length_cons,List.length_nil,Nat.reduceAdd,Nat.reduceSub,Array.replicate_succ,Array.replicate_zero,List.push_toArray,List.append_toArray,List.nil_append,List.cons_append]
 gi_wp2_with fail
 refine ⟨trivial,(regions_in _ _ _ _ _).mono ?_⟩
 rintro e W6 ⟨rfl,rfl⟩
 gi_wp2_with fail
 have bX:=((((Boxed.new w 24 (.int .u64 x)).alloc (.cells #[.int .u64 y] 24)).alloc (.cells #[.int .u64 0,.int .u64 0,.int .u64 0] 108)).alloc (.cells #[.bool false] 4)).alloc (.cells #[.slice (some ⟨b,off,none⟩) 22 cap] 25)
 have bY:=(((Boxed.new (w.alloc (.cells #[.int .u64 x] 24)) 24 (.int .u64 y)).alloc (.cells #[.int .u64 0,.int .u64 0,.int .u64 0] 108)).alloc (.cells #[.bool false] 4)).alloc (.cells #[.slice (some ⟨b,off,none⟩) 22 cap] 25)
 have bR:=row_alloc (row_alloc (World.alloc_heap_new ((w.alloc (.cells #[.int .u64 x] 24)).alloc (.cells #[.int .u64 y] 24)) (.cells #[.int .u64 0,.int .u64 0,.int .u64 0] 108)) (.cells #[.bool false] 4)) (.cells #[.slice (some ⟨b,off,none⟩) 22 cap] 25)
 have bB:=(Boxed.new (((w.alloc (.cells #[.int .u64 x] 24)).alloc (.cells #[.int .u64 y] 24)).alloc (.cells #[.int .u64 0,.int .u64 0,.int .u64 0] 108)) 4 (.bool false)).alloc (.cells #[.slice (some ⟨b,off,none⟩) 22 cap] 25)
 have bS:=Boxed.new ((((w.alloc (.cells #[.int .u64 x] 24)).alloc (.cells #[.int .u64 y] 24)).alloc (.cells #[.int .u64 0,.int .u64 0,.int .u64 0] 108)).alloc (.cells #[.bool false] 4)) 25 (.slice (some ⟨b,off,none⟩) 22 cap)
 simp only [World.size_alloc] at bY bR bB bS
 have hB6:Below w.heap.size w (((((w.alloc (.cells #[.int .u64 x] 24)).alloc (.cells #[.int .u64 y] 24)).alloc (.cells #[.int .u64 0,.int .u64 0,.int .u64 0] 108)).alloc (.cells #[.bool false] 4)).alloc (.cells #[.slice (some ⟨b,off,none⟩) 22 cap] 25)):=(((((Below.refl _ w).alloc (Nat.le_refl _) _).alloc (by simp) _).alloc (by simp;omega) _).alloc (by simp;omega) _).alloc (by simp;omega) _
 have hz6:(((((w.alloc (.cells #[.int .u64 x] 24)).alloc (.cells #[.int .u64 y] 24)).alloc (.cells #[.int .u64 0,.int .u64 0,.int .u64 0] 108)).alloc (.cells #[.bool false] 4)).alloc (.cells #[.slice (some ⟨b,off,none⟩) 22 cap] 25)).heap.size=w.heap.size+5:=by simp
 obtain ⟨W6,hW6⟩:∃ W6,((((w.alloc (.cells #[.int .u64 x] 24)).alloc (.cells #[.int .u64 y] 24)).alloc (.cells #[.int .u64 0,.int .u64 0,.int .u64 0] 108)).alloc (.cells #[.bool false] 4)).alloc (.cells #[.slice (some ⟨b,off,none⟩) 22 cap] 25)=W6:=⟨_,rfl⟩
 rw [hW6] at bX bY bR bB bS hB6 hz6 ⊢
 clear hW6
 have hT6:Tab W6:=HT.out.below hB6
 have hs6:∀ j,j < 22→W6.cell? ⟨b,off+j,none⟩=some (.int .u64 (l.getD j 0)):=fun j hj=>(hB6.cell (p:=⟨b,off+j,none⟩) hbw).trans (HS.out j hj)
 have hg5:0 < w.heap.size:=HT.out.lt
 refine wpIn_rangeFunc_ownH rfl (by omega) (gf:=132) (lb:=#[.pointer (some ⟨w.heap.size+1+1+1+1,0,none⟩)]) rfl trivial (enters_of Tryz.func132 (by kernel_rfl) rfl)
  (regions_stops 2 (w.heap.size+1+1+1+1) (w.heap.size+5) b off cap l HL.out (by omega) (by omega) (by omega) W6 (by omega) hT6 bS.cell hs6) belowK_t (belowK_b (by omega)) (Below.refl _ _) (fun _=>rfl)
  (fun pre W=>((∀ p ∈ pre,meetsB x y p=false)∧Boxed W w.heap.size 24 (.int .u64 x)∧Boxed W (w.heap.size+1) 24 (.int .u64 y)∧W.heap[w.heap.size+1+1]?=some (.cells #[.int .u64 0,.int .u64 0,.int .u64 0] 108 (0,0))∧Boxed W (w.heap.size+1+1+1) 4 (.bool false)∧w.heap.size+5≤W.heap.size)∧Below w.heap.size w W)
  (fun c pre W=>(c=.ret∧∃ ini last,pre=ini ++ [last]∧(∀ p ∈ ini,meetsB x y p=false)∧meetsB x y last=true∧W.heap[w.heap.size+1+1]?=some (.cells #[.int .u64 last.2.1,.int .u64 last.2.2.1,.int .u64 last.2.2.2] 108 (0,0))∧Boxed W (w.heap.size+1+1+1) 4 (.bool true))∧Below w.heap.size w W)
  (OwnFrom.and (fun s A B row hs hg hr=>⟨hs.1,row_kept hs.2.1 hg (fun r e=>(hr r e).2),row_kept hs.2.2.1 hg (fun r e=>(hr r e).2),row_kept hs.2.2.2.1 hg (fun r e=>(hr r e).2),row_kept hs.2.2.2.2.1 hg (fun r e=>(hr r e).2),Nat.le_trans hs.2.2.2.2.2 hg.size⟩) (ownFrom_below (Nat.le_refl _) (by omega)))
  (fun c=>OwnFrom.and (fun s A B row hs hg hr=>by obtain ⟨hc,ini,last,e1,e2,e3,e4,e5⟩:=hs;exact ⟨hc,ini,last,e1,e2,e3,row_kept e4 hg (fun r e=>(hr r e).2),row_kept e5 hg (fun r e=>(hr r e).2)⟩) (ownFrom_below (Nat.le_refl _) (by omega)))
  ⟨⟨by simp,bX,bY,bR,bB,by omega⟩,hB6⟩
  (fun q a' W=>∃ Bx,w.heap.size+4≤Bx∧W.heap[Bx]?=some (.cells #[.int .u64 q.2.1,.int .u64 q.2.2.1,.int .u64 q.2.2.2] 108 (0,0))∧a'={ tmps:=#[.slice (some ⟨b,off,none⟩) 22 cap,.int .u64 x,.int .u64 y,undef,.pointer (some ⟨w.heap.size,0,none⟩),.pointer (some ⟨w.heap.size+1,0,none⟩),.pointer (some ⟨w.heap.size+1+1,0,none⟩),.pointer (some ⟨w.heap.size+1+1+1,0,none⟩),undef,.pointer (some ⟨Bx,0,none⟩),.slice (some ⟨b,off,none⟩) 22 cap,.func (.func 132) #[] #[.pointer (some ⟨w.heap.size+1+1+1+1,0,none⟩)],.int .i64 (q.1:Int),.agg #[.int .u64 q.2.1,.int .u64 q.2.2.1,.int .u64 q.2.2.2],undef,undef,undef,undef,undef,undef,undef,undef,undef,undef,undef,undef],defers:=[] })
  (fun q a' _ X Y row hs hg hr=>by obtain ⟨Bx,h1,h2,h3⟩:=hs;exact ⟨Bx,h1,row_kept h2 hg (fun r e=>(hr r e).2),h3⟩)
  ?assign ?body ?done ?stop
 case assign =>
  rintro lp pre q W K ⟨⟨hp,bX1,bY1,bR1,bB1,hs1⟩,hB1⟩ hK
  simp only [encR]
  gi_wp2_with fail
  exact hK _ _ ((KeepsOthers.alloc _ _).from _) ((Below.refl _ W).alloc hs1 _) ⟨⟨hp,bX1.alloc _,bY1.alloc _,row_alloc bR1 _,bB1.alloc _,by simp;omega⟩,hB1.alloc hB1.size _⟩ ⟨W.heap.size,bB1.lt,World.alloc_heap_new W _,rfl⟩
 case body =>
  rintro lp pre q a' W hlp ⟨r,hr⟩ ⟨⟨hp,bX1,bY1,bR1,bB1,hs1⟩,hB1⟩ ⟨Bx,hBx,bQ,rfl⟩ hlt
  have q0:W.cell? ⟨Bx,0,none⟩=some (.int .u64 q.2.1):=by simp [World.cell?,bQ]
  have q1:W.cell? ⟨Bx,1,none⟩=some (.int .u64 q.2.2.1):=by simp [World.cell?,bQ]
  have q2:W.cell? ⟨Bx,2,none⟩=some (.int .u64 q.2.2.2):=by simp [World.cell?,bQ]
  have cX:=bX1.cell
  have cY:=bY1.cell
  have FM:Hid (meetsB x y q=(decide (q.2.1≤y)&&decide (x≤q.2.2.1))):=(rfl:meetsB x y q=_)
  cases h1:decide (q.2.1≤y) with
  | false =>
   rw [h1] at FM
   have hq:Hid (meetsB x y q=false):=FM.out
   gi_wp2_with fail
   exact ⟨KeepsFrom.refl _ _,Below.refl _ _,⟨fun p hp'=>(List.mem_append.1 hp').elim (hp p) (fun e=>by simp at e;subst e;exact hq.out),bX1,bY1,bR1,bB1,hs1⟩,hB1⟩
  | true =>
   rw [h1] at FM
   cases h2:decide (x≤q.2.2.1) with
   | false =>
    rw [h2] at FM
    have hq:Hid (meetsB x y q=false):=FM.out
    gi_wp2_with fail
    exact ⟨KeepsFrom.refl _ _,Below.refl _ _,⟨fun p hp'=>(List.mem_append.1 hp').elim (hp p) (fun e=>by simp at e;subst e;exact hq.out),bX1,bY1,bR1,bB1,hs1⟩,hB1⟩
   | true =>
    rw [h2] at FM
    have hq:Hid (meetsB x y q=true):=FM.out
    have r0:W.cell? ⟨w.heap.size+1+1,0,none⟩=some (.int .u64 0):=by simp [World.cell?,bR1]
    have r1:W.cell? ⟨w.heap.size+1+1,1,none⟩=some (.int .u64 0):=by simp [World.cell?,bR1]
    have r2:W.cell? ⟨w.heap.size+1+1,2,none⟩=some (.int .u64 0):=by simp [World.cell?,bR1]
    have g0:W.frozen? ⟨w.heap.size+1+1,0,none⟩=false:=by simp [World.frozen?,bR1]
    have g1:W.frozen? ⟨w.heap.size+1+1,1,none⟩=false:=by simp [World.frozen?,bR1]
    have g2:W.frozen? ⟨w.heap.size+1+1,2,none⟩=false:=by simp [World.frozen?,bR1]
    have cB:=bB1.cell
    have fB:=bB1.frozen
    have Z1:Hid (KeepsFrom W6.heap.size W ((((W.setCell ⟨w.heap.size+1+1,0,none⟩ (.int .u64 q.2.1)).setCell ⟨w.heap.size+1+1,1,none⟩ (.int .u64 q.2.2.1)).setCell ⟨w.heap.size+1+1,2,none⟩ (.int .u64 q.2.2.2)).setCell ⟨w.heap.size+1+1+1,0,none⟩ (.bool true))):=((((KeepsOthers.setCell W _ _).trans (KeepsOthers.setCell _ _ _)).trans (KeepsOthers.setCell _ _ _)).trans (KeepsOthers.setCell _ _ _)).from _
    have Z2:Hid (((((W.setCell ⟨w.heap.size+1+1,0,none⟩ (.int .u64 q.2.1)).setCell ⟨w.heap.size+1+1,1,none⟩ (.int .u64 q.2.2.1)).setCell ⟨w.heap.size+1+1,2,none⟩ (.int .u64 q.2.2.2)).setCell ⟨w.heap.size+1+1+1,0,none⟩ (.bool true)).heap[w.heap.size+1+1]?=some (.cells #[.int .u64 q.2.1,.int .u64 q.2.2.1,.int .u64 q.2.2.2] 108 (0,0))):=row_setOff (row_setAt (row_setAt (row_setAt bR1 _) _) _) (by omega) _
    have Z3:Hid (Boxed ((((W.setCell ⟨w.heap.size+1+1,0,none⟩ (.int .u64 q.2.1)).setCell ⟨w.heap.size+1+1,1,none⟩ (.int .u64 q.2.2.1)).setCell ⟨w.heap.size+1+1,2,none⟩ (.int .u64 q.2.2.2)).setCell ⟨w.heap.size+1+1+1,0,none⟩ (.bool true)) (w.heap.size+1+1+1) 4 (.bool true)):=Boxed.set _ (v:=.bool false) (row_setOff (row_setOff (row_setOff bB1 (by omega) _) (by omega) _) (by omega) _)
    have Z4:Hid (Below w.heap.size w ((((W.setCell ⟨w.heap.size+1+1,0,none⟩ (.int .u64 q.2.1)).setCell ⟨w.heap.size+1+1,1,none⟩ (.int .u64 q.2.2.1)).setCell ⟨w.heap.size+1+1,2,none⟩ (.int .u64 q.2.2.2)).setCell ⟨w.heap.size+1+1+1,0,none⟩ (.bool true))):=(((hB1.setCell (p:=⟨w.heap.size+1+1,0,none⟩) (by simp;omega) _).setCell (p:=⟨w.heap.size+1+1,1,none⟩) (by simp;omega) _).setCell (p:=⟨w.heap.size+1+1,2,none⟩) (by simp;omega) _).setCell (p:=⟨w.heap.size+1+1+1,0,none⟩) (by simp;omega) _
    gi_wp2_with fail
    exact ⟨Z1.out,⟨rfl,pre,q,rfl,hp,hq.out,Z2.out,Z3.out⟩,Z4.out⟩
 case done =>
  rintro D ys W hD rfl ⟨⟨hp,bX1,bY1,bR1,bB1,hs1⟩,hB1⟩ hK
  have FN:Hid (metV l x y=(0,0,0,false)):=by show metV l x y=_;unfold metV;rw [find_done hp]
  have r0:W.cell? ⟨w.heap.size+1+1,0,none⟩=some (.int .u64 0):=by simp [World.cell?,bR1]
  have r1:W.cell? ⟨w.heap.size+1+1,1,none⟩=some (.int .u64 0):=by simp [World.cell?,bR1]
  have r2:W.cell? ⟨w.heap.size+1+1,2,none⟩=some (.int .u64 0):=by simp [World.cell?,bR1]
  have g0:W.frozen? ⟨w.heap.size+1+1,0,none⟩=false:=by simp [World.frozen?,bR1]
  have g1:W.frozen? ⟨w.heap.size+1+1,1,none⟩=false:=by simp [World.frozen?,bR1]
  have g2:W.frozen? ⟨w.heap.size+1+1,2,none⟩=false:=by simp [World.frozen?,bR1]
  have cB:=bB1.cell
  have fB:=bB1.frozen
  have k1:Hid (((((W.setCell ⟨w.heap.size+1+1,0,none⟩ (.int .u64 0)).setCell ⟨w.heap.size+1+1,1,none⟩ (.int .u64 0)).setCell ⟨w.heap.size+1+1,2,none⟩ (.int .u64 0)).setCell ⟨w.heap.size+1+1+1,0,none⟩ (.bool false)).heap[D]?=some (.deferred (some []))):=row_setOff (row_setOff (row_setOff (row_setOff hK (by omega) _) (by omega) _) (by omega) _) (by omega) _
  have z2:((((W.setCell ⟨w.heap.size+1+1,0,none⟩ (.int .u64 0)).setCell ⟨w.heap.size+1+1,1,none⟩ (.int .u64 0)).setCell ⟨w.heap.size+1+1,2,none⟩ (.int .u64 0)).setCell ⟨w.heap.size+1+1+1,0,none⟩ (.bool false)).heap[w.heap.size+1+1]?=some (.cells #[.int .u64 0,.int .u64 0,.int .u64 0] 108 (0,0)):=row_setOff (row_setAt (row_setAt (row_setAt bR1 _) _) _) (by omega) _
  have z3:Boxed ((((W.setCell ⟨w.heap.size+1+1,0,none⟩ (.int .u64 0)).setCell ⟨w.heap.size+1+1,1,none⟩ (.int .u64 0)).setCell ⟨w.heap.size+1+1,2,none⟩ (.int .u64 0)).setCell ⟨w.heap.size+1+1+1,0,none⟩ (.bool false)) (w.heap.size+1+1+1) 4 (.bool false):=Boxed.set _ (v:=.bool false) (row_setOff (row_setOff (row_setOff bB1 (by omega) _) (by omega) _) (by omega) _)
  have z4:Hid (Below w.heap.size w ((((W.setCell ⟨w.heap.size+1+1,0,none⟩ (.int .u64 0)).setCell ⟨w.heap.size+1+1,1,none⟩ (.int .u64 0)).setCell ⟨w.heap.size+1+1,2,none⟩ (.int .u64 0)).setCell ⟨w.heap.size+1+1+1,0,none⟩ (.bool false))):=(((hB1.setCell (p:=⟨w.heap.size+1+1,0,none⟩) (by simp;omega) _).setCell (p:=⟨w.heap.size+1+1,1,none⟩) (by simp;omega) _).setCell (p:=⟨w.heap.size+1+1,2,none⟩) (by simp;omega) _).setCell (p:=⟨w.heap.size+1+1+1,0,none⟩) (by simp;omega) _
  have Z2:Hid (((((((W.setCell ⟨w.heap.size+1+1,0,none⟩ (.int .u64 0)).setCell ⟨w.heap.size+1+1,1,none⟩ (.int .u64 0)).setCell ⟨w.heap.size+1+1,2,none⟩ (.int .u64 0)).setCell ⟨w.heap.size+1+1+1,0,none⟩ (.bool false))).putObj D (.deferred none)).heap[w.heap.size+1+1]?=some (.cells #[.int .u64 0,.int .u64 0,.int .u64 0] 108 (0,0))):=row_put z2 (by omega)
  have Z3:Hid (Boxed (((((W.setCell ⟨w.heap.size+1+1,0,none⟩ (.int .u64 0)).setCell ⟨w.heap.size+1+1,1,none⟩ (.int .u64 0)).setCell ⟨w.heap.size+1+1,2,none⟩ (.int .u64 0)).setCell ⟨w.heap.size+1+1+1,0,none⟩ (.bool false)).putObj D (.deferred none)) (w.heap.size+1+1+1) 4 (.bool false)):=row_put z3 (by omega)
  clear z2 z3
  gi_wp2_with fail
  refine ⟨by simp,.inl ⟨_,_,rfl,run_takeDeferred k1.out,?_⟩⟩
  have y2:=Z2.out
  have y3:=Z3.out.cell
  refine ⟨.tuple #[.agg #[.int .u64 0,.int .u64 0,.int .u64 0],.bool false],?_,by rw [FN.out],z4.out.trans (belowK_b (w:=w) (Nat.le_refl _) _ D _ _ (by omega) k1.out rfl rfl)⟩
  have y20:=cell_at y2 0
  have y21:=cell_at y2 1
  have y22:=cell_at y2 2
  simp at y20 y21 y22
  simp [results,Tryz.f79,go_sem,y20,y21,y22,y3]
 case stop =>
  rintro D c pre W hD hpre ⟨⟨rfl,ini,last,e1,e2,e3,bR1,bB1⟩,hB1⟩ hK
  have FN:Hid (metV l x y=(last.2.1,last.2.2.1,last.2.2.2,true)):=by show metV l x y=_;unfold metV;rw [find_stop hpre e1 e2 e3]
  gi_wp2_with fail
  refine ⟨by simp,.inl ⟨_,_,rfl,run_takeDeferred hK,?_⟩⟩
  have y2:(W.putObj D (.deferred none)).heap[w.heap.size+1+1]?=_:=row_put bR1 (by omega)
  have y3:=Boxed.cell (show Boxed (W.putObj D (.deferred none)) (w.heap.size+1+1+1) 4 (.bool true) from row_put bB1 (by omega))
  have y20:=cell_at y2 0
  have y21:=cell_at y2 1
  have y22:=cell_at y2 2
  simp at y20 y21 y22
  refine ⟨.tuple #[.agg #[.int .u64 last.2.1,.int .u64 last.2.2.1,.int .u64 last.2.2.2],.bool true],?_,by rw [FN.out],hB1.trans (belowK_b (w:=w) (Nat.le_refl _) W D _ _ (by omega) hK rfl rfl)⟩
  simp [results,Tryz.f79,go_sem,y20,y21,y22,y3]

end Go.Proofs.YtkhofppmeoooaaaGreatDoor

namespace Go.Proofs.YtkhofppmeoooaaaGreatDoor
open Go.RowKit
set_option linter.unusedVariables false

theorem got_byte {l:List Int} {n:Nat} (hl:∀ j,U (l.getD j 0)) {q:Nat × Int × Int × Int} (h:q ∈ gotR l n):∃ z:Nat,z < 256∧q.2.2.2=z:=by
 obtain ⟨_,e⟩:=got_mem h
 unfold pickR at e
 split at e
 ·cases e
 ·have:=Option.some.inj e
  rw [← this]
  obtain ⟨h0,h1⟩:=fld_bd (l.getD 16 0) (8*q.1) 8
  exact ⟨(fld (l.getD 16 0) (8*q.1) 8).toNat,by omega,by show fld _ _ _=_;omega⟩

theorem let_allow (z:Nat) (hz:z < 256) (p k:Int):letB z p k=allowB z p k:=by
 obtain ⟨e1,e2,e3,e4,e5,e6⟩:=byte8 z hz
 unfold letB allowB kindM
 rw [e1]
 cases h:((p==3)&&((z:Int) / 128==0)) with
 | true=>rfl
 | false =>
  cases k1:(k==1) with
  | true=>simp only [if_true,Bool.false_eq_true,if_false,Bool.false_or];rw [e3]
  | false =>
   cases k2:(k==2) with
   | true=>simp only [if_true,Bool.false_eq_true,if_false,Bool.false_or];rw [e4]
   | false=>simp only [Bool.false_eq_true,if_false,Bool.false_or];rw [e5]

theorem perm_met {l:List Int} (hl:∀ j,U (l.getD j 0)) (hok:csrsOk 22 l=true) (p x y k:Int) :
 permRest l p x y k 4 0=if (metV l x y).2.2.2=true then (allB (metV l x y).1 (metV l x y).2.1 x y&&allowB (metV l x y).2.2.1 p k) else (p==3):=by
 rw [perm_find hl hok p x y k 4 0 (by omega)]
 have hg:(List.range' 0 4).filterMap (pickR l)=gotR l 4:=by unfold gotR;rw [List.range_eq_range']
 rw [hg]
 unfold metV
 cases hf:(gotR l 4).find? (meetsB x y) with
 | none=>rfl
 | some q =>
  obtain ⟨z,hz,e⟩:=got_byte hl (List.mem_of_find?_eq_some hf)
  show (!(decide (x < q.2.1)||decide (q.2.2.1 < y))&&letB q.2.2.2 p k)=(allB q.2.1 q.2.2.1 x y&&allowB q.2.2.2 p k)
  rw [e,let_allow z hz p k]
  congr 1
  unfold allB
  rw [Bool.not_or]
  congr 1
  ·rw [← decide_not];congr 1;exact propext ⟨fun h=>by omega,fun h=>by omega⟩
  ·rw [← decide_not];congr 1;exact propext ⟨fun h=>by omega,fun h=>by omega⟩

theorem sl_cells {w:World} {a:Option Addr} {l:List Int} (hs:Sl .u64 w a l) (hz:l.length=22):∃ b off,a=some ⟨b,off,none⟩∧b < w.heap.size∧∀ j,j < 22→w.cell? ⟨b,off+j,none⟩=some (.int .u64 (l.getD j 0)):=by
 obtain ⟨b,off,rfl,hb,_⟩:=hs 0 (by omega)
 refine ⟨b,off,rfl,hb,fun j hj=>?_⟩
 obtain ⟨b',off',e,_,hc⟩:=hs j (by omega)
 cases e
 exact hc

theorem cells_new3 (w:World) (u v z:Value) (t:TypeId):(w.alloc (.cells #[u,v,z] t)).cell? ⟨w.heap.size,0,none⟩=some u∧(w.alloc (.cells #[u,v,z] t)).cell? ⟨w.heap.size,1,none⟩=some v∧(w.alloc (.cells #[u,v,z] t)).cell? ⟨w.heap.size,2,none⟩=some z:=by
 have h:=World.alloc_heap_new w (.cells #[u,v,z] t)
 exact ⟨cell_at h 0,cell_at h 1,cell_at h 2⟩

set_option maxRecDepth 100000 in
set_option maxHeartbeats 3200000 in
theorem implPermits_any (a:Option Addr) (n cap:Nat) (l:List Int) (p x s k:Int) (w:World) (hz:l.length=n) (hs:Sl .u64 w a l) (hl:∀ j,U (l.getD j 0)) (hx:U x) (hT:Tab w) :
 Calls Tryz.prog 44 #[.slice a n cap,.int .i64 p,.int .u64 x,.int .i64 s,.int .i64 k] w fun e w'=>e=.returned (.bool (permV n l p x s k))∧Below w.heap.size w w':=by
 have HL:Hid (Calls Tryz.prog 30 #[.slice a n cap,.int .i64 p] w fun e w'=>e=.returned (.bool (legalB n l p))∧Below w.heap.size w w'):=implLegal_any a n cap l p w hz hs hl
 have HS:Hid (∀ w,Calls Tryz.prog 38 #[.int .i64 s] w fun e w'=>e=.returned (.bool (sizeB s))∧w'=w):=implSize_any s
 have HK:Hid (∀ w,Calls Tryz.prog 39 #[.int .i64 k] w fun e w'=>e=.returned (.bool (decide (1≤k∧k≤3)))∧w'=w):=fun w=>by
  have:=kindOk_any k w
  rw [kind_eq] at this
  exact this
 have F0:permV n l p x s k=(legalB n l p&&sizeB s&&decide (1≤k∧k≤3)&&!decide (lastOf x s < x)&&permRest l p x (lastOf x s) k 4 0):=rfl
 have hy:IntKind.u64.wrap (IntKind.u64.wrap (x+IntKind.u64.wrap s) - 1)=lastOf x s:=rfl
 have HM:legalB n l p=true→Hid ((∀ W,Below w.heap.size w W→Calls Tryz.prog 79 #[.slice a n cap,.int .u64 x,.int .u64 (lastOf x s)] W fun e w'=>e=.returned (.tuple #[.agg #[.int .u64 (metV l x (lastOf x s)).1,.int .u64 (metV l x (lastOf x s)).2.1,.int .u64 (metV l x (lastOf x s)).2.2.1],.bool (metV l x (lastOf x s)).2.2.2])∧Below W.heap.size W w') ∧
  permRest l p x (lastOf x s) k 4 0=if (metV l x (lastOf x s)).2.2.2=true then (allB (metV l x (lastOf x s)).1 (metV l x (lastOf x s)).2.1 x (lastOf x s)&&allowB (metV l x (lastOf x s)).2.2.1 p k) else (p==3)):=by
  intro h
  obtain ⟨rfl,hp⟩:=legalB_parts h
  have hok:csrsOk 22 l=true:=by unfold legalB at h;rw [Bool.and_eq_true] at h;exact h.1
  obtain ⟨b,off,rfl,hb,hc⟩:=sl_cells hs hz
  exact ⟨fun W hW=>firstMet_any b off cap l x (lastOf x s) W (Nat.lt_of_lt_of_le hb hW.size) (fun j hj=>(hW.cell (p:=⟨b,off+j,none⟩) hb).trans (hc j hj)) hl (hT.below hW),perm_met hl hok p x (lastOf x s) k⟩
 clear hz hs hl hT hx
 generalize permV n l p x s k=res at *
 generalize permRest l p x (lastOf x s) k 4 0=pr at *
 generalize decide (1≤k∧k≤3)=kb at *
 generalize sizeB s=sb at *
 generalize lastOf x s=y at *
 generalize legalB n l p=lb at *
 generalize metV l x y=m at *
 obtain ⟨lo,hi,r,ok⟩:=m
 simp only at HM
 cases lb with
 | false =>
  have F:Hid (res=false):=F0
  clear F0 HM
  go_enter Tryz.func44,Tryz.ntmps44
  go_wp2_with fail
  refine HL.out.mono ?_
  rintro e w1 ⟨rfl,hb1⟩
  go_wp2_with fail
  go_ret
  exact ⟨by rw [F.out];rfl,hb1⟩
 | true =>
  have HM2:=HM rfl
  have HF:Hid (∀ W,Below w.heap.size w W→Calls Tryz.prog 79 #[.slice a n cap,.int .u64 x,.int .u64 y] W fun e w'=>e=.returned (.tuple #[.agg #[.int .u64 lo,.int .u64 hi,.int .u64 r],.bool ok])∧Below W.heap.size W w'):=HM2.out.1
  have FP:Hid (pr=if ok=true then (allB lo hi x y&&allowB r p k) else (p==3)):=HM2.out.2
  clear HM HM2
  cases sb with
  | false =>
   have F:Hid (res=false):=F0
   clear F0
   go_enter Tryz.func44,Tryz.ntmps44
   go_wp2_with fail
   refine HL.out.mono ?_
   rintro e w1 ⟨rfl,hb1⟩
   go_wp2_with fail
   refine (HS.out _).mono ?_
   rintro e w2 ⟨rfl,hw2⟩
   subst hw2
   go_wp2_with fail
   go_ret
   exact ⟨by rw [F.out];rfl,hb1⟩
  | true =>
   cases kb with
   | false =>
    have F:Hid (res=false):=F0
    clear F0
    go_enter Tryz.func44,Tryz.ntmps44
    go_wp2_with fail
    refine HL.out.mono ?_
    rintro e w1 ⟨rfl,hb1⟩
    go_wp2_with fail
    refine (HS.out _).mono ?_
    rintro e w2 ⟨rfl,hw2⟩
    subst hw2
    go_wp2_with fail
    refine (HK.out _).mono ?_
    rintro e w3 ⟨rfl,hw3⟩
    subst hw3
    go_wp2_with fail
    go_ret
    exact ⟨by rw [F.out];rfl,hb1⟩
   | true =>
    cases hlt:decide (y < x) with
    | true =>
     rw [hlt] at F0
     have F:Hid (res=false):=F0
     clear F0
     go_enter Tryz.func44,Tryz.ntmps44
     go_wp2_with fail
     refine HL.out.mono ?_
     rintro e w1 ⟨rfl,hb1⟩
     go_wp2_with fail
     refine (HS.out _).mono ?_
     rintro e w2 ⟨rfl,hw2⟩
     subst hw2
     go_wp2_with fail
     refine (HK.out _).mono ?_
     rintro e w3 ⟨rfl,hw3⟩
     subst hw3
     go_wp2_with fail
     go_ret
     exact ⟨by rw [F.out];rfl,hb1⟩
    | false =>
     rw [hlt] at F0
     have F1:Hid (res=pr):=F0.trans (by simp)
     clear F0
     cases ok with
     | false =>
      have F:Hid (res=(p==3)):=F1.out.trans FP.out
      clear FP F1
      go_enter Tryz.func44,Tryz.ntmps44
      go_wp2_with fail
      refine HL.out.mono ?_
      rintro e w1 ⟨rfl,hb1⟩
      have HB1:Hid (Below w.heap.size w w1):=hb1
      clear hb1
      go_wp2_with fail
      refine (HS.out _).mono ?_
      rintro e w2 ⟨rfl,hw2⟩
      subst hw2
      go_wp2_with fail
      refine (HK.out _).mono ?_
      rintro e w3 ⟨rfl,hw3⟩
      subst hw3
      go_wp2_with fail
      refine (HF.out _ HB1.out).mono ?_
      rintro e w4 ⟨rfl,hb4⟩
      have HB4:Hid (Below w.heap.size w w4):=below_trans HB1.out hb4
      clear hb4
      go_wp2_with fail
      go_ret
      exact ⟨by rw [F.out];rfl,HB4.out.alloc HB4.out.size _⟩
     | true =>
      have F2:Hid (res=(allB lo hi x y&&allowB r p k)):=F1.out.trans FP.out
      clear FP F1
      have HA:Hid (∀ w,Calls Tryz.prog 80 #[.agg #[.int .u64 lo,.int .u64 hi,.int .u64 r],.int .u64 x,.int .u64 y] w fun e w'=>e=.returned (.bool (allB lo hi x y))∧Below w.heap.size w w'):=hasAll_any lo hi r x y
      have HW:Hid (∀ w,Calls Tryz.prog 81 #[.agg #[.int .u64 lo,.int .u64 hi,.int .u64 r],.int .i64 p,.int .i64 k] w fun e w'=>e=.returned (.bool (allowB r p k))∧Below w.heap.size w w'):=allows_any lo hi r p k
      generalize allB lo hi x y=ab at *
      generalize allowB r p k=aw at *
      cases ab with
      | false =>
       have F:Hid (res=false):=F2.out
       clear F2
       go_enter Tryz.func44,Tryz.ntmps44
       go_wp2_with fail
       refine HL.out.mono ?_
       rintro e w1 ⟨rfl,hb1⟩
       have HB1:Hid (Below w.heap.size w w1):=hb1
       clear hb1
       go_wp2_with fail
       refine (HS.out _).mono ?_
       rintro e w2 ⟨rfl,hw2⟩
       subst hw2
       go_wp2_with fail
       refine (HK.out _).mono ?_
       rintro e w3 ⟨rfl,hw3⟩
       subst hw3
       go_wp2_with fail
       refine (HF.out _ HB1.out).mono ?_
       rintro e w4 ⟨rfl,hb4⟩
       have HB4:Hid (Below w.heap.size w w4):=below_trans HB1.out hb4
       clear hb4
       go_wp2_with fail
       refine (HA.out _).mono ?_
       rintro e w5 ⟨rfl,hb5⟩
       have HB5:Hid (Below w.heap.size w w5):=below_trans (HB4.out.alloc HB4.out.size _) hb5
       clear hb5
       go_wp2_with fail
       go_ret
       exact ⟨by rw [F.out];rfl,HB5.out⟩
      | true =>
       have F:Hid (res=aw):=F2.out.trans (by simp)
       clear F2
       go_enter Tryz.func44,Tryz.ntmps44
       go_wp2_with fail
       refine HL.out.mono ?_
       rintro e w1 ⟨rfl,hb1⟩
       have HB1:Hid (Below w.heap.size w w1):=hb1
       clear hb1
       go_wp2_with fail
       refine (HS.out _).mono ?_
       rintro e w2 ⟨rfl,hw2⟩
       subst hw2
       go_wp2_with fail
       refine (HK.out _).mono ?_
       rintro e w3 ⟨rfl,hw3⟩
       subst hw3
       go_wp2_with fail
       refine (HF.out _ HB1.out).mono ?_
       rintro e w4 ⟨rfl,hb4⟩
       have HB4:Hid (Below w.heap.size w w4):=below_trans HB1.out hb4
       clear hb4
       go_wp2_with fail
       refine (HA.out _).mono ?_
       rintro e w5 ⟨rfl,hb5⟩
       have HB5:Hid (Below w.heap.size w w5):=below_trans (HB4.out.alloc HB4.out.size _) hb5
       obtain ⟨n0,n1,n2⟩:=cells_new3 w4 (.int .u64 lo) (.int .u64 hi) (.int .u64 r) 108
       have m0:=(hb5.cell (p:=⟨w4.heap.size,0,none⟩) (by simp)).trans n0
       have m1:=(hb5.cell (p:=⟨w4.heap.size,1,none⟩) (by simp)).trans n1
       have m2:=(hb5.cell (p:=⟨w4.heap.size,2,none⟩) (by simp)).trans n2
       clear hb5 n0 n1 n2
       go_wp2_with fail
       refine (HW.out _).mono ?_
       rintro e w6 ⟨rfl,hb6⟩
       have HB6:Hid (Below w.heap.size w w6):=below_trans HB5.out hb6
       clear hb6 m0 m1 m2
       go_wp2_with fail
       go_ret
       exact ⟨by rw [F.out];rfl,HB6.out⟩

end Go.Proofs.YtkhofppmeoooaaaGreatDoor
