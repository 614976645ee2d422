/- Own lemmas. -/
import Derived.Test.YtkhofppmeoooaaaGreatDoorK01
import Derived.Test.YtkhofppmeoooaaaGreatDoorK02
import Derived.BigQuiet
import Derived.OwnWalk
import Derived.Test.YtkhofppmeoooaaaGreatDoorProg
import Derived.WalkKit
import Derived.Great.BuildSlice
import Derived.Laws.BitsAllLaws
namespace Go.Proofs.YtkhofppmeoooaaaGreatDoor
open Go.RowKit
set_option linter.unusedVariables false

theorem l4Numbers_any (w:World):Calls Tryz.prog 131 #[] w fun e w'=>e=.returned (.slice (some ⟨w.heap.size,0,none⟩) 22 22)∧w'=w.alloc (.cells (csrNumbers.map (Value.int .i64)).toArray 2):=by
 go_enter Tryz.func131,Tryz.ntmps131
 go_wp2_with fail
 go_ret
 exact ⟨rfl,rfl⟩

theorem l4Legal_1 (x:Int) (w:World):Calls Tryz.prog 109 #[.int .i64 1,.int .u64 x] w fun e w'=>e=.returned (.int .u64 (legal 1 x))∧w'=w:=by
 go_enter Tryz.func109,Tryz.ntmps109
 go_wp2_with fail
 go_ret
 exact ⟨rfl,rfl⟩

theorem l4Legal_2 (x:Int) (w:World):Calls Tryz.prog 109 #[.int .i64 2,.int .u64 x] w fun e w'=>e=.returned (.int .u64 (legal 2 x))∧w'=w:=by
 go_enter Tryz.func109,Tryz.ntmps109
 go_wp2_with fail
 go_ret
 exact ⟨rfl,rfl⟩

theorem l4Legal_3 (x:Int) (w:World):Calls Tryz.prog 109 #[.int .i64 3,.int .u64 x] w fun e w'=>e=.returned (.int .u64 (legal 3 x))∧w'=w:=by
 go_enter Tryz.func109,Tryz.ntmps109
 go_wp2_with fail
 go_ret
 exact ⟨rfl,rfl⟩

theorem l4Legal_4 (x:Int) (w:World):Calls Tryz.prog 109 #[.int .i64 4,.int .u64 x] w fun e w'=>e=.returned (.int .u64 (legal 4 x))∧w'=w:=by
 go_enter Tryz.func109,Tryz.ntmps109
 go_wp2_with fail
 go_ret
 exact ⟨rfl,rfl⟩

theorem l4Legal_10 (x:Int) (w:World):Calls Tryz.prog 109 #[.int .i64 10,.int .u64 x] w fun e w'=>e=.returned (.int .u64 (legal 10 x))∧w'=w:=by
 go_enter Tryz.func109,Tryz.ntmps109
 go_wp2_with fail
 go_ret
 exact ⟨rfl,rfl⟩

theorem l4Legal_6 (x:Int) (w:World):Calls Tryz.prog 109 #[.int .i64 6,.int .u64 x] w fun e w'=>e=.returned (.int .u64 (legal 6 x))∧w'=w:=by
 go_enter Tryz.func109,Tryz.ntmps109
 go_wp2_with fail
 go_ret
 exact ⟨rfl,rfl⟩

theorem l4Legal_12 (x:Int) (w:World):Calls Tryz.prog 109 #[.int .i64 12,.int .u64 x] w fun e w'=>e=.returned (.int .u64 (legal 12 x))∧w'=w:=by
 go_enter Tryz.func109,Tryz.ntmps109
 go_wp2_with fail
 go_ret
 exact ⟨rfl,rfl⟩

theorem l4Legal_7 (x:Int) (w:World):Calls Tryz.prog 109 #[.int .i64 7,.int .u64 x] w fun e w'=>e=.returned (.int .u64 (legal 7 x))∧w'=w:=by
 go_enter Tryz.func109,Tryz.ntmps109
 go_wp2_with fail
 go_ret
 exact ⟨rfl,rfl⟩

theorem l4Legal_13 (x:Int) (w:World):Calls Tryz.prog 109 #[.int .i64 13,.int .u64 x] w fun e w'=>e=.returned (.int .u64 (legal 13 x))∧w'=w:=by
 go_enter Tryz.func109,Tryz.ntmps109
 go_wp2_with fail
 go_ret
 exact ⟨rfl,rfl⟩

theorem l4Legal_17 (x:Int) (w:World):Calls Tryz.prog 109 #[.int .i64 17,.int .u64 x] w fun e w'=>e=.returned (.int .u64 (legal 17 x))∧w'=w:=by
 go_enter Tryz.func109,Tryz.ntmps109
 go_wp2_with fail
 go_ret
 exact ⟨rfl,rfl⟩

theorem l4Legal_18 (x:Int) (w:World):Calls Tryz.prog 109 #[.int .i64 18,.int .u64 x] w fun e w'=>e=.returned (.int .u64 (legal 18 x))∧w'=w:=by
 go_enter Tryz.func109,Tryz.ntmps109
 go_wp2_with fail
 go_ret
 exact ⟨rfl,rfl⟩

theorem l4Legal_19 (x:Int) (w:World):Calls Tryz.prog 109 #[.int .i64 19,.int .u64 x] w fun e w'=>e=.returned (.int .u64 (legal 19 x))∧w'=w:=by
 go_enter Tryz.func109,Tryz.ntmps109
 go_wp2_with fail
 go_ret
 exact ⟨rfl,rfl⟩

theorem l4Legal_20 (x:Int) (w:World):Calls Tryz.prog 109 #[.int .i64 20,.int .u64 x] w fun e w'=>e=.returned (.int .u64 (legal 20 x))∧w'=w:=by
 go_enter Tryz.func109,Tryz.ntmps109
 go_wp2_with fail
 go_ret
 exact ⟨rfl,rfl⟩

theorem l4Legal_0 (x:Int) (w:World):Calls Tryz.prog 109 #[.int .i64 0,.int .u64 x] w fun e w'=>e=.returned (.int .u64 (legal 0 x))∧w'=w:=by
 have F0:legal 0 x=mst x:=rfl
 unfold mst at F0
 obtain ⟨y,hy⟩:∃ y,bits .and .u64 x 924074=y:=⟨_,rfl⟩
 rw [hy] at F0
 cases hc:(bits .and .u64 (y / 2048) 3==2) with
 | true =>
  have F:Hid (legal 0 x=bits .andNot .u64 y 6144):=by show _=_;rw [F0,if_pos hc]
  clear F0
  go_enter Tryz.func109,Tryz.ntmps109
  go_wp2_with fail
  go_ret
  exact ⟨by rw [F.out];rfl,rfl⟩
 | false =>
  have F:Hid (legal 0 x=y):=by show _=_;rw [F0,if_neg (by rw [hc];decide)]
  clear F0
  go_enter Tryz.func109,Tryz.ntmps109
  go_wp2_with fail
  go_ret
  exact ⟨by rw [F.out];rfl,rfl⟩

set_option maxHeartbeats 800000 in
theorem l4Legal_16 (x:Int) (w:World):Calls Tryz.prog 109 #[.int .i64 16,.int .u64 x] w fun e w'=>e=.returned (.int .u64 (legal 16 x))∧w'=w:=by
 go_enter Tryz.func109,Tryz.ntmps109
 go_wp2_with fail
 go_loopw [5,6] (fun y i wr=>∃ k:Nat,k≤4∧i=.int .u64 k∧y=.int .u64 (cfgSum x k)∧wr=w)
  (fun _ i _=>4 - (intOf i).toNat)
 case atStart=>exact ⟨0,by omega,rfl,rfl,rfl⟩
 case round =>
  obtain ⟨k,hk,rfl,rfl,rfl⟩:=hrel
  by_cases hlt:k < 4
  ·have F0:cfgSum x (k+1)=bits .or .u64 (cfgSum x k) (IntKind.u64.wrap (cfgByte x k*2 ^ (8*k))):=rfl
   unfold cfgByte at F0
   have hk8:IntKind.u64.wrap (8*(k:Int))=((8*k:Nat):Int):=by rw [IntKind.wrap_u64];omega
   have hlt8:8*k < 64:=by omega
   have d:decide ((k:Int) < 4)=true:=by simp;omega
   obtain ⟨b,hb⟩:∃ b,bits .and .u64 (x / 2 ^ (8*k)) 159=b:=⟨_,rfl⟩
   obtain ⟨y,hy⟩:∃ y,y=cfgSum x k:=⟨_,rfl⟩
   rw [hb,← hy] at F0
   rw [← hy]
   cases hc:(bits .and .u64 b 1==0) with
   | true =>
    rw [if_pos hc] at F0
    have F:Hid (cfgSum x (k+1)=bits .or .u64 y (IntKind.u64.wrap (bits .andNot .u64 b 2*2 ^ (8*k)))):=F0
    clear F0 hy
    go_wp2_with fail
    go_roundw
    case rel=>exact ⟨k+1,by omega,by go_num,by rw [F.out],trivial⟩
    case measure=>simp [intOf];omega
   | false =>
    rw [if_neg (by rw [hc];decide)] at F0
    have F:Hid (cfgSum x (k+1)=bits .or .u64 y (IntKind.u64.wrap (b*2 ^ (8*k)))):=F0
    clear F0 hy
    go_wp2_with fail
    go_roundw
    case rel=>exact ⟨k+1,by omega,by go_num,by rw [F.out],trivial⟩
    case measure=>simp [intOf];omega
  ·have hk4:k=4:=by omega
   subst hk4
   have F:Hid (legal 16 x=cfgSum x 4):=(rfl:legal 16 x=cfgSum x 4)
   generalize cfgSum x 4=y at *
   go_wp2_with fail
   go_ret
   exact ⟨by rw [F.out];rfl,rfl⟩

theorem legal_other {p:Int} (h:¬ (p=0∨p=1∨p=2∨p=3∨p=4∨p=10∨p=6∨p=12∨p=7∨p=13∨p=16∨p=17∨p=18∨p=19∨p=20)) (x:Int):legal p x=x:=by
 unfold legal
 rw [if_neg (by omega),if_neg (by omega),if_neg (by omega),if_neg (by omega),if_neg (by omega),if_neg (by omega),if_neg (by omega),if_neg (by omega),if_neg (by omega)]

set_option maxHeartbeats 800000 in
theorem l4Legal_any (p x:Int) (w:World):Calls Tryz.prog 109 #[.int .i64 p,.int .u64 x] w fun e w'=>e=.returned (.int .u64 (legal p x))∧w'=w:=by
 by_cases h:p=0∨p=1∨p=2∨p=3∨p=4∨p=10∨p=6∨p=12∨p=7∨p=13∨p=16∨p=17∨p=18∨p=19∨p=20
 ·rcases h with rfl | rfl | rfl | rfl | rfl | rfl | rfl | rfl | rfl | rfl | rfl | rfl | rfl | rfl | rfl
  ·exact l4Legal_0 x w
  ·exact l4Legal_1 x w
  ·exact l4Legal_2 x w
  ·exact l4Legal_3 x w
  ·exact l4Legal_4 x w
  ·exact l4Legal_10 x w
  ·exact l4Legal_6 x w
  ·exact l4Legal_12 x w
  ·exact l4Legal_7 x w
  ·exact l4Legal_13 x w
  ·exact l4Legal_16 x w
  ·exact l4Legal_17 x w
  ·exact l4Legal_18 x w
  ·exact l4Legal_19 x w
  ·exact l4Legal_20 x w
 ·have F:Hid (legal p x=x):=legal_other h x
  have d0:(p==0)=false:=by simp;omega
  have d1:(p==1)=false:=by simp;omega
  have d2:(p==2)=false:=by simp;omega
  have d3:(p==3)=false:=by simp;omega
  have d4:(p==4)=false:=by simp;omega
  have d10:(p==10)=false:=by simp;omega
  have d6:(p==6)=false:=by simp;omega
  have d12:(p==12)=false:=by simp;omega
  have d7:(p==7)=false:=by simp;omega
  have d13:(p==13)=false:=by simp;omega
  have d16:(p==16)=false:=by simp;omega
  have d17:(p==17)=false:=by simp;omega
  have d18:(p==18)=false:=by simp;omega
  have d19:(p==19)=false:=by simp;omega
  have d20:(p==20)=false:=by simp;omega
  clear h
  go_enter Tryz.func109,Tryz.ntmps109
  go_wp2_with fail
  go_ret
  exact ⟨by rw [F.out];rfl,rfl⟩

set_option maxHeartbeats 800000 in
theorem specCsrsOk_any (a:Option Addr) (n cap:Nat) (l:List Int) (w:World) (hz:l.length=n) (hs:Sl .u64 w a l) :
 Calls Tryz.prog 93 #[.slice a n cap] w fun e w'=>e=.returned (.bool (csrsOk n l))∧w'=w:=by
 by_cases hn:n=22
 ·have hok:csrsOk n l=okRest l 22 0:=by simp [csrsOk,hn]
  rw [hok]
  have HZ:Hid (l.length=n):=hz
  subst hn
  clear hz hok
  go_enter Tryz.func93,Tryz.ntmps93
  go_wp2_with fail
  go_loopw [3] (fun i wr=>∃ k:Nat,k≤22∧i=.int .i64 k∧Hid (okRest l (22 - k) k=okRest l 22 0)∧wr=w)
   (fun i _=>22 - (intOf i).toNat)
  case atStart=>exact ⟨0,by omega,rfl,(rfl:okRest l (22 - 0) 0=okRest l 22 0),rfl⟩
  case round =>
   obtain ⟨k,hk,rfl,hf,rfl⟩:=hrel
   by_cases hlt:k < 22
   ·obtain ⟨b,off,rfl,hb,hc⟩:=hs k (by rw [HZ.out];exact hlt)
    have Yes:okAt k (l.getD k 0)=true→Hid (okRest l (22 - (k+1)) (k+1)=okRest l 22 0):=fun h=>(okRest_yes l k hlt h).symm.trans hf.out
    have No:okAt k (l.getD k 0)=false→Hid (okRest l 22 0=false):=fun h=>hf.out.symm.trans (okRest_no l k hlt h)
    generalize l.getD k 0=x at *
    have dk:decide ((k:Int) < 22)=true:=by simp;omega
    by_cases h9:k=9
    ·subst h9
     cases ho:(bits .and .u64 x 2730==x) with
     | true =>
      have F:=Yes (by simpa [okAt] using ho)
      have d:(bits .and .u64 x 2730 != x)=false:=by simp [bne,ho]
      clear Yes No
      go_wp2_with fail
      go_roundw
      case rel=>exact ⟨9+1,by omega,by go_num,F,trivial⟩
      case measure=>simp [intOf]
     | false =>
      have F:=No (by simpa [okAt] using ho)
      have d:(bits .and .u64 x 2730 != x)=true:=by simp [bne,ho]
      clear Yes No
      go_wp2_with fail
      go_ret
      exact ⟨by rw [F.out];rfl,rfl⟩
    ·have d9:((k:Int)==9)=false:=by simp;omega
     by_cases h15:k=15
     ·subst h15
      have eo:okAt 15 x=((x / 1152921504606846976==0)||(x / 1152921504606846976==8)):=by simp [okAt]
      obtain ⟨y,hy⟩:∃ y,x / 1152921504606846976=y:=⟨_,rfl⟩
      rw [hy] at eo
      cases h0:(y==0) with
      | true =>
       have F:=Yes (by rw [eo,h0];rfl)
       have d:(y != 0)=false:=by simp [bne,h0]
       clear Yes No eo
       go_wp2_with fail
       go_roundw
       case rel=>exact ⟨15+1,by omega,by go_num,F,trivial⟩
       case measure=>simp [intOf]
      | false =>
       have d:(y != 0)=true:=by simp [bne,h0]
       cases h8:(y==8) with
       | true =>
        have F:=Yes (by rw [eo,h0,h8];rfl)
        have d2:(y != 8)=false:=by simp [bne,h8]
        clear Yes No eo
        go_wp2_with fail
        go_roundw
        case rel=>exact ⟨15+1,by omega,by go_num,F,trivial⟩
        case measure=>simp [intOf]
       | false =>
        have F:=No (by rw [eo,h0,h8];rfl)
        have d2:(y != 8)=true:=by simp [bne,h8]
        clear Yes No eo
        go_wp2_with fail
        go_ret
        exact ⟨by rw [F.out];rfl,rfl⟩
     ·have d15:((k:Int)==15)=false:=by simp;omega
      have ek:okAt k x=(legal k x==x):=by simp [okAt,h9,h15]
      cases ho:(legal k x==x) with
      | true =>
       have F:=Yes (ek.trans ho)
       have d:(legal k x != x)=false:=by simp [bne,ho]
       clear Yes No ek
       go_wp2_with fail
       refine (l4Legal_any _ _ _).mono ?_
       rintro e w1 ⟨rfl,hw1⟩
       subst hw1
       generalize legal k x=y at *
       go_wp2_with fail
       go_roundw
       case rel=>exact ⟨k+1,by omega,by go_num,F,trivial⟩
       case measure=>simp [intOf];omega
      | false =>
       have F:=No (ek.trans ho)
       have d:(legal k x != x)=true:=by simp [bne,ho]
       clear Yes No ek
       go_wp2_with fail
       refine (l4Legal_any _ _ _).mono ?_
       rintro e w1 ⟨rfl,hw1⟩
       subst hw1
       generalize legal k x=y at *
       go_wp2_with fail
       go_ret
       exact ⟨by rw [F.out];rfl,rfl⟩
   ·have hk2:k=22:=by omega
    subst hk2
    have F:Hid (okRest l 22 0=true):=hf.out.symm
    go_wp2_with fail
    go_ret
    exact ⟨by rw [F.out];rfl,rfl⟩
 ·have F:Hid (csrsOk n l=false):=by show _=_;simp [csrsOk,hn]
  have d:((n:Int) != 22)=true:=by simp;omega
  go_enter Tryz.func93,Tryz.ntmps93
  go_wp2_with fail
  go_ret
  exact ⟨by rw [F.out];rfl,rfl⟩

end Go.Proofs.YtkhofppmeoooaaaGreatDoor

namespace Go.Proofs.YtkhofppmeoooaaaGreatDoor
open Go.RowKit
set_option linter.unusedVariables false

theorem l4Priv_any (p:Int) (w:World):Calls Tryz.prog 94 #[.int .i64 p] w fun e w'=>e=.returned (.bool (privB p))∧w'=w:=by
 cases h0:(p==0) with
 | true =>
  have F:Hid (privB p=true):=by show _=_;simp [privB,h0]
  go_enter Tryz.func94,Tryz.ntmps94
  go_wp2_with fail
  go_ret
  exact ⟨by rw [F.out];rfl,rfl⟩
 | false =>
  cases h1:(p==1) with
  | true =>
   have F:Hid (privB p=true):=by show _=_;simp [privB,h1]
   go_enter Tryz.func94,Tryz.ntmps94
   go_wp2_with fail
   go_ret
   exact ⟨by rw [F.out];rfl,rfl⟩
  | false =>
   have F:Hid (privB p=(p==3)):=by show _=_;simp [privB,h0,h1]
   obtain ⟨c,hc⟩:∃ c,(p==3)=c:=⟨_,rfl⟩
   rw [hc] at F
   go_enter Tryz.func94,Tryz.ntmps94
   go_wp2_with fail
   go_ret
   exact ⟨by rw [F.out];rfl,rfl⟩

theorem specLegal_any (a:Option Addr) (n cap:Nat) (l:List Int) (p:Int) (w:World) (hz:l.length=n) (hs:Sl .u64 w a l) :
 Calls Tryz.prog 51 #[.slice a n cap,.int .i64 p] w fun e w'=>e=.returned (.bool (legalB n l p))∧w'=w:=by
 have HO:Hid (Calls Tryz.prog 93 #[.slice a n cap] w fun e w'=>e=.returned (.bool (csrsOk n l))∧w'=w):=specCsrsOk_any a n cap l w hz hs
 have HP:Hid (∀ w,Calls Tryz.prog 94 #[.int .i64 p] w fun e w'=>e=.returned (.bool (privB p))∧w'=w):=l4Priv_any p
 have F:Hid (legalB n l p=(csrsOk n l&&privB p)):=(rfl:legalB n l p=_)
 generalize csrsOk n l=o at *
 generalize privB p=q at *
 clear hz hs
 cases o with
 | false =>
  go_enter Tryz.func51,Tryz.ntmps51
  go_wp2_with fail
  refine HO.out.mono ?_
  rintro e w1 ⟨rfl,hw1⟩
  subst hw1
  go_wp2_with fail
  go_ret
  exact ⟨by rw [F.out];rfl,rfl⟩
 | true =>
  go_enter Tryz.func51,Tryz.ntmps51
  go_wp2_with fail
  refine HO.out.mono ?_
  rintro e w1 ⟨rfl,hw1⟩
  subst hw1
  go_wp2_with fail
  refine (HP.out _).mono ?_
  rintro e w2 ⟨rfl,hw2⟩
  subst hw2
  go_wp2_with fail
  go_ret
  exact ⟨by rw [F.out];rfl,rfl⟩

theorem l4Byte_any (a:Option Addr) (cap:Nat) (l:List Int) (i:Nat) (hi:i < 4) (w:World) (hz:l.length=22) (hs:Sl .u64 w a l) :
 Calls Tryz.prog 100 #[.slice a 22 cap,.int .i64 i] w fun e w'=>e=.returned (.int .u64 (cfgAt l i))∧w'=w:=by
 obtain ⟨b,off,rfl,hb,hc⟩:=hs 16 (by omega)
 have hm:wrap64 (8*(i:Int))=((8*i:Nat):Int):=by unfold wrap64;omega
 have hm2:IntKind.u64.wrap ((8*i:Nat):Int)=((8*i:Nat):Int):=by rw [IntKind.wrap_u64];omega
 have hm3:8*i < 64:=by omega
 have F:Hid (cfgAt l i=bits .and .u64 (l.getD 16 0 / 2 ^ (8*i)) 255):=(rfl:cfgAt l i=_)
 generalize l.getD 16 0=x at *
 go_enter Tryz.func100,Tryz.ntmps100
 go_wp2_with fail
 go_ret
 exact ⟨by rw [F.out];rfl,rfl⟩

def kindOf (l:List Int) (i:Nat):Int:=bits .and .u64 (cfgAt l i / 8) 3

def trailN (a:Int):Nat→Nat→Nat
 | 0,k=>k
 | n+1,k=>if (bits .and .u64 (a / 2 ^ k) 1==1)=true then trailN a n (k+1) else k

theorem trail_go (a:Int) (k:Nat) (hk:k < 53) (h:(bits .and .u64 (a / 2 ^ k) 1==1)=true):trailN a (53 - k) k=trailN a (53 - (k+1)) (k+1):=by
 rw [show 53 - k=(53 - (k+1))+1 from by omega,trailN,if_pos h]

theorem trail_stop (a:Int) (k:Nat) (hk:k < 53) (h:(bits .and .u64 (a / 2 ^ k) 1==1)=false):trailN a (53 - k) k=k:=by
 rw [show 53 - k=(53 - (k+1))+1 from by omega,trailN,if_neg (by rw [h];decide)]

def regLo (a:Int) (k:Nat):Int:=IntKind.u64.wrap (bits .andNot .u64 a (IntKind.u64.wrap (IntKind.u64.wrap (2 ^ (k+1)) - 1))*4)

def regHi (a:Int) (k:Nat):Int:=IntKind.u64.wrap (IntKind.u64.wrap (regLo a k+IntKind.u64.wrap (2 ^ (k+3))) - 1)

def regFrom (l:List Int) (i:Nat):Int:=if 0 < i then IntKind.u64.wrap (l.getD (16+i) 0*4) else 0

def regionV (l:List Int) (i:Nat):Int × Int × Bool :=
 if (kindOf l i==1)=true then (if IntKind.u64.wrap (l.getD (17+i) 0*4)≤regFrom l i then (0,0,false) else (regFrom l i,IntKind.u64.wrap (IntKind.u64.wrap (l.getD (17+i) 0*4) - 1),true))
 else if (kindOf l i==2)=true then (IntKind.u64.wrap (l.getD (17+i) 0*4),IntKind.u64.wrap (IntKind.u64.wrap (l.getD (17+i) 0*4)+3),true)
 else if (kindOf l i==3)=true then (regLo (l.getD (17+i) 0) (trailN (l.getD (17+i) 0) 53 0),regHi (l.getD (17+i) 0) (trailN (l.getD (17+i) 0) 53 0),true)
 else (0,0,false)

end Go.Proofs.YtkhofppmeoooaaaGreatDoor

namespace Go.Proofs.YtkhofppmeoooaaaGreatDoor
open Go.RowKit
set_option linter.unusedVariables false

set_option maxRecDepth 100000 in
set_option maxHeartbeats 1600000 in
theorem l6Region_any (a:Option Addr) (cap:Nat) (l:List Int) (i:Nat) (hi:i < 4) (w:World) (hz:l.length=22) (hs:Sl .u64 w a l) :
 Calls Tryz.prog 99 #[.slice a 22 cap,.int .i64 i] w fun e w'=>e=.returned (.tuple #[.int .u64 (regionV l i).1,.int .u64 (regionV l i).2.1,.bool (regionV l i).2.2])∧w'=w:=by
 obtain ⟨b,off,rfl,hb,hc17⟩:=hs (17+i) (by omega)
 obtain ⟨b',off',eb,_,hc16⟩:=hs (16+i) (by omega)
 simp only [Option.some.injEq,Addr.mk.injEq,and_true] at eb
 obtain ⟨rfl,rfl⟩:=eb
 have HB:Hid (Calls Tryz.prog 100 #[.slice (some ⟨b,off,none⟩) 22 cap,.int .i64 i] w fun e w'=>e=.returned (.int .u64 (cfgAt l i))∧w'=w):=l4Byte_any _ cap l i hi w hz hs
 have hk0:bits .and .u64 (cfgAt l i / 8) 3=kindOf l i:=rfl
 have F0:regionV l i=if (kindOf l i==1)=true then (if IntKind.u64.wrap (l.getD (17+i) 0*4)≤regFrom l i then (0,0,false) else (regFrom l i,IntKind.u64.wrap (IntKind.u64.wrap (l.getD (17+i) 0*4) - 1),true))
  else if (kindOf l i==2)=true then (IntKind.u64.wrap (l.getD (17+i) 0*4),IntKind.u64.wrap (IntKind.u64.wrap (l.getD (17+i) 0*4)+3),true)
  else if (kindOf l i==3)=true then (regLo (l.getD (17+i) 0) (trailN (l.getD (17+i) 0) 53 0),regHi (l.getD (17+i) 0) (trailN (l.getD (17+i) 0) 53 0),true)
  else (0,0,false):=rfl
 have hf0:regFrom l i=if 0 < i then IntKind.u64.wrap (l.getD (16+i) 0*4) else 0:=rfl
 have e17:wrap64 (17+(i:Int))=((17+i:Nat):Int):=by unfold wrap64;omega
 have e16:wrap64 (16+(i:Int))=((16+i:Nat):Int):=by unfold wrap64;omega
 have b17:0≤((17+i:Nat):Int)∧((17+i:Nat):Int) < ((22:Nat):Int):=by omega
 have b16:0≤((16+i:Nat):Int)∧((16+i:Nat):Int) < ((22:Nat):Int):=by omega
 generalize regionV l i=r at *
 generalize kindOf l i=kd at *
 generalize cfgAt l i=cf at *
 generalize regFrom l i=fr at *
 generalize l.getD (17+i) 0=x at *
 generalize l.getD (16+i) 0=y at *
 clear hs
 cases h1:(kd==1) with
 | true =>
  rw [if_pos h1] at F0
  have di:(decide (0 < i)=true∧fr=IntKind.u64.wrap (y*4))∨(decide (0 < i)=false∧fr=0):=by
   by_cases hi0:0 < i
   ·rw [if_pos hi0] at hf0
    exact Or.inl ⟨by simpa using hi0,hf0⟩
   ·rw [if_neg hi0] at hf0
    exact Or.inr ⟨by simpa using hi0,hf0⟩
  obtain ⟨t,ht⟩:∃ t,IntKind.u64.wrap (x*4)=t:=⟨_,rfl⟩
  rw [ht] at F0
  clear hf0
  rcases di with ⟨di,hfr⟩ | ⟨di,hfr⟩
  ·rw [hfr] at F0
   obtain ⟨f4,hf4⟩:∃ t,IntKind.u64.wrap (y*4)=t:=⟨_,rfl⟩
   rw [hf4] at F0
   clear hfr
   by_cases hle:t≤f4
   ·have d:decide (t≤f4)=true:=by simpa using hle
    rw [if_pos hle] at F0
    have F:Hid (r=(0,0,false)):=F0
    clear F0 hle
    go_enter Tryz.func99,Tryz.ntmps99
    go_wp2_with fail
    refine HB.out.mono ?_
    rintro e w1 ⟨rfl,hw1⟩
    have hw2:=hw1.symm
    subst hw2
    go_wp2_with fail
    go_ret3
    exact ⟨by rw [F.out];rfl,rfl⟩
   ·have d:decide (t≤f4)=false:=by simpa using hle
    rw [if_neg hle] at F0
    have F:Hid (r=(f4,IntKind.u64.wrap (t - 1),true)):=F0
    clear F0 hle
    go_enter Tryz.func99,Tryz.ntmps99
    go_wp2_with fail
    refine HB.out.mono ?_
    rintro e w1 ⟨rfl,hw1⟩
    have hw2:=hw1.symm
    subst hw2
    go_wp2_with fail
    go_ret3
    exact ⟨by rw [F.out];rfl,rfl⟩
  ·subst hfr
   by_cases hle:t≤0
   ·have d:decide (t≤0)=true:=by simpa using hle
    rw [if_pos hle] at F0
    have F:Hid (r=(0,0,false)):=F0
    clear F0 hle
    go_enter Tryz.func99,Tryz.ntmps99
    go_wp2_with fail
    refine HB.out.mono ?_
    rintro e w1 ⟨rfl,hw1⟩
    have hw2:=hw1.symm
    subst hw2
    go_wp2_with fail
    go_ret3
    exact ⟨by rw [F.out];rfl,rfl⟩
   ·have d:decide (t≤0)=false:=by simpa using hle
    rw [if_neg hle] at F0
    have F:Hid (r=(0,IntKind.u64.wrap (t - 1),true)):=F0
    clear F0 hle
    go_enter Tryz.func99,Tryz.ntmps99
    go_wp2_with fail
    refine HB.out.mono ?_
    rintro e w1 ⟨rfl,hw1⟩
    have hw2:=hw1.symm
    subst hw2
    go_wp2_with fail
    go_ret3
    exact ⟨by rw [F.out];rfl,rfl⟩
 | false =>
  rw [if_neg (by rw [h1];decide)] at F0
  cases h2:(kd==2) with
  | true =>
   rw [if_pos h2] at F0
   have F:Hid (r=(IntKind.u64.wrap (x*4),IntKind.u64.wrap (IntKind.u64.wrap (x*4)+3),true)):=F0
   clear F0 hf0
   go_enter Tryz.func99,Tryz.ntmps99
   go_wp2_with fail
   refine HB.out.mono ?_
   rintro e w1 ⟨rfl,hw1⟩
   have hw2:=hw1.symm
   subst hw2
   go_wp2_with fail
   go_ret3
   exact ⟨by rw [F.out];rfl,rfl⟩
  | false =>
   rw [if_neg (by rw [h2];decide)] at F0
   cases h3:(kd==3) with
   | true =>
    rw [if_pos h3] at F0
    have F:Hid (r=(regLo x (trailN x 53 0),regHi x (trailN x 53 0),true)):=F0
    clear F0 hf0
    go_enter Tryz.func99,Tryz.ntmps99
    go_wp2_with fail
    refine HB.out.mono ?_
    rintro e w1 ⟨rfl,hw1⟩
    have hw2:=hw1.symm
    subst hw2
    go_wp2_with fail
    go_loopw [9] (fun v wr=>∃ k:Nat,k≤53∧v=.int .u64 k∧Hid (trailN x (53 - k) k=trailN x 53 0)∧wr=w)
     (fun v _=>53 - (intOf v).toNat)
    case atStart=>exact ⟨0,by omega,rfl,(rfl:trailN x (53 - 0) 0=trailN x 53 0),rfl⟩
    case round =>
     obtain ⟨k,hk,rfl,hf,rfl⟩:=hrel
     have fin:Hid (trailN x 53 0=k)→Hid (r=(regLo x k,regHi x k,true)):=fun h=>by
      show r=_
      rw [F.out,h.out]
     have d3:((k:Int)+1)=((k+1:Nat):Int):=by omega
     have u1:IntKind.u64.wrap ((k:Int)+1)=((k+1:Nat):Int):=by rw [IntKind.wrap_u64];omega
     have u3:IntKind.u64.wrap ((k:Int)+3)=((k+3:Nat):Int):=by rw [IntKind.wrap_u64];omega
     clear d3
     by_cases hlt:k < 53
     ·have dk:decide ((k:Int) < 53)=true:=by simp;omega
      cases hbit:(bits .and .u64 (x / 2 ^ k) 1==1) with
      | true =>
       have F1:Hid (trailN x (53 - (k+1)) (k+1)=trailN x 53 0):=(trail_go x k hlt hbit).symm.trans hf.out
       clear fin u1 u3
       go_wp2_with fail
       go_roundw
       case rel=>exact ⟨k+1,by omega,by go_num,F1,trivial⟩
       case measure=>simp [intOf];omega
      | false =>
       have F1:=fin (hf.out.symm.trans (trail_stop x k hlt hbit))
       clear fin
       go_wp2_with fail
       go_ret3
       exact ⟨by rw [F1.out];rfl,rfl⟩
     ·have hk53:k=53:=by omega
      have F1:=fin (hf.out.symm.trans (by rw [hk53];rfl))
      have dk:decide ((k:Int) < 53)=false:=by simp;omega
      clear fin hk53
      go_wp2_with fail
      go_ret3
      exact ⟨by rw [F1.out];rfl,rfl⟩
   | false =>
    rw [if_neg (by rw [h3];decide)] at F0
    have F:Hid (r=(0,0,false)):=F0
    clear F0 hf0
    go_enter Tryz.func99,Tryz.ntmps99
    go_wp2_with fail
    refine HB.out.mono ?_
    rintro e w1 ⟨rfl,hw1⟩
    have hw2:=hw1.symm
    subst hw2
    go_wp2_with fail
    go_ret3
    exact ⟨by rw [F.out];rfl,rfl⟩

end Go.Proofs.YtkhofppmeoooaaaGreatDoor

namespace Go.Proofs.YtkhofppmeoooaaaGreatDoor
open Go.RowKit
set_option linter.unusedVariables false

theorem l1In_d (x a b:Int) (w:World):Calls Tryz.prog 55 #[.int .i64 x,.int .i64 a,.int .i64 b] w fun e w'=>e=.returned (.bool (decide (a≤x∧x≤b)))∧w'=w:=by
 by_cases h1:a≤x
 ·by_cases h2:x≤b
  ·have F:Hid (decide (a≤x∧x≤b)=true):=by show decide (a≤x∧x≤b)=true;simp [h1,h2]
   have d1:decide (a≤x)=true:=by simpa using h1
   have d2:decide (x≤b)=true:=by simpa using h2
   clear h1 h2
   go_enter Tryz.func55,Tryz.ntmps55
   go_wp2
   go_ret
   exact ⟨by rw [F.out];rfl,rfl⟩
  ·have F:Hid (decide (a≤x∧x≤b)=false):=by show decide (a≤x∧x≤b)=false;simp [h2]
   have d1:decide (a≤x)=true:=by simpa using h1
   have d2:decide (x≤b)=false:=by simpa using h2
   clear h1 h2
   go_enter Tryz.func55,Tryz.ntmps55
   go_wp2
   go_ret
   exact ⟨by rw [F.out];rfl,rfl⟩
 ·have F:Hid (decide (a≤x∧x≤b)=false):=by show decide (a≤x∧x≤b)=false;simp [h1]
  have d1:decide (a≤x)=false:=by simpa using h1
  clear h1
  go_enter Tryz.func55,Tryz.ntmps55
  go_wp2
  go_ret
  exact ⟨by rw [F.out];rfl,rfl⟩

def hitB (r:Int × Int × Bool) (x:Int):Bool:=r.2.2&&decide (r.1≤x)&&decide (x≤r.2.1)

def lockRest (l:List Int) (x:Int):Nat→Nat→Bool
 | 0,_=>false
 | n+1,k=>if hitB (regionV l k) x=true then ((cfgAt l k / 128==1)&&(bits .and .u64 (cfgAt l k / 2) 1==0)) else lockRest l x n (k+1)

theorem lockRest_hit (l:List Int) (x:Int) (k:Nat) (hk:k < 4) (h:hitB (regionV l k) x=true):lockRest l x (4 - k) k=((cfgAt l k / 128==1)&&(bits .and .u64 (cfgAt l k / 2) 1==0)):=by
 rw [show 4 - k=(4 - (k+1))+1 from by omega,lockRest,if_pos h]

end Go.Proofs.YtkhofppmeoooaaaGreatDoor

namespace Go.Proofs.YtkhofppmeoooaaaGreatDoor
open Go.RowKit
set_option linter.unusedVariables false

def lastOf (x s:Int):Int:=IntKind.u64.wrap (IntKind.u64.wrap (x+IntKind.u64.wrap s) - 1)

def skipB (r:Int × Int × Bool) (x y:Int):Bool:=!r.2.2||decide (y < r.1)||decide (r.2.1 < x)

def outB (r:Int × Int × Bool) (x y:Int):Bool:=decide (x < r.1)||decide (r.2.1 < y)

def letB (b p kind:Int):Bool :=
 if ((p==3)&&(b / 128==0))=true then true else if (kind==1)=true then (bits .and .u64 (b / 4) 1==1) else if (kind==2)=true then (bits .and .u64 b 1==1) else (bits .and .u64 (b / 2) 1==1)

def permRest (l:List Int) (p x y kind:Int):Nat→Nat→Bool
 | 0,_=>(p==3)
 | n+1,k=>if skipB (regionV l k) x y=true then permRest l p x y kind n (k+1) else !outB (regionV l k) x y&&letB (cfgAt l k) p kind

theorem perm_skip (l:List Int) (p x y kind:Int) (k:Nat) (hk:k < 4) (h:skipB (regionV l k) x y=true):permRest l p x y kind (4 - k) k=permRest l p x y kind (4 - (k+1)) (k+1):=by
 rw [show 4 - k=(4 - (k+1))+1 from by omega,permRest,if_pos h]

theorem perm_hit (l:List Int) (p x y kind:Int) (k:Nat) (hk:k < 4) (h:skipB (regionV l k) x y=false):permRest l p x y kind (4 - k) k=(!outB (regionV l k) x y&&letB (cfgAt l k) p kind):=by
 rw [show 4 - k=(4 - (k+1))+1 from by omega,permRest,if_neg (by rw [h];decide)]

set_option maxRecDepth 100000 in
set_option maxHeartbeats 3200000 in
theorem l6Permits_any (a:Option Addr) (cap:Nat) (l:List Int) (p x s kind:Int) (w:World) (hz:l.length=22) (hs:Sl .u64 w a l) :
 Calls Tryz.prog 58 #[.slice a 22 cap,.int .i64 p,.int .u64 x,.int .i64 s,.int .i64 kind] w fun e w'=>e=.returned (.bool (permRest l p x (lastOf x s) kind 4 0))∧w'=w:=by
 have hy0:IntKind.u64.wrap (IntKind.u64.wrap (x+IntKind.u64.wrap s) - 1)=lastOf x s:=rfl
 generalize lastOf x s=y at *
 have HS:Hid (Sl .u64 w a l):=hs
 have HZ:Hid (l.length=22):=hz
 have F0:Hid (True∧permRest l p x y kind 4 0=permRest l p x y kind 4 0):=⟨trivial,rfl⟩
 clear hs hz F0
 go_enter Tryz.func58,Tryz.ntmps58
 go_wp2_with fail
 go_loopw [12] (fun v wr=>∃ k:Nat,k≤4∧v=.int .i64 k∧Hid (permRest l p x y kind (4 - k) k=permRest l p x y kind 4 0)∧wr=w)
  (fun v _=>4 - (intOf v).toNat)
 case atStart=>exact ⟨0,by omega,rfl,(rfl:permRest l p x y kind (4 - 0) 0=permRest l p x y kind 4 0),rfl⟩
 case round =>
  obtain ⟨k,hk,rfl,hf,rfl⟩:=hrel
  clear hy0
  by_cases hlt:k < 4
  ·have dk:decide ((k:Int) < 4)=true:=by simp;omega
   have HR:Hid (Calls Tryz.prog 99 #[.slice a 22 cap,.int .i64 k] wr fun e w'=>e=.returned (.tuple #[.int .u64 (regionV l k).1,.int .u64 (regionV l k).2.1,.bool (regionV l k).2.2])∧w'=wr):=l6Region_any a cap l k hlt wr HZ.out HS.out
   have HB:Hid (Calls Tryz.prog 100 #[.slice a 22 cap,.int .i64 k] wr fun e w'=>e=.returned (.int .u64 (cfgAt l k))∧w'=wr):=l4Byte_any a cap l k hlt wr HZ.out HS.out
   have Hit:skipB (regionV l k) x y=false→Hid (permRest l p x y kind 4 0=(!outB (regionV l k) x y&&letB (cfgAt l k) p kind)):=fun h=>hf.out.symm.trans (perm_hit l p x y kind k hlt h)
   have Miss:skipB (regionV l k) x y=true→Hid (permRest l p x y kind (4 - (k+1)) (k+1)=permRest l p x y kind 4 0):=fun h=>(perm_skip l p x y kind k hlt h).symm.trans hf.out
   generalize regionV l k=r at *
   generalize cfgAt l k=cf at *
   obtain ⟨r1,r2,r3⟩:=r
   simp only at HR
   have hh:skipB (r1,r2,r3) x y=(!r3||decide (y < r1)||decide (r2 < x)):=rfl
   have ho:outB (r1,r2,r3) x y=(decide (x < r1)||decide (r2 < y)):=rfl
   rw [hh] at Hit Miss
   rw [ho] at Hit
   clear hh ho
   go_wp2_with fail
   refine HR.out.mono ?_
   rintro e w1 ⟨rfl,hw1⟩
   have hw2:=hw1.symm
   subst hw2
   cases r3 with
   | false =>
    have F1:=Miss (rfl)
    clear Hit Miss
    go_wp2_with fail
    go_roundw
    case rel=>exact ⟨k+1,by omega,by go_num,F1,trivial⟩
    case measure=>simp [intOf];omega
   | true =>
    cases h1:decide (y < r1) with
    | true =>
     have F1:=Miss (by rw [h1];rfl)
     clear Hit Miss
     go_wp2_with fail
     go_roundw
     case rel=>exact ⟨k+1,by omega,by go_num,F1,trivial⟩
     case measure=>simp [intOf];omega
    | false =>
     cases h2:decide (r2 < x) with
     | true =>
      have F1:=Miss (by rw [h1,h2];rfl)
      clear Hit Miss
      go_wp2_with fail
      go_roundw
      case rel=>exact ⟨k+1,by omega,by go_num,F1,trivial⟩
      case measure=>simp [intOf];omega
     | false =>
      have F1:=Hit (by rw [h1,h2];rfl)
      clear Hit Miss
      cases h3:decide (x < r1) with
      | true =>
       go_wp2_with fail
       go_ret
       exact ⟨by rw [F1.out,h3];rfl,rfl⟩
      | false =>
       cases h4:decide (r2 < y) with
       | true =>
        go_wp2_with fail
        go_ret
        exact ⟨by rw [F1.out,h3,h4];rfl,rfl⟩
       | false =>
        have F2:Hid (permRest l p x y kind 4 0=letB cf p kind):=by show _=_;rw [F1.out,h3,h4];rfl
        clear F1
        have L0:letB cf p kind=if ((p==3)&&(cf / 128==0))=true then true else if (kind==1)=true then (bits .and .u64 (cf / 4) 1==1) else if (kind==2)=true then (bits .and .u64 cf 1==1) else (bits .and .u64 (cf / 2) 1==1):=rfl
        go_wp2_with fail
        refine HB.out.mono ?_
        rintro e w1 ⟨rfl,hw1⟩
        have hw2:=hw1.symm
        subst hw2
        have by3:((p==3)=true∧(cf / 128==0)=true)∨((p==3)=true∧(cf / 128==0)=false)∨(p==3)=false:=by
         cases (p==3)<;>cases (cf / 128==0)<;>simp
        generalize letB cf p kind=lt at *
        rcases by3 with ⟨q1,q2⟩ | by3
        ·have F3:Hid (lt=true):=by show _=_;rw [L0,q1,q2];rfl
         clear L0
         go_wp2_with fail
         go_ret
         exact ⟨by rw [F2.out,F3.out];rfl,rfl⟩
        ·have L1:lt=if (kind==1)=true then (bits .and .u64 (cf / 4) 1==1) else if (kind==2)=true then (bits .and .u64 cf 1==1) else (bits .and .u64 (cf / 2) 1==1):=by
          rcases by3 with ⟨q1,q2⟩ | q1
          ·rw [L0,q1,q2];rfl
          ·rw [L0,q1];rfl
         clear L0
         obtain ⟨b1,e1⟩:∃ q,(bits .and .u64 (cf / 4) 1==1)=q:=⟨_,rfl⟩
         obtain ⟨b2,e2⟩:∃ q,(bits .and .u64 cf 1==1)=q:=⟨_,rfl⟩
         obtain ⟨b3,e3⟩:∃ q,(bits .and .u64 (cf / 2) 1==1)=q:=⟨_,rfl⟩
         rw [e1,e2,e3] at L1
         cases k1:(kind==1) with
         | true =>
          have F3:Hid (lt=b1):=by show _=_;rw [L1,k1];rfl
          clear L1
          rcases by3 with ⟨q1,q2⟩ | q1
          all_goals
           go_wp2_with fail
           go_ret
           exact ⟨by rw [F2.out,F3.out];rfl,rfl⟩
         | false =>
          cases k2:(kind==2) with
          | true =>
           have F3:Hid (lt=b2):=by show _=_;rw [L1,k1,k2];rfl
           clear L1
           rcases by3 with ⟨q1,q2⟩ | q1
           all_goals
            go_wp2_with fail
            go_ret
            exact ⟨by rw [F2.out,F3.out];rfl,rfl⟩
          | false =>
           have F3:Hid (lt=b3):=by show _=_;rw [L1,k1,k2];rfl
           clear L1
           rcases by3 with ⟨q1,q2⟩ | q1
           all_goals
            go_wp2_with fail
            go_ret
            exact ⟨by rw [F2.out,F3.out];rfl,rfl⟩
  ·have hk4:k=4:=by omega
   subst hk4
   obtain ⟨q,hq⟩:∃ q,(p==3)=q:=⟨_,rfl⟩
   have F1:Hid (permRest l p x y kind 4 0=q):=hf.out.symm.trans hq
   go_wp2_with fail
   go_ret
   exact ⟨by rw [F1.out];rfl,rfl⟩

def permV (n:Nat) (l:List Int) (p x s kind:Int):Bool:=legalB n l p&&sizeB s&&decide (1≤kind∧kind≤3)&&!decide (lastOf x s < x)&&permRest l p x (lastOf x s) kind 4 0

theorem l6Kind_any (k:Int) (w:World):Calls Tryz.prog 24 #[.int .i64 k] w fun e w'=>e=.returned (.bool (decide (1≤k∧k≤3)))∧w'=w:=by
 have HI:Hid (∀ w,Calls Tryz.prog 55 #[.int .i64 k,.int .i64 1,.int .i64 3] w fun e w'=>e=.returned (.bool (decide (1≤k∧k≤3)))∧w'=w):=l1In_d k 1 3
 generalize decide (1≤k∧k≤3)=c at *
 go_enter Tryz.func24,Tryz.ntmps24
 go_wp2_with fail
 refine (HI.out _).mono ?_
 rintro e w1 ⟨rfl,hw1⟩
 have hw2:=hw1.symm
 subst hw2
 go_wp2_with fail
 go_ret
 exact ⟨rfl,rfl⟩

end Go.Proofs.YtkhofppmeoooaaaGreatDoor

namespace Go.Proofs.YtkhofppmeoooaaaGreatDoor
set_option linter.unusedVariables false

inductive Fm where | r | i | h | w | s | b | u | j | a | c | x
deriving DecidableEq

def Fm.str:Fm→ByteArray
 | .r=>⟨#[82]⟩ | .i=>⟨#[73]⟩ | .h=>⟨#[72]⟩ | .w=>⟨#[87]⟩ | .s=>⟨#[83]⟩ | .b=>⟨#[66]⟩ | .u=>⟨#[85]⟩ | .j=>⟨#[74]⟩ | .a=>⟨#[65]⟩ | .c=>⟨#[67]⟩ | .x=>⟨#[88]⟩

structure Row where
 name:ByteArray
 fm:Fm
 op:Int
 f3:Int
 more:Int

def rows:List Row:=[
 ⟨⟨#[108,117,105]⟩,.u,55,(-1),0⟩,
 ⟨⟨#[97,117,105,112,99]⟩,.u,23,(-1),0⟩,
 ⟨⟨#[106,97,108]⟩,.j,111,(-1),0⟩,
 ⟨⟨#[106,97,108,114]⟩,.i,103,0,0⟩,
 ⟨⟨#[98,101,113]⟩,.b,99,0,0⟩,
 ⟨⟨#[98,110,101]⟩,.b,99,1,0⟩,
 ⟨⟨#[98,108,116]⟩,.b,99,4,0⟩,
 ⟨⟨#[98,103,101]⟩,.b,99,5,0⟩,
 ⟨⟨#[98,108,116,117]⟩,.b,99,6,0⟩,
 ⟨⟨#[98,103,101,117]⟩,.b,99,7,0⟩,
 ⟨⟨#[108,98]⟩,.i,3,0,0⟩,
 ⟨⟨#[108,104]⟩,.i,3,1,0⟩,
 ⟨⟨#[108,119]⟩,.i,3,2,0⟩,
 ⟨⟨#[108,100]⟩,.i,3,3,0⟩,
 ⟨⟨#[108,98,117]⟩,.i,3,4,0⟩,
 ⟨⟨#[108,104,117]⟩,.i,3,5,0⟩,
 ⟨⟨#[108,119,117]⟩,.i,3,6,0⟩,
 ⟨⟨#[115,98]⟩,.s,35,0,0⟩,
 ⟨⟨#[115,104]⟩,.s,35,1,0⟩,
 ⟨⟨#[115,119]⟩,.s,35,2,0⟩,
 ⟨⟨#[115,100]⟩,.s,35,3,0⟩,
 ⟨⟨#[97,100,100,105]⟩,.i,19,0,0⟩,
 ⟨⟨#[115,108,116,105]⟩,.i,19,2,0⟩,
 ⟨⟨#[115,108,116,105,117]⟩,.i,19,3,0⟩,
 ⟨⟨#[120,111,114,105]⟩,.i,19,4,0⟩,
 ⟨⟨#[111,114,105]⟩,.i,19,6,0⟩,
 ⟨⟨#[97,110,100,105]⟩,.i,19,7,0⟩,
 ⟨⟨#[115,108,108,105]⟩,.h,19,1,0⟩,
 ⟨⟨#[115,114,108,105]⟩,.h,19,5,0⟩,
 ⟨⟨#[115,114,97,105]⟩,.h,19,5,16⟩,
 ⟨⟨#[97,100,100,105,119]⟩,.i,27,0,0⟩,
 ⟨⟨#[115,108,108,105,119]⟩,.w,27,1,0⟩,
 ⟨⟨#[115,114,108,105,119]⟩,.w,27,5,0⟩,
 ⟨⟨#[115,114,97,105,119]⟩,.w,27,5,32⟩,
 ⟨⟨#[97,100,100]⟩,.r,51,0,0⟩,
 ⟨⟨#[115,117,98]⟩,.r,51,0,32⟩,
 ⟨⟨#[115,108,108]⟩,.r,51,1,0⟩,
 ⟨⟨#[115,108,116]⟩,.r,51,2,0⟩,
 ⟨⟨#[115,108,116,117]⟩,.r,51,3,0⟩,
 ⟨⟨#[120,111,114]⟩,.r,51,4,0⟩,
 ⟨⟨#[115,114,108]⟩,.r,51,5,0⟩,
 ⟨⟨#[115,114,97]⟩,.r,51,5,32⟩,
 ⟨⟨#[111,114]⟩,.r,51,6,0⟩,
 ⟨⟨#[97,110,100]⟩,.r,51,7,0⟩,
 ⟨⟨#[97,100,100,119]⟩,.r,59,0,0⟩,
 ⟨⟨#[115,117,98,119]⟩,.r,59,0,32⟩,
 ⟨⟨#[115,108,108,119]⟩,.r,59,1,0⟩,
 ⟨⟨#[115,114,108,119]⟩,.r,59,5,0⟩,
 ⟨⟨#[115,114,97,119]⟩,.r,59,5,32⟩,
 ⟨⟨#[109,117,108]⟩,.r,51,0,1⟩,
 ⟨⟨#[109,117,108,104]⟩,.r,51,1,1⟩,
 ⟨⟨#[109,117,108,104,115,117]⟩,.r,51,2,1⟩,
 ⟨⟨#[109,117,108,104,117]⟩,.r,51,3,1⟩,
 ⟨⟨#[100,105,118]⟩,.r,51,4,1⟩,
 ⟨⟨#[100,105,118,117]⟩,.r,51,5,1⟩,
 ⟨⟨#[114,101,109]⟩,.r,51,6,1⟩,
 ⟨⟨#[114,101,109,117]⟩,.r,51,7,1⟩,
 ⟨⟨#[109,117,108,119]⟩,.r,59,0,1⟩,
 ⟨⟨#[100,105,118,119]⟩,.r,59,4,1⟩,
 ⟨⟨#[100,105,118,117,119]⟩,.r,59,5,1⟩,
 ⟨⟨#[114,101,109,119]⟩,.r,59,6,1⟩,
 ⟨⟨#[114,101,109,117,119]⟩,.r,59,7,1⟩,
 ⟨⟨#[108,114,46,119]⟩,.a,47,2,2⟩,
 ⟨⟨#[115,99,46,119]⟩,.a,47,2,3⟩,
 ⟨⟨#[97,109,111,115,119,97,112,46,119]⟩,.a,47,2,1⟩,
 ⟨⟨#[97,109,111,97,100,100,46,119]⟩,.a,47,2,0⟩,
 ⟨⟨#[97,109,111,120,111,114,46,119]⟩,.a,47,2,4⟩,
 ⟨⟨#[97,109,111,97,110,100,46,119]⟩,.a,47,2,12⟩,
 ⟨⟨#[97,109,111,111,114,46,119]⟩,.a,47,2,8⟩,
 ⟨⟨#[97,109,111,109,105,110,46,119]⟩,.a,47,2,16⟩,
 ⟨⟨#[97,109,111,109,97,120,46,119]⟩,.a,47,2,20⟩,
 ⟨⟨#[97,109,111,109,105,110,117,46,119]⟩,.a,47,2,24⟩,
 ⟨⟨#[97,109,111,109,97,120,117,46,119]⟩,.a,47,2,28⟩,
 ⟨⟨#[108,114,46,100]⟩,.a,47,3,2⟩,
 ⟨⟨#[115,99,46,100]⟩,.a,47,3,3⟩,
 ⟨⟨#[97,109,111,115,119,97,112,46,100]⟩,.a,47,3,1⟩,
 ⟨⟨#[97,109,111,97,100,100,46,100]⟩,.a,47,3,0⟩,
 ⟨⟨#[97,109,111,120,111,114,46,100]⟩,.a,47,3,4⟩,
 ⟨⟨#[97,109,111,97,110,100,46,100]⟩,.a,47,3,12⟩,
 ⟨⟨#[97,109,111,111,114,46,100]⟩,.a,47,3,8⟩,
 ⟨⟨#[97,109,111,109,105,110,46,100]⟩,.a,47,3,16⟩,
 ⟨⟨#[97,109,111,109,97,120,46,100]⟩,.a,47,3,20⟩,
 ⟨⟨#[97,109,111,109,105,110,117,46,100]⟩,.a,47,3,24⟩,
 ⟨⟨#[97,109,111,109,97,120,117,46,100]⟩,.a,47,3,28⟩,
 ⟨⟨#[102,101,110,99,101]⟩,.i,15,0,0⟩,
 ⟨⟨#[102,101,110,99,101,46,105]⟩,.i,15,1,0⟩,
 ⟨⟨#[99,115,114,114,119]⟩,.c,115,1,0⟩,
 ⟨⟨#[99,115,114,114,115]⟩,.c,115,2,0⟩,
 ⟨⟨#[99,115,114,114,99]⟩,.c,115,3,0⟩,
 ⟨⟨#[99,115,114,114,119,105]⟩,.c,115,5,0⟩,
 ⟨⟨#[99,115,114,114,115,105]⟩,.c,115,6,0⟩,
 ⟨⟨#[99,115,114,114,99,105]⟩,.c,115,7,0⟩,
 ⟨⟨#[101,99,97,108,108]⟩,.x,115,0,0⟩,
 ⟨⟨#[101,98,114,101,97,107]⟩,.x,115,0,1⟩,
 ⟨⟨#[115,114,101,116]⟩,.x,115,0,258⟩,
 ⟨⟨#[109,114,101,116]⟩,.x,115,0,770⟩,
 ⟨⟨#[119,102,105]⟩,.x,115,0,261⟩,
 ⟨⟨#[115,102,101,110,99,101,46,118,109,97]⟩,.r,115,0,9⟩]

def Row.cellsS (r:Row):List Value:=[.string r.name,.string r.fm.str,.int .u64 r.op,.int .i64 r.f3,.int .u64 r.more]

def cellsS:Array Value:=(rows.flatMap Row.cellsS).toArray

theorem rows_len:rows.length=98:=by rfl

theorem flat_drop {α β:Type} (f:α→List β) (m:Nat):∀ (l:List α),(∀ x ∈ l,(f x).length=m)→∀ k (h:k < l.length),((l.flatMap f).drop (k*m)).take m=f l[k]:=by
 intro l
 induction l with
 | nil=>intro _ k h;simp at h
 | cons x l ih =>
  intro hl k h
  have hx:(f x).length=m:=hl x (by simp)
  cases k with
  | zero=>simp [← hx]
  | succ k =>
   have e:(k+1)*m=(f x).length+k*m:=by rw [hx,Nat.succ_mul];omega
   rw [e,List.flatMap_cons,List.drop_append,List.drop_of_length_le (by omega),Nat.add_sub_cancel_left]
   exact ih (fun y hy=>hl y (by simp [hy])) k (by simpa using h)

theorem flat_get {α β:Type} (f:α→List β) (m:Nat) (l:List α) (hl:∀ x ∈ l,(f x).length=m) (k:Nat) (h:k < l.length) (j:Nat) (hj:j < m):(l.flatMap f)[k*m+j]?=(f l[k])[j]?:=by
 rw [← flat_drop f m l hl k h]
 simp [hj]

def rowAt (k:Nat):Row:=rows.getD k ⟨⟨#[]⟩,.x,0,0,0⟩

theorem rowAt_get (k:Nat) (h:k < 98):rows[k]'(by rw [rows_len];exact h)=rowAt k:=by
 simp [rowAt,List.getD,List.getElem?_eq_getElem (show k < rows.length by rw [rows_len];exact h)]

theorem cellsS_at (k:Nat) (h:k < 98) (j:Nat) (hj:j < 5):cellsS[k*5+j]?=(rowAt k).cellsS[j]?:=by
 have:=flat_get Row.cellsS 5 rows (by intro x _;rfl) k (by rw [rows_len];exact h) j hj
 rw [rowAt_get k h] at this
 rw [← this]
 simp [cellsS]

section
variable {P : Program}

def builds (P:Program):List Oper→Act→Option Act
 | [],a=>some a
 | o :: l,a =>
  match o.guard,o.op with
  | none,.build t parts =>
   match P.built t (parts.map fun (i,x)=>(i,a.eval x)).toList with
   | some cells=>builds P l (a.put o.dst (.agg cells))
   | none=>none
  | _,_=>none

theorem wpList_builds {ops:Array Oper} {Q:Exit→Act→World→Prop} {w:World}:∀ (l rest:List Oper) (a a':Act),builds P l a=some a'→wpList P ops Q rest a' w→wpList P ops Q (l ++ rest) a w:=by
 intro l
 induction l with
 | nil=>intro rest a a' h hr;simp [builds] at h;subst h;exact hr
 | cons o l ih =>
  intro rest a a' h hr
  unfold builds at h
  split at h
  ·rename_i t parts hg ho
   split at h
   ·rename_i cells hc
    exact wpList_buildTo hg t parts ho o.dst rfl cells hc (ih _ _ _ h hr)
   ·cases h
  ·cases h

end

end Go.Proofs.YtkhofppmeoooaaaGreatDoor

namespace Go.Proofs.YtkhofppmeoooaaaGreatDoor
open Go.RowKit
set_option linter.unusedVariables false

theorem run_zero {P:Program} {t:TypeId} {z:Value} (h:(P.info? t).bind (·.zero)=some z) (w:World):(zeroValue t).run P w=.ok z w:=by
 cases hi:P.info? t with
 | none=>rw [hi] at h;cases h
 | some i=>rw [hi] at h;simp at h;simp [zeroValue,typeInfo,hi,h]

theorem wpList_allocZ {P:Program} {ops:Array Oper} {rest:List Oper} {o:Oper} {a:Act} {w:World} {Q:Exit→Act→World→Prop} (hg:o.guard=none) (t:TypeId) (ho:o.op=.alloc t) (d:Option Tmp) (hd:o.dst=d) (z:Value) (hz:(P.info? t).bind (·.zero)=some z)
 (h:wpList P ops Q rest (a.put d (.pointer (some ⟨w.heap.size,0,none⟩))) (w.alloc (.cells z.cells t))):wpList P ops Q (o :: rest) a w:=by
 subst hd
 refine wpList_plain hg fun K hK=>?_
 have hrun:(execOp a.eval o).run P w=.ok (.value (.pointer (some ⟨w.heap.size,0,none⟩))) (w.alloc (.cells z.cells t)):=by
  simp [execOp,ho,Instr.alloc,Sem.run_bind,run_zero hz,newVar,newRow]
 unfold Oper.wp
 rw [hrun,Oper.upon_value]
 exact hK _ _ h

theorem wpList_valTo {P:Program} {ops:Array Oper} {rest:List Oper} {o:Oper} {a:Act} {w:World} {Q:Exit→Act→World→Prop} (hg:o.guard=none) (d:Option Tmp) (hd:o.dst=d)
 (v:Value) (hrun:(execOp a.eval o).run P w=.ok (.value v) w)
 (h:wpList P ops Q rest (a.put d v) w):wpList P ops Q (o :: rest) a w:=by
 subst hd
 refine wpList_plain hg fun K hK=>?_
 unfold Oper.wp
 rw [hrun,Oper.upon_value]
 exact hK _ _ h

theorem below_setRow {B:Nat} {a w:World} (h:Below B a w) {g:Nat} (hg:B≤g) (cs:Array Value):Below B a (w.setRow g cs) :=
 ⟨h.os,h.tape,h.output,by rw [setRow_size];exact h.size,fun k hk=>(setRow_other w g k cs (by omega)).trans (h.block k hk)⟩

theorem l2Row_info:(Tryz.prog.info? 144).map (fun i=>(i.zero,i.size,i.bytes))=some (some (.agg #[.string ⟨#[]⟩,.string ⟨#[]⟩,.int .u64 0,.int .i64 0,.int .u64 0]),5,56):=by kernel_rfl

def partsOf (rs:List (List Value)):List (Nat × Value):=(rs.map fun c=>Value.agg c.toArray).zipIdx.map fun (v,i)=>(i,v)

theorem fillS:Instr.fill (fun i=>some (i*5,5)) ((Array.range (98*5)).map ((Value.agg #[.string ⟨#[]⟩,.string ⟨#[]⟩,.int .u64 0,.int .i64 0,.int .u64 0]).cells[· % 5]!)) (partsOf (rows.map Row.cellsS))=some cellsS:=by kernel_rfl

theorem wpList_buildsSlice {P:Program} {ops:Array Oper} {Q:Exit→Act→World→Prop} {w:World} {l:List Oper} {a:Act} (n t e len:Nat) (d:Option Tmp) (ps:Array (Nat × Operand)) (vs:List (Nat × Value)) (cells:Array Value) (ie:TypeInfo) (z:Value)
 (h:(builds P (l.take n) a).map (fun a'=>((ps.map fun (i,x)=>(i,a'.eval x)).toList,a'.tmps.size,a'.defers))=some (vs,a.tmps.size,[]))
 (hu:P.underlying t=some (.slice e)) (hie:P.info? e=some ie) (hz:ie.zero=some z) (hsmall:¬ len*ie.size > 2 ^ 24) (hpos:¬ len*ie.size=0)
 (hf:Instr.fill (fun i=>some (i*ie.size,ie.size)) ((Array.range (len*ie.size)).map (z.cells[· % z.cells.size]!)) vs=some cells)
 (ho:((l.drop n)[0]?.map fun o=>(o.guard,o.op,o.dst))=some (none,.buildSlice t len ps,d))
 (hr:∀ a':Act,a'.tmps.size=a.tmps.size→a'.defers=[]→wpList P ops Q (l.drop (n+1)) (a'.put d (.slice (some ⟨w.heap.size,0,none⟩) len len)) (w.alloc (.cells cells e))):wpList P ops Q l a w:=by
 rw [← List.take_append_drop n l]
 cases hb:builds P (l.take n) a with
 | none=>rw [hb] at h;cases h
 | some a' =>
  rw [hb] at h
  simp only [Option.map_some,Option.some.injEq,Prod.mk.injEq] at h
  refine wpList_builds _ _ _ _ hb ?_
  cases hd:l.drop n with
  | nil=>rw [hd] at ho;cases ho
  | cons o rest =>
   rw [hd] at ho
   simp only [List.getElem?_cons_zero,Option.map_some,Option.some.injEq,Prod.mk.injEq] at ho
   have e1:l.drop (n+1)=rest:=by rw [← List.drop_drop,hd];rfl
   refine wpList_buildSlice ho.1 t e len ps ho.2.1 cells ie z hu hie hz hsmall hpos (by rw [h.1];exact hf) ?_
   rw [ho.2.2,← e1]
   exact hr a' h.2.1 h.2.2

set_option maxRecDepth 100000 in
set_option maxHeartbeats 4000000 in
theorem l2Rows_any (w:World):Calls Tryz.prog 103 #[] w fun e w'=>e=.returned (.slice (some ⟨w.heap.size,0,none⟩) 98 98)∧w'=w.alloc (.cells cellsS 144):=by
 obtain ⟨i0,hi,hz0,hz1,hz2⟩:=info_parts l2Row_info
 go_enter Tryz.func103,Tryz.ntmps103
 apply wp_seq_k;intro K0 hK0
 apply wp_region_list
 refine wpList_valTo rfl (some 0) rfl (.slice none 0 0) (by kernel_rfl) ?_
 apply wpList_nil
 refine hK0 _ _ ?_
 clear hK0 K0
 apply wp_seq_k;intro K0 hK0
 apply wp_region_lit
 refine wpList_buildsSlice 98 141 144 98 (some 99) ((List.range 98).map fun i=>(i,Operand.tmp (i+1))).toArray (partsOf (rows.map Row.cellsS)) cellsS i0 _ (by kernel_rfl) Tryz.underlying141 hi hz0 (by rw [hz1];decide) (by rw [hz1];decide) (by rw [hz1];exact fillS) (by kernel_rfl) ?_
 intro a' hs hd
 have hs2:a'.tmps.size=100:=hs
 clear hs
 refine wpList_valTo rfl (some 0) rfl (.slice (some ⟨w.heap.size,0,none⟩) 98 98) ?_ ?_
 ·have e:(a'.put (some 99) (.slice (some ⟨w.heap.size,0,none⟩) 98 98)).eval (.tmp 99)=.slice (some ⟨w.heap.size,0,none⟩) 98 98:=by
   simp [Act.put,Act.eval,hs2]
  simp [execOp,e]
 apply wpList_nil
 refine hK0 _ _ ?_
 clear hK0 K0
 apply wp_ret
 refine bodyPost_ret (results_tmp Tryz.results103 _ _ _) hd ⟨?_,rfl⟩
 simp [Act.put,hs2]

end Go.Proofs.YtkhofppmeoooaaaGreatDoor

namespace Go.Proofs.YtkhofppmeoooaaaGreatDoor
open Go.RowKit
set_option linter.unusedVariables false

def opB (op:Int):Bool:=decide (1≤op∧op≤98)

def formOf (op:Int):ByteArray:=if opB op then (rowAt (op - 1).toNat).fm.str else ⟨#[]⟩

theorem results_row2 {P:Program} {fn:Func} {p u:Tmp} {ty:TypeId} (h:fn.results=#[.cell p ty,.tmp u]) (tmps:Array Value) (w:World) (g:Nat) (t:TypeId) (cs:Array Value) (fr:Nat × Nat) (d:TypeDesc)
 (hp:tmps.getD p undef=.pointer (some ⟨g,0,none⟩)) (hg:w.heap[g]?=some (.cells cs t fr))
 (hu:P.underlying ty=some d) (hd:(match d with | .struct _ | .array _ _=>true | _=>false)=true) (hi:(P.info? ty).map (·.size)=some cs.size) :
 (results fn tmps).run P w=.ok (.tuple #[.agg cs,tmps.getD u undef]) w:=by
 rw [results_cell_tmp h,hp]
 simp [asAddr,run_loadVar_row w g t ty cs fr d hg hu hd hi]

theorem l1In_any (x a b:Int) (w:World):Calls Tryz.prog 55 #[.int .i64 x,.int .i64 a,.int .i64 b] w fun e w'=>e=.returned (.bool (decide (a≤x∧x≤b)))∧w'=w:=by
 by_cases h1:a≤x
 ·by_cases h2:x≤b
  ·have F:Hid (decide (a≤x∧x≤b)=true):=by show decide (a≤x∧x≤b)=true;simp [h1,h2]
   have d1:decide (a≤x)=true:=by simpa using h1
   have d2:decide (x≤b)=true:=by simpa using h2
   clear h1 h2
   go_enter Tryz.func55,Tryz.ntmps55
   go_wp2
   go_ret
   exact ⟨by rw [F.out];rfl,rfl⟩
  ·have F:Hid (decide (a≤x∧x≤b)=false):=by show decide (a≤x∧x≤b)=false;simp [h2]
   have d1:decide (a≤x)=true:=by simpa using h1
   have d2:decide (x≤b)=false:=by simpa using h2
   clear h1 h2
   go_enter Tryz.func55,Tryz.ntmps55
   go_wp2
   go_ret
   exact ⟨by rw [F.out];rfl,rfl⟩
 ·have F:Hid (decide (a≤x∧x≤b)=false):=by show decide (a≤x∧x≤b)=false;simp [h1]
  have d1:decide (a≤x)=false:=by simpa using h1
  clear h1
  go_enter Tryz.func55,Tryz.ntmps55
  go_wp2
  go_ret
  exact ⟨by rw [F.out];rfl,rfl⟩

def TabS (w:World) (g:Nat):Prop:=g < w.heap.size∧∀ k,k < 98→∀ r,r=rowAt k→w.cell? ⟨g,k*5,none⟩=some (.string r.name)∧w.cell? ⟨g,k*5+1,none⟩=some (.string r.fm.str) ∧
 w.cell? ⟨g,k*5+2,none⟩=some (.int .u64 r.op)∧w.cell? ⟨g,k*5+3,none⟩=some (.int .i64 r.f3)∧w.cell? ⟨g,k*5+4,none⟩=some (.int .u64 r.more)

theorem TabS.below {w w':World} {g:Nat} (h:TabS w g) {B:Nat} (hg:g < B) (hb:Below B w w'):TabS w' g:=by
 refine ⟨Nat.lt_of_lt_of_le h.1 hb.size,fun k hk r hr=>?_⟩
 have H:=h.2 k hk r hr
 have e:∀ o,w'.cell? ⟨g,o,none⟩=w.cell? ⟨g,o,none⟩:=fun o=>hb.cell (p:=⟨g,o,none⟩) hg
 rw [e,e,e,e,e];exact H

theorem l2Rows_T (w:World):Calls Tryz.prog 103 #[] w fun e w'=>e=.returned (.slice (some ⟨w.heap.size,0,none⟩) 98 98)∧Hid (TabS w' w.heap.size)∧Below w.heap.size w w' :=
 (l2Rows_any w).mono fun e w' h=>by
  obtain ⟨h1,rfl⟩:=h
  refine ⟨h1,?_,(Below.refl _ _).alloc (Nat.le_refl _) _⟩
  show TabS _ _
  refine ⟨by simp,fun k hk r hr=>?_⟩
  subst hr
  have hg:(w.alloc (.cells cellsS 144)).heap[w.heap.size]?=some (.cells cellsS 144 (0,0)):=heap_alloc_new _ _
  have e:∀ j,j < 5→(w.alloc (.cells cellsS 144)).cell? ⟨w.heap.size,k*5+j,none⟩=(rowAt k).cellsS[j]?:=by
   intro j hj
   rw [cell_of_row _ _ _ _ _ _ hg]
   exact cellsS_at k hk j hj
  exact ⟨e 0 (by decide),e 1 (by decide),e 2 (by decide),e 3 (by decide),e 4 (by decide)⟩

set_option maxHeartbeats 400000 in
theorem specForm_any (op:Int) (hw:(Lit.int .i64 op).wf=true) (w:World):Calls Tryz.prog 106 #[.int .i64 op] w fun e w'=>e=.returned (.string (formOf op))∧Below w.heap.size w w':=by
 cases h:opB op with
 | false =>
  have F:Hid (opB op=false):=h
  have F2:decide (1≤op∧op≤98)=false:=h
  clear h
  go_enter Tryz.func106,Tryz.ntmps106
  go_wp2_with fail
  refine (l1In_any op 1 98 _).mono ?_
  rintro e w1 ⟨rfl,rfl⟩
  rw [F2]
  clear F2
  go_wp2_with fail
  go_ret
  exact ⟨by simp [formOf,F.out],Below.refl _ _⟩
 | true =>
  have F2:decide (1≤op∧op≤98)=true:=h
  have F3:1≤op∧op≤98:=of_decide_eq_true F2
  obtain ⟨k,hk⟩:∃ k:Nat,op=(k:Int)+1:=⟨(op - 1).toNat,by omega⟩
  have hk2:k < 98:=by omega
  subst hk
  have F:Hid (opB ((k:Int)+1)=true):=h
  clear h F3
  go_enter Tryz.func106,Tryz.ntmps106
  go_wp2_with fail
  refine (l1In_any _ 1 98 _).mono ?_
  rintro e w1 ⟨rfl,hw'⟩
  have hw2:=hw'.symm
  subst hw2
  rw [F2]
  clear F2 hw'
  go_wp2_with fail
  refine (l2Rows_T _).mono ?_
  rintro e w2 ⟨rfl,hT,hb⟩
  obtain ⟨r,hr0⟩:∃ r,r=rowAt k:=⟨_,rfl⟩
  have hr:Hid (r=rowAt k):=hr0
  clear hr0
  obtain ⟨c0,c1,c2,c3,c4⟩:=hT.out.2 k hk2 r hr.out
  go_wp2_with fail
  go_ret
  exact ⟨by simp [formOf,F.out,hr.out],hb⟩

def Fm.hasRd:Fm→Bool
 | .r=>true | .i=>true | .h=>true | .w=>true | .s=>false | .b=>false | .u=>true | .j=>true | .a=>true | .c=>true | .x=>false

def Fm.hasA:Fm→Bool
 | .r=>true | .i=>true | .h=>true | .w=>true | .s=>true | .b=>true | .u=>false | .j=>false | .a=>true | .c=>true | .x=>false

def Fm.hasB:Fm→Bool
 | .r=>true | .i=>false | .h=>false | .w=>false | .s=>true | .b=>true | .u=>false | .j=>false | .a=>true | .c=>false | .x=>false

def Fm.width:Fm→Nat
 | .r=>64 | .i=>12 | .h=>64 | .w=>64 | .s=>12 | .b=>13 | .u=>32 | .j=>21 | .a=>64 | .c=>64 | .x=>64

structure Ins where
 op:Int
 rd:Int
 a:Int
 b:Int
 imm:Int
deriving DecidableEq

def Ins.val (i:Ins):Value:=.agg #[.int .i64 i.op,.int .i64 i.rd,.int .i64 i.a,.int .i64 i.b,.int .i64 i.imm]

def fld (x:Int) (k n:Nat):Int:=x / 2 ^ k % 2 ^ n

theorem fld_bd (x:Int) (k n:Nat):0≤fld x k n∧fld x k n < 2 ^ n:=by
 have hp:(0:Int) < 2 ^ n:=Int.pow_pos (by omega)
 exact ⟨Int.emod_nonneg _ (by omega),Int.emod_lt_of_pos _ hp⟩

theorem pow_le (m n:Nat) (h:m≤n):(2:Int) ^ m≤2 ^ n:=by
 obtain ⟨d,rfl⟩:=Nat.exists_eq_add_of_le h
 rw [Int.pow_add]
 have h1:(0:Int) < 2 ^ m:=Int.pow_pos (by omega)
 have h2:(0:Int) < 2 ^ d:=Int.pow_pos (by omega)
 have h3:(2:Int) ^ m*1≤2 ^ m*2 ^ d:=Int.mul_le_mul_of_nonneg_left (by omega) (by omega)
 omega

theorem bitsAt_eq (x:Int) (k n:Nat) (h0:0≤x) (h1:x < 18446744073709551616) (hn:n < 64) :
 bits .and .u64 (x / 2 ^ k) (IntKind.u64.wrap (IntKind.u64.wrap (2 ^ n) - 1))=fld x k n:=by
 have hp:(0:Int) < 2 ^ n:=Int.pow_pos (by omega)
 have hk:(0:Int) < 2 ^ k:=Int.pow_pos (by omega)
 have hb:(2:Int) ^ n≤2 ^ 63:=pow_le n 63 (by omega)
 have e63:(2:Int) ^ 63=9223372036854775808:=by decide
 have e1:IntKind.u64.wrap (2 ^ n)=2 ^ n:=by rw [IntKind.wrap_u64];omega
 have e2:IntKind.u64.wrap (2 ^ n - 1)=2 ^ n - 1:=by rw [IntKind.wrap_u64];omega
 have d0:0≤x / 2 ^ k:=Int.ediv_nonneg h0 (by omega)
 have d1:x / 2 ^ k≤x:=Int.ediv_le_self _ h0
 rw [e1,e2,u64_and _ _ d0 (by omega) (by omega) (by omega)]
 have e3:(2 ^ n - 1:Int).toNat=2 ^ n - 1:=by
  have:(2:Int) ^ n=((2 ^ n:Nat):Int):=by simp
  rw [this];omega
 rw [e3,Nat.and_two_pow_sub_one_eq_mod]
 unfold fld
 have e4:((x / 2 ^ k).toNat:Int)=x / 2 ^ k:=Int.toNat_of_nonneg d0
 rw [Int.natCast_emod,e4]
 simp

theorem or_field (a x k m:Nat) (h:a / 2 ^ k % 2 ^ m=0) (hx:x < 2 ^ m):a ||| x*2 ^ k=a+x*2 ^ k:=by
 have hk:0 < 2 ^ k:=Nat.two_pow_pos k
 have hm:0 < 2 ^ m:=Nat.two_pow_pos m
 have e1:a=a / 2 ^ k / 2 ^ m*2 ^ (k+m)+a % 2 ^ k:=by
  have h1:=Nat.div_add_mod a (2 ^ k)
  have h2:=Nat.div_add_mod (a / 2 ^ k) (2 ^ m)
  rw [h,Nat.add_zero] at h2
  rw [← h2] at h1
  rw [Nat.pow_add,← Nat.mul_assoc,Nat.mul_right_comm,Nat.mul_comm _ (2 ^ k),Nat.mul_comm _ (2 ^ m)] 
  omega
 have hlo:a % 2 ^ k < 2 ^ k:=Nat.mod_lt _ hk
 have j1:a / 2 ^ k / 2 ^ m*2 ^ (k+m) ||| a % 2 ^ k=a / 2 ^ k / 2 ^ m*2 ^ (k+m)+a % 2 ^ k:=by
  refine nat_join k _ _ ?_ hlo
  rw [Nat.pow_add,Nat.mul_comm (2 ^ k),← Nat.mul_assoc];exact Nat.mul_mod_left _ _
 have j2:x*2 ^ k ||| a % 2 ^ k=x*2 ^ k+a % 2 ^ k:=nat_join k _ _ (Nat.mul_mod_left _ _) hlo
 have hsm:x*2 ^ k+a % 2 ^ k < 2 ^ (k+m):=by
  rw [Nat.pow_add,Nat.mul_comm (2 ^ k)]
  have:(x+1)*2 ^ k≤2 ^ m*2 ^ k:=Nat.mul_le_mul_right _ hx
  rw [Nat.add_mul] at this
  omega
 have j3:a / 2 ^ k / 2 ^ m*2 ^ (k+m) ||| (x*2 ^ k+a % 2 ^ k)=a / 2 ^ k / 2 ^ m*2 ^ (k+m)+(x*2 ^ k+a % 2 ^ k):=nat_join (k+m) _ _ (Nat.mul_mod_left _ _) hsm
 have e2:a ||| x*2 ^ k=a / 2 ^ k / 2 ^ m*2 ^ (k+m) ||| (x*2 ^ k ||| a % 2 ^ k):=by
  conv=>lhs;rw [e1,← j1]
  rw [Nat.or_assoc,Nat.or_comm (a % 2 ^ k)]
 rw [e2,j2,j3]
 omega

def matchP (i:Nat) (f:Fm) (o z m x:Int):Prop:=x % 128=o∧(0≤z→x / 4096 % 8=z) ∧
 (match f with
 | .r=>x / 33554432=m∧(i=97→x / 128 % 32=0)
 | .h=>x / 67108864=m
 | .w=>x / 33554432=m
 | .a=>x / 134217728=m∧(i=62∨i=73→x / 1048576 % 32=0)
 | .x=>x=m*1048576+o
 | _=>True)

instance (i:Nat) (f:Fm) (o z m x:Int):Decidable (matchP i f o z m x):=by
 unfold matchP;cases f<;>infer_instance

theorem and_low (x:Int) (k:Nat) (h0:0≤x) (h1:x < 18446744073709551616) (hk:k < 64):bits .and .u64 x (2 ^ k - 1)=x % 2 ^ k:=by
 have h:=bitsAt_eq x 0 k h0 h1 hk
 have hp:(0:Int) < 2 ^ k:=Int.pow_pos (by omega)
 have hb:(2:Int) ^ k≤2 ^ 63:=pow_le k 63 (by omega)
 have e63:(2:Int) ^ 63=9223372036854775808:=by decide
 have e1:IntKind.u64.wrap (2 ^ k)=2 ^ k:=by rw [IntKind.wrap_u64];omega
 have e2:IntKind.u64.wrap (2 ^ k - 1)=2 ^ k - 1:=by rw [IntKind.wrap_u64];omega
 rw [e1,e2] at h
 simpa [fld] using h

def widen (n:Nat) (x:Int):Int:=IntKind.u64.wrap (RowKit.wrap64 (IntKind.u64.wrap (x*2 ^ (64 - n))) / 2 ^ (64 - n))

def immU (f:Fm) (x:Int):Int :=
 match f with
 | .i=>x / 1048576
 | .h=>x / 1048576 % 64
 | .w=>x / 1048576 % 32
 | .s=>x / 33554432*32+x / 128 % 32
 | .b=>x / 2147483648*4096+x / 128 % 2*2048+x / 33554432 % 64*32+x / 256 % 16*2
 | .u=>x / 4096*4096
 | .j=>x / 2147483648*1048576+x / 4096 % 256*4096+x / 1048576 % 2*2048+x / 2097152 % 1024*2
 | .a=>x / 33554432 % 4
 | .c=>x / 1048576
 | .r=>0
 | .x=>0

def immV (f:Fm) (x:Int):Int:=RowKit.wrap64 (widen f.width (immU f x))

theorem widen64 (u:Int) (h0:0≤u) (h1:u < 9223372036854775808):RowKit.wrap64 (widen 64 u)=u:=by
 have e:(2:Int) ^ (64 - 64)=1:=by decide
 unfold widen
 rw [e,IntKind.wrap_u64,IntKind.wrap_u64]
 unfold RowKit.wrap64
 omega

theorem or64 (a x:Int) (k m:Nat) (h0:0≤a) (h1:a < 18446744073709551616) (hx:0≤x) (hx2:x < 2 ^ m) (hkm:k+m≤64) (h:a / 2 ^ k % 2 ^ m=0):bits .or .u64 a (x*2 ^ k)=a+x*2 ^ k:=by
 obtain ⟨A,rfl⟩:=Int.eq_ofNat_of_zero_le h0
 obtain ⟨X,rfl⟩:=Int.eq_ofNat_of_zero_le hx
 have hX:X < 2 ^ m:=by
  have:((X:Nat):Int) < ((2 ^ m:Nat):Int):=by simpa using hx2
  omega
 have hA:A / 2 ^ k % 2 ^ m=0:=by
  have:(((A / 2 ^ k % 2 ^ m:Nat)):Int)=0:=by simpa using h
  omega
 have e:((X:Int)*2 ^ k)=((X*2 ^ k:Nat):Int):=by simp
 have hb:X*2 ^ k < 18446744073709551616:=by
  have h2:X*2 ^ k < 2 ^ m*2 ^ k:=Nat.mul_lt_mul_of_pos_right hX (Nat.two_pow_pos k)
  rw [← Nat.pow_add] at h2
  have h3:2 ^ (m+k)≤2 ^ 64:=Nat.pow_le_pow_right (by omega) (by omega)
  have e64:2 ^ 64=18446744073709551616:=by decide
  omega
 rw [e,u64_or_nat A (X*2 ^ k) (by omega) hb,or_field A X k m hA hX]
 simp

end Go.Proofs.YtkhofppmeoooaaaGreatDoor

namespace Go.Proofs.YtkhofppmeoooaaaGreatDoor
open Go.RowKit
set_option linter.unusedVariables false

def bitAt (x:Int) (i:Nat):Int:=bits .and .u64 (x / 2 ^ i) 1

structure Fd where
 addr:Int
 code:Int
 marked:Bool
 at_:Int
 entry:Int

def Fd.cells (f:Fd):Array Value:=#[.int .u64 f.addr,.int .i64 f.code,.bool f.marked,.int .u64 f.at_,.int .u64 f.entry]

def pageC (k:Int):Int:=if k=1 then 12 else if k=2 then 13 else 15

def faultC (k:Int):Int:=if k=1 then 1 else if k=2 then 5 else 7

def pageF (k:Int):Fd:=⟨0,pageC k,false,0,0⟩

def faultF (k:Int):Fd:=⟨0,faultC k,false,0,0⟩

def pteAt (T va:Int) (lv:Nat):Int:=IntKind.u64.wrap (T+IntKind.u64.wrap (8*bits .and .u64 (va / 2 ^ (12+9*lv)) 511))

def pteV (zs:List Int) (x:Int):Int:=le zs (x - 2147483648).toNat 8

def badB (e:Int):Bool:=(bits .and .u64 e 1==0)||((bitAt e 1==0)&&(bitAt e 2==1))||(e / 18014398509481984 != 0)

def frameV (e:Int):Int:=bits .and .u64 (e / 1024) 17592186044415

def ptrB (e:Int):Bool:=(bitAt e 1==0)&&(bitAt e 3==0)

def stopB (e:Int) (lv:Nat):Bool:=((lv:Int)==0)||(bits .and .u64 (e / 16) 1==1)||(bits .and .u64 (e / 64) 3 != 0)

def lowM (m:Nat):Int:=IntKind.u64.wrap (IntKind.u64.wrap (2 ^ m) - 1)

def offB (e:Int) (lv:Nat):Bool:=bits .and .u64 (frameV e) (lowM (9*lv)) != 0

def noKind (l:List Int) (kind e:Int):Bool :=
 ((kind==1)&&(bitAt e 3==0))||((kind==2)&&(bitAt e 1==0)&&((bitAt e 3==0)||(bitAt (l.getD 0 0) 19==0)))||((kind==3)&&(bitAt e 2==0))

def noPriv (l:List Int) (p kind e:Int):Bool :=
 ((p==0)&&(bitAt e 4==0))||((p==1)&&(bitAt e 4==1)&&((kind==1)||(bitAt (l.getD 0 0) 18==0)))

def leadV (e va:Int) (lv:Nat):Int:=bits .or .u64 (bits .andNot .u64 (IntKind.u64.wrap (frameV e*4096)) (lowM (12+9*lv))) (bits .and .u64 va (lowM (12+9*lv)))

def wantV (e kind:Int):Int:=if (kind==3)=true then bits .or .u64 (bits .or .u64 e 64) 128 else bits .or .u64 e 64

def leafV (l:List Int) (p va kind e x:Int) (lv:Nat):Fd :=
 if offB e lv=true then pageF kind else if noKind l kind e=true then pageF kind else if noPriv l p kind e=true then pageF kind
 else if (wantV e kind != e)=true then (if permRest l 1 x (lastOf x 8) 3 4 0=true then ⟨leadV e va lv,0,true,x,wantV e kind⟩ else faultF kind) else ⟨leadV e va lv,0,false,0,0⟩

def walkL (zs:List Int) (n:Nat) (l:List Int) (p va kind:Int):Nat→Int→Fd
 | 0,T=>if okB n (pteAt T va 0) 8=true then (if permRest l 1 (pteAt T va 0) (lastOf (pteAt T va 0) 8) 2 4 0=true then
  (if badB (pteV zs (pteAt T va 0))=true then pageF kind else if ptrB (pteV zs (pteAt T va 0))=true then pageF kind else leafV l p va kind (pteV zs (pteAt T va 0)) (pteAt T va 0) 0) else faultF kind) else faultF kind
 | lv+1,T=>if okB n (pteAt T va (lv+1)) 8=true then (if permRest l 1 (pteAt T va (lv+1)) (lastOf (pteAt T va (lv+1)) 8) 2 4 0=true then
  (if badB (pteV zs (pteAt T va (lv+1)))=true then pageF kind else if ptrB (pteV zs (pteAt T va (lv+1)))=true then (if stopB (pteV zs (pteAt T va (lv+1))) (lv+1)=true then pageF kind else walkL zs n l p va kind lv (IntKind.u64.wrap (frameV (pteV zs (pteAt T va (lv+1)))*4096))) else leafV l p va kind (pteV zs (pteAt T va (lv+1))) (pteAt T va (lv+1)) (lv+1)) else faultF kind) else faultF kind

def topT (l:List Int):Int:=IntKind.u64.wrap (bits .and .u64 (l.getD 15 0) 17592186044415*4096)

def walkV (zs:List Int) (n:Nat) (l:List Int) (p va kind:Int):Fd :=
 if ((p==3)||(l.getD 15 0 / 1152921504606846976==0))=true then ⟨va,0,false,0,0⟩ else if (widen 39 va != va)=true then pageF kind else walkL zs n l p va kind 2 (topT l)

theorem walkL_step (zs:List Int) (n:Nat) (l:List Int) (p va kind:Int) (lv:Nat) (T:Int):walkL zs n l p va kind lv T =
 (if okB n (pteAt T va lv) 8=true then (if permRest l 1 (pteAt T va lv) (lastOf (pteAt T va lv) 8) 2 4 0=true then
  (if badB (pteV zs (pteAt T va lv))=true then pageF kind else if ptrB (pteV zs (pteAt T va lv))=true then (if stopB (pteV zs (pteAt T va lv)) lv=true then pageF kind else walkL zs n l p va kind (lv - 1) (IntKind.u64.wrap (frameV (pteV zs (pteAt T va lv))*4096))) else leafV l p va kind (pteV zs (pteAt T va lv)) (pteAt T va lv) lv) else faultF kind) else faultF kind):=by
 cases lv with
 | zero =>
  rw [walkL]
  have:stopB (pteV zs (pteAt T va 0)) 0=true:=rfl
  rw [this,if_pos rfl]
 | succ lv=>rw [walkL];rfl

theorem l5Bit_any (x:Int) (i:Nat) (hi:i < 64) (w:World):Calls Tryz.prog 101 #[.int .u64 x,.int .u64 i] w fun e w'=>e=.returned (.int .u64 (bitAt x i))∧w'=w:=by
 go_enter Tryz.func101,Tryz.ntmps101
 go_wp2_with fail
 go_ret
 exact ⟨rfl,rfl⟩

end Go.Proofs.YtkhofppmeoooaaaGreatDoor
