/- Own lemmas. -/
import Derived.Test.YtbajeckeeekhnaaGreatK01
import Derived.Test.YtbajeckeeekhnaaGreatK03
import Derived.BigQuiet
import Derived.OwnWalk
namespace Go.Proofs.YtbajeckeeekhnaaGreat
open Go.RowKit
set_option linter.unusedVariables false

theorem l4Byte_any (a:Option Addr) (cap:Nat) (l:List Int) (i:Nat) (hi:i < 4) (w:World) (hz:l.length=22) (hs:Sl .u64 w a l) :
 Calls Tryz.prog 97 #[.slice a 22 cap,.int .i64 i] w fun e w'=>e=.returned (.int .u64 (cfgAt l i))∧w'=w:=by
 obtain ⟨b,off,rfl,hb,hc⟩:=hs 16 (by omega)
 have hm:wrap64 (8*(i:Int))=((8*i:Nat):Int):=by unfold wrap64;omega
 have hm2:IntKind.u64.wrap ((8*i:Nat):Int)=((8*i:Nat):Int):=by rw [IntKind.wrap_u64];omega
 have hm3:8*i < 64:=by omega
 have F:Hid (cfgAt l i=bits .and .u64 (l.getD 16 0 / 2 ^ (8*i)) 255):=(rfl:cfgAt l i=_)
 generalize l.getD 16 0=x at *
 go_enter Tryz.func97,Tryz.ntmps97
 go_wp2_with fail
 go_ret
 exact ⟨by rw [F.out];rfl,rfl⟩

set_option maxHeartbeats 800000 in
theorem l4Locked_any (a:Option Addr) (cap:Nat) (l:List Int) (i:Nat) (hi:i < 4) (w:World) (hz:l.length=22) (hs:Sl .u64 w a l) :
 Calls Tryz.prog 101 #[.slice a 22 cap,.int .i64 i] w fun e w'=>e=.returned (.bool (lockB l i))∧w'=w:=by
 have HB:Hid (Calls Tryz.prog 97 #[.slice a 22 cap,.int .i64 i] w fun e w'=>e=.returned (.int .u64 (cfgAt l i))∧w'=w):=l4Byte_any a cap l i hi w hz hs
 have F0:lockB l i=((cfgAt l i / 128==1)||(decide (i < 3)&&(cfgAt l (i+1) / 128==1)&&(bits .and .u64 (cfgAt l (i+1) / 8) 3==1))):=rfl
 cases h7:(cfgAt l i / 128==1) with
 | true =>
   have F:Hid (lockB l i=true):=by show _=_;rw [F0,h7];rfl
   clear F0
   generalize cfgAt l i=y at *
   go_enter Tryz.func101,Tryz.ntmps101
   go_wp2_with fail
   refine HB.out.mono ?_
   rintro e w1 ⟨rfl,hw1⟩
   subst hw1
   go_wp2_with fail
   go_ret
   exact ⟨by rw [F.out];rfl,rfl⟩
 | false =>
   rw [h7,Bool.false_or] at F0
   by_cases hi3:i < 3
   ·have d3:decide (i < 3)=true:=by simpa using hi3
    have dk:decide ((i:Int) < 3)=true:=by simp;omega
    rw [d3,Bool.true_and] at F0
    have e1:wrap64 ((i:Int)+1)=((i+1:Nat):Int):=by unfold wrap64;omega
    have HB2:Hid (Calls Tryz.prog 97 #[.slice a 22 cap,.int .i64 ((i+1:Nat):Int)] w fun e w'=>e=.returned (.int .u64 (cfgAt l (i+1)))∧w'=w):=l4Byte_any a cap l (i+1) (by omega) w hz hs
    clear hs
    generalize cfgAt l i=y at *
    generalize cfgAt l (i+1)=z at *
    cases hz7:(z / 128==1) with
    | true =>
      obtain ⟨c,hc⟩:∃ c,(bits .and .u64 (z / 8) 3==1)=c:=⟨_,rfl⟩
      have F:Hid (lockB l i=c):=by show _=_;rw [F0,hz7,hc,Bool.true_and]
      clear F0
      go_enter Tryz.func101,Tryz.ntmps101
      go_wp2_with fail
      refine HB.out.mono ?_
      rintro e w1 ⟨rfl,hw1⟩
      subst hw1
      go_wp2_with (go_at_call 97;refine HB2.out.mono ?_;rintro e w1 ⟨rfl,hw1⟩;subst hw1)
      go_ret
      exact ⟨by rw [F.out];rfl,rfl⟩
    | false =>
      have F:Hid (lockB l i=false):=by show _=_;rw [F0,hz7,Bool.false_and]
      clear F0
      go_enter Tryz.func101,Tryz.ntmps101
      go_wp2_with fail
      refine HB.out.mono ?_
      rintro e w1 ⟨rfl,hw1⟩
      subst hw1
      go_wp2_with (go_at_call 97;refine HB2.out.mono ?_;rintro e w1 ⟨rfl,hw1⟩;subst hw1)
      go_ret
      exact ⟨by rw [F.out];rfl,rfl⟩
   ·have d3:decide (i < 3)=false:=by simpa using hi3
    have dk:decide ((i:Int) < 3)=false:=by simp;omega
    have F:Hid (lockB l i=false):=by show _=_;rw [F0,d3];rfl
    clear F0 d3
    generalize cfgAt l i=y at *
    go_enter Tryz.func101,Tryz.ntmps101
    go_wp2_with fail
    refine HB.out.mono ?_
    rintro e w1 ⟨rfl,hw1⟩
    subst hw1
    go_wp2_with fail
    go_ret
    exact ⟨by rw [F.out];rfl,rfl⟩

def kindOf (l:List Int) (i:Nat):Int:=bits .and .u64 (cfgAt l i / 8) 3

def trailN (a:Int):Nat→Nat→Nat
 | 0,k=>k
 | n+1,k=>if (bits .and .u64 (a / 2 ^ k) 1==1)=true then trailN a n (k+1) else k

theorem trail_go (a:Int) (k:Nat) (hk:k < 53) (h:(bits .and .u64 (a / 2 ^ k) 1==1)=true):trailN a (53 - k) k=trailN a (53 - (k+1)) (k+1):=by
 rw [show 53 - k=(53 - (k+1))+1 from by omega,trailN,if_pos h]

theorem trail_stop (a:Int) (k:Nat) (hk:k < 53) (h:(bits .and .u64 (a / 2 ^ k) 1==1)=false):trailN a (53 - k) k=k:=by
 rw [show 53 - k=(53 - (k+1))+1 from by omega,trailN,if_neg (by rw [h];decide)]

def regLo (a:Int) (k:Nat):Int:=IntKind.u64.wrap (bits .andNot .u64 a (IntKind.u64.wrap (IntKind.u64.wrap (2 ^ (k+1)) - 1))*4)

def regHi (a:Int) (k:Nat):Int:=IntKind.u64.wrap (IntKind.u64.wrap (regLo a k+IntKind.u64.wrap (2 ^ (k+3))) - 1)

def regFrom (l:List Int) (i:Nat):Int:=if 0 < i then IntKind.u64.wrap (l.getD (16+i) 0*4) else 0

def regionV (l:List Int) (i:Nat):Int × Int × Bool :=
 if (kindOf l i==1)=true then (if IntKind.u64.wrap (l.getD (17+i) 0*4)≤regFrom l i then (0,0,false) else (regFrom l i,IntKind.u64.wrap (IntKind.u64.wrap (l.getD (17+i) 0*4) - 1),true))
 else if (kindOf l i==2)=true then (IntKind.u64.wrap (l.getD (17+i) 0*4),IntKind.u64.wrap (IntKind.u64.wrap (l.getD (17+i) 0*4)+3),true)
 else if (kindOf l i==3)=true then (regLo (l.getD (17+i) 0) (trailN (l.getD (17+i) 0) 53 0),regHi (l.getD (17+i) 0) (trailN (l.getD (17+i) 0) 53 0),true)
 else (0,0,false)

end Go.Proofs.YtbajeckeeekhnaaGreat

namespace Go.Proofs.YtbajeckeeekhnaaGreat
open Go.RowKit
set_option linter.unusedVariables false

set_option maxRecDepth 100000 in
set_option maxHeartbeats 1600000 in
theorem l6Region_any (a:Option Addr) (cap:Nat) (l:List Int) (i:Nat) (hi:i < 4) (w:World) (hz:l.length=22) (hs:Sl .u64 w a l) :
 Calls Tryz.prog 96 #[.slice a 22 cap,.int .i64 i] w fun e w'=>e=.returned (.tuple #[.int .u64 (regionV l i).1,.int .u64 (regionV l i).2.1,.bool (regionV l i).2.2])∧w'=w:=by
 obtain ⟨b,off,rfl,hb,hc17⟩:=hs (17+i) (by omega)
 obtain ⟨b',off',eb,_,hc16⟩:=hs (16+i) (by omega)
 simp only [Option.some.injEq,Addr.mk.injEq,and_true] at eb
 obtain ⟨rfl,rfl⟩:=eb
 have HB:Hid (Calls Tryz.prog 97 #[.slice (some ⟨b,off,none⟩) 22 cap,.int .i64 i] w fun e w'=>e=.returned (.int .u64 (cfgAt l i))∧w'=w):=l4Byte_any _ cap l i hi w hz hs
 have hk0:bits .and .u64 (cfgAt l i / 8) 3=kindOf l i:=rfl
 have F0:regionV l i=if (kindOf l i==1)=true then (if IntKind.u64.wrap (l.getD (17+i) 0*4)≤regFrom l i then (0,0,false) else (regFrom l i,IntKind.u64.wrap (IntKind.u64.wrap (l.getD (17+i) 0*4) - 1),true))
  else if (kindOf l i==2)=true then (IntKind.u64.wrap (l.getD (17+i) 0*4),IntKind.u64.wrap (IntKind.u64.wrap (l.getD (17+i) 0*4)+3),true)
  else if (kindOf l i==3)=true then (regLo (l.getD (17+i) 0) (trailN (l.getD (17+i) 0) 53 0),regHi (l.getD (17+i) 0) (trailN (l.getD (17+i) 0) 53 0),true)
  else (0,0,false):=rfl
 have hf0:regFrom l i=if 0 < i then IntKind.u64.wrap (l.getD (16+i) 0*4) else 0:=rfl
 have e17:wrap64 (17+(i:Int))=((17+i:Nat):Int):=by unfold wrap64;omega
 have e16:wrap64 (16+(i:Int))=((16+i:Nat):Int):=by unfold wrap64;omega
 have b17:0≤((17+i:Nat):Int)∧((17+i:Nat):Int) < ((22:Nat):Int):=by omega
 have b16:0≤((16+i:Nat):Int)∧((16+i:Nat):Int) < ((22:Nat):Int):=by omega
 generalize regionV l i=r at *
 generalize kindOf l i=kd at *
 generalize cfgAt l i=cf at *
 generalize regFrom l i=fr at *
 generalize l.getD (17+i) 0=x at *
 generalize l.getD (16+i) 0=y at *
 clear hs
 cases h1:(kd==1) with
 | true =>
   rw [if_pos h1] at F0
   have di:(decide (0 < i)=true∧fr=IntKind.u64.wrap (y*4))∨(decide (0 < i)=false∧fr=0):=by
    by_cases hi0:0 < i
    ·rw [if_pos hi0] at hf0
     exact Or.inl ⟨by simpa using hi0,hf0⟩
    ·rw [if_neg hi0] at hf0
     exact Or.inr ⟨by simpa using hi0,hf0⟩
   obtain ⟨t,ht⟩:∃ t,IntKind.u64.wrap (x*4)=t:=⟨_,rfl⟩
   rw [ht] at F0
   clear hf0
   rcases di with ⟨di,hfr⟩ | ⟨di,hfr⟩
   ·rw [hfr] at F0
    obtain ⟨f4,hf4⟩:∃ t,IntKind.u64.wrap (y*4)=t:=⟨_,rfl⟩
    rw [hf4] at F0
    clear hfr
    by_cases hle:t≤f4
    ·have d:decide (t≤f4)=true:=by simpa using hle
     rw [if_pos hle] at F0
     have F:Hid (r=(0,0,false)):=F0
     clear F0 hle
     go_enter Tryz.func96,Tryz.ntmps96
     go_wp2_with fail
     refine HB.out.mono ?_
     rintro e w1 ⟨rfl,hw1⟩
     have hw2:=hw1.symm
     subst hw2
     go_wp2_with fail
     go_ret3
     exact ⟨by rw [F.out];rfl,rfl⟩
    ·have d:decide (t≤f4)=false:=by simpa using hle
     rw [if_neg hle] at F0
     have F:Hid (r=(f4,IntKind.u64.wrap (t - 1),true)):=F0
     clear F0 hle
     go_enter Tryz.func96,Tryz.ntmps96
     go_wp2_with fail
     refine HB.out.mono ?_
     rintro e w1 ⟨rfl,hw1⟩
     have hw2:=hw1.symm
     subst hw2
     go_wp2_with fail
     go_ret3
     exact ⟨by rw [F.out];rfl,rfl⟩
   ·subst hfr
    by_cases hle:t≤0
    ·have d:decide (t≤0)=true:=by simpa using hle
     rw [if_pos hle] at F0
     have F:Hid (r=(0,0,false)):=F0
     clear F0 hle
     go_enter Tryz.func96,Tryz.ntmps96
     go_wp2_with fail
     refine HB.out.mono ?_
     rintro e w1 ⟨rfl,hw1⟩
     have hw2:=hw1.symm
     subst hw2
     go_wp2_with fail
     go_ret3
     exact ⟨by rw [F.out];rfl,rfl⟩
    ·have d:decide (t≤0)=false:=by simpa using hle
     rw [if_neg hle] at F0
     have F:Hid (r=(0,IntKind.u64.wrap (t - 1),true)):=F0
     clear F0 hle
     go_enter Tryz.func96,Tryz.ntmps96
     go_wp2_with fail
     refine HB.out.mono ?_
     rintro e w1 ⟨rfl,hw1⟩
     have hw2:=hw1.symm
     subst hw2
     go_wp2_with fail
     go_ret3
     exact ⟨by rw [F.out];rfl,rfl⟩
 | false =>
   rw [if_neg (by rw [h1];decide)] at F0
   cases h2:(kd==2) with
   | true =>
     rw [if_pos h2] at F0
     have F:Hid (r=(IntKind.u64.wrap (x*4),IntKind.u64.wrap (IntKind.u64.wrap (x*4)+3),true)):=F0
     clear F0 hf0
     go_enter Tryz.func96,Tryz.ntmps96
     go_wp2_with fail
     refine HB.out.mono ?_
     rintro e w1 ⟨rfl,hw1⟩
     have hw2:=hw1.symm
     subst hw2
     go_wp2_with fail
     go_ret3
     exact ⟨by rw [F.out];rfl,rfl⟩
   | false =>
     rw [if_neg (by rw [h2];decide)] at F0
     cases h3:(kd==3) with
     | true =>
       rw [if_pos h3] at F0
       have F:Hid (r=(regLo x (trailN x 53 0),regHi x (trailN x 53 0),true)):=F0
       clear F0 hf0
       go_enter Tryz.func96,Tryz.ntmps96
       go_wp2_with fail
       refine HB.out.mono ?_
       rintro e w1 ⟨rfl,hw1⟩
       have hw2:=hw1.symm
       subst hw2
       go_wp2_with fail
       go_loopw [9] (fun v wr=>∃ k:Nat,k≤53∧v=.int .u64 k∧Hid (trailN x (53 - k) k=trailN x 53 0)∧wr=w)
        (fun v _=>53 - (intOf v).toNat)
       case atStart=>exact ⟨0,by omega,rfl,(rfl:trailN x (53 - 0) 0=trailN x 53 0),rfl⟩
       case round =>
        obtain ⟨k,hk,rfl,hf,rfl⟩:=hrel
        have fin:Hid (trailN x 53 0=k)→Hid (r=(regLo x k,regHi x k,true)):=fun h=>by
         show r=_
         rw [F.out,h.out]
        have d3:((k:Int)+1)=((k+1:Nat):Int):=by omega
        have u1:IntKind.u64.wrap ((k:Int)+1)=((k+1:Nat):Int):=by rw [IntKind.wrap_u64];omega
        have u3:IntKind.u64.wrap ((k:Int)+3)=((k+3:Nat):Int):=by rw [IntKind.wrap_u64];omega
        clear d3
        by_cases hlt:k < 53
        ·have dk:decide ((k:Int) < 53)=true:=by simp;omega
         cases hbit:(bits .and .u64 (x / 2 ^ k) 1==1) with
         | true =>
           have F1:Hid (trailN x (53 - (k+1)) (k+1)=trailN x 53 0):=(trail_go x k hlt hbit).symm.trans hf.out
           clear fin u1 u3
           go_wp2_with fail
           go_roundw
           case rel=>exact ⟨k+1,by omega,by go_num,F1,trivial⟩
           case measure=>simp [intOf];omega
         | false =>
           have F1:=fin (hf.out.symm.trans (trail_stop x k hlt hbit))
           clear fin
           go_wp2_with fail
           go_ret3
           exact ⟨by rw [F1.out];rfl,rfl⟩
        ·have hk53:k=53:=by omega
         have F1:=fin (hf.out.symm.trans (by rw [hk53];rfl))
         have dk:decide ((k:Int) < 53)=false:=by simp;omega
         clear fin hk53
         go_wp2_with fail
         go_ret3
         exact ⟨by rw [F1.out];rfl,rfl⟩
     | false =>
       rw [if_neg (by rw [h3];decide)] at F0
       have F:Hid (r=(0,0,false)):=F0
       clear F0 hf0
       go_enter Tryz.func96,Tryz.ntmps96
       go_wp2_with fail
       refine HB.out.mono ?_
       rintro e w1 ⟨rfl,hw1⟩
       have hw2:=hw1.symm
       subst hw2
       go_wp2_with fail
       go_ret3
       exact ⟨by rw [F.out];rfl,rfl⟩

end Go.Proofs.YtbajeckeeekhnaaGreat

namespace Go.Proofs.YtbajeckeeekhnaaGreat
open Go.RowKit
set_option linter.unusedVariables false

theorem l1In_d (x a b:Int) (w:World):Calls Tryz.prog 27 #[.int .i64 x,.int .i64 a,.int .i64 b] w fun e w'=>e=.returned (.bool (decide (a≤x∧x≤b)))∧w'=w:=by
 by_cases h1:a≤x
 ·by_cases h2:x≤b
  ·have F:Hid (decide (a≤x∧x≤b)=true):=by show decide (a≤x∧x≤b)=true;simp [h1,h2]
   have d1:decide (a≤x)=true:=by simpa using h1
   have d2:decide (x≤b)=true:=by simpa using h2
   clear h1 h2
   go_enter Tryz.func27,Tryz.ntmps27
   go_wp2
   go_ret
   exact ⟨by rw [F.out];rfl,rfl⟩
  ·have F:Hid (decide (a≤x∧x≤b)=false):=by show decide (a≤x∧x≤b)=false;simp [h2]
   have d1:decide (a≤x)=true:=by simpa using h1
   have d2:decide (x≤b)=false:=by simpa using h2
   clear h1 h2
   go_enter Tryz.func27,Tryz.ntmps27
   go_wp2
   go_ret
   exact ⟨by rw [F.out];rfl,rfl⟩
 ·have F:Hid (decide (a≤x∧x≤b)=false):=by show decide (a≤x∧x≤b)=false;simp [h1]
  have d1:decide (a≤x)=false:=by simpa using h1
  clear h1
  go_enter Tryz.func27,Tryz.ntmps27
  go_wp2
  go_ret
  exact ⟨by rw [F.out];rfl,rfl⟩

def hitB (r:Int × Int × Bool) (x:Int):Bool:=r.2.2&&decide (r.1≤x)&&decide (x≤r.2.1)

def lockRest (l:List Int) (x:Int):Nat→Nat→Bool
 | 0,_=>false
 | n+1,k=>if hitB (regionV l k) x=true then ((cfgAt l k / 128==1)&&(bits .and .u64 (cfgAt l k / 2) 1==0)) else lockRest l x n (k+1)

theorem lockRest_hit (l:List Int) (x:Int) (k:Nat) (hk:k < 4) (h:hitB (regionV l k) x=true):lockRest l x (4 - k) k=((cfgAt l k / 128==1)&&(bits .and .u64 (cfgAt l k / 2) 1==0)):=by
 rw [show 4 - k=(4 - (k+1))+1 from by omega,lockRest,if_pos h]

end Go.Proofs.YtbajeckeeekhnaaGreat

namespace Go.Proofs.YtbajeckeeekhnaaGreat
open Go.RowKit
set_option linter.unusedVariables false

def lastOf (x s:Int):Int:=IntKind.u64.wrap (IntKind.u64.wrap (x+IntKind.u64.wrap s) - 1)

def skipB (r:Int × Int × Bool) (x y:Int):Bool:=!r.2.2||decide (y < r.1)||decide (r.2.1 < x)

def outB (r:Int × Int × Bool) (x y:Int):Bool:=decide (x < r.1)||decide (r.2.1 < y)

def letB (b p kind:Int):Bool :=
 if ((p==3)&&(b / 128==0))=true then true else if (kind==1)=true then (bits .and .u64 (b / 4) 1==1) else if (kind==2)=true then (bits .and .u64 b 1==1) else (bits .and .u64 (b / 2) 1==1)

def permRest (l:List Int) (p x y kind:Int):Nat→Nat→Bool
 | 0,_=>(p==3)
 | n+1,k=>if skipB (regionV l k) x y=true then permRest l p x y kind n (k+1) else !outB (regionV l k) x y&&letB (cfgAt l k) p kind

theorem perm_skip (l:List Int) (p x y kind:Int) (k:Nat) (hk:k < 4) (h:skipB (regionV l k) x y=true):permRest l p x y kind (4 - k) k=permRest l p x y kind (4 - (k+1)) (k+1):=by
 rw [show 4 - k=(4 - (k+1))+1 from by omega,permRest,if_pos h]

theorem perm_hit (l:List Int) (p x y kind:Int) (k:Nat) (hk:k < 4) (h:skipB (regionV l k) x y=false):permRest l p x y kind (4 - k) k=(!outB (regionV l k) x y&&letB (cfgAt l k) p kind):=by
 rw [show 4 - k=(4 - (k+1))+1 from by omega,permRest,if_neg (by rw [h];decide)]

set_option maxRecDepth 100000 in
set_option maxHeartbeats 3200000 in
theorem l6Permits_any (a:Option Addr) (cap:Nat) (l:List Int) (p x s kind:Int) (w:World) (hz:l.length=22) (hs:Sl .u64 w a l) :
 Calls Tryz.prog 77 #[.slice a 22 cap,.int .i64 p,.int .u64 x,.int .i64 s,.int .i64 kind] w fun e w'=>e=.returned (.bool (permRest l p x (lastOf x s) kind 4 0))∧w'=w:=by
 have hy0:IntKind.u64.wrap (IntKind.u64.wrap (x+IntKind.u64.wrap s) - 1)=lastOf x s:=rfl
 generalize lastOf x s=y at *
 have HS:Hid (Sl .u64 w a l):=hs
 have HZ:Hid (l.length=22):=hz
 have F0:Hid (True∧permRest l p x y kind 4 0=permRest l p x y kind 4 0):=⟨trivial,rfl⟩
 clear hs hz F0
 go_enter Tryz.func77,Tryz.ntmps77
 go_wp2_with fail
 go_loopw [12] (fun v wr=>∃ k:Nat,k≤4∧v=.int .i64 k∧Hid (permRest l p x y kind (4 - k) k=permRest l p x y kind 4 0)∧wr=w)
  (fun v _=>4 - (intOf v).toNat)
 case atStart=>exact ⟨0,by omega,rfl,(rfl:permRest l p x y kind (4 - 0) 0=permRest l p x y kind 4 0),rfl⟩
 case round =>
  obtain ⟨k,hk,rfl,hf,rfl⟩:=hrel
  clear hy0
  by_cases hlt:k < 4
  ·have dk:decide ((k:Int) < 4)=true:=by simp;omega
   have HR:Hid (Calls Tryz.prog 96 #[.slice a 22 cap,.int .i64 k] wr fun e w'=>e=.returned (.tuple #[.int .u64 (regionV l k).1,.int .u64 (regionV l k).2.1,.bool (regionV l k).2.2])∧w'=wr):=l6Region_any a cap l k hlt wr HZ.out HS.out
   have HB:Hid (Calls Tryz.prog 97 #[.slice a 22 cap,.int .i64 k] wr fun e w'=>e=.returned (.int .u64 (cfgAt l k))∧w'=wr):=l4Byte_any a cap l k hlt wr HZ.out HS.out
   have Hit:skipB (regionV l k) x y=false→Hid (permRest l p x y kind 4 0=(!outB (regionV l k) x y&&letB (cfgAt l k) p kind)):=fun h=>hf.out.symm.trans (perm_hit l p x y kind k hlt h)
   have Miss:skipB (regionV l k) x y=true→Hid (permRest l p x y kind (4 - (k+1)) (k+1)=permRest l p x y kind 4 0):=fun h=>(perm_skip l p x y kind k hlt h).symm.trans hf.out
   generalize regionV l k=r at *
   generalize cfgAt l k=cf at *
   obtain ⟨r1,r2,r3⟩:=r
   simp only at HR
   have hh:skipB (r1,r2,r3) x y=(!r3||decide (y < r1)||decide (r2 < x)):=rfl
   have ho:outB (r1,r2,r3) x y=(decide (x < r1)||decide (r2 < y)):=rfl
   rw [hh] at Hit Miss
   rw [ho] at Hit
   clear hh ho
   go_wp2_with fail
   refine HR.out.mono ?_
   rintro e w1 ⟨rfl,hw1⟩
   have hw2:=hw1.symm
   subst hw2
   cases r3 with
   | false =>
     have F1:=Miss (rfl)
     clear Hit Miss
     go_wp2_with fail
     go_roundw
     case rel=>exact ⟨k+1,by omega,by go_num,F1,trivial⟩
     case measure=>simp [intOf];omega
   | true =>
     cases h1:decide (y < r1) with
     | true =>
       have F1:=Miss (by rw [h1];rfl)
       clear Hit Miss
       go_wp2_with fail
       go_roundw
       case rel=>exact ⟨k+1,by omega,by go_num,F1,trivial⟩
       case measure=>simp [intOf];omega
     | false =>
       cases h2:decide (r2 < x) with
       | true =>
         have F1:=Miss (by rw [h1,h2];rfl)
         clear Hit Miss
         go_wp2_with fail
         go_roundw
         case rel=>exact ⟨k+1,by omega,by go_num,F1,trivial⟩
         case measure=>simp [intOf];omega
       | false =>
         have F1:=Hit (by rw [h1,h2];rfl)
         clear Hit Miss
         cases h3:decide (x < r1) with
         | true =>
           go_wp2_with fail
           go_ret
           exact ⟨by rw [F1.out,h3];rfl,rfl⟩
         | false =>
           cases h4:decide (r2 < y) with
           | true =>
             go_wp2_with fail
             go_ret
             exact ⟨by rw [F1.out,h3,h4];rfl,rfl⟩
           | false =>
             have F2:Hid (permRest l p x y kind 4 0=letB cf p kind):=by show _=_;rw [F1.out,h3,h4];rfl
             clear F1
             have L0:letB cf p kind=if ((p==3)&&(cf / 128==0))=true then true else if (kind==1)=true then (bits .and .u64 (cf / 4) 1==1) else if (kind==2)=true then (bits .and .u64 cf 1==1) else (bits .and .u64 (cf / 2) 1==1):=rfl
             go_wp2_with fail
             refine HB.out.mono ?_
             rintro e w1 ⟨rfl,hw1⟩
             have hw2:=hw1.symm
             subst hw2
             have by3:((p==3)=true∧(cf / 128==0)=true)∨((p==3)=true∧(cf / 128==0)=false)∨(p==3)=false:=by
              cases (p==3)<;>cases (cf / 128==0)<;>simp
             generalize letB cf p kind=lt at *
             rcases by3 with ⟨q1,q2⟩ | by3
             ·have F3:Hid (lt=true):=by show _=_;rw [L0,q1,q2];rfl
              clear L0
              go_wp2_with fail
              go_ret
              exact ⟨by rw [F2.out,F3.out];rfl,rfl⟩
             ·have L1:lt=if (kind==1)=true then (bits .and .u64 (cf / 4) 1==1) else if (kind==2)=true then (bits .and .u64 cf 1==1) else (bits .and .u64 (cf / 2) 1==1):=by
               rcases by3 with ⟨q1,q2⟩ | q1
               ·rw [L0,q1,q2];rfl
               ·rw [L0,q1];rfl
              clear L0
              obtain ⟨b1,e1⟩:∃ q,(bits .and .u64 (cf / 4) 1==1)=q:=⟨_,rfl⟩
              obtain ⟨b2,e2⟩:∃ q,(bits .and .u64 cf 1==1)=q:=⟨_,rfl⟩
              obtain ⟨b3,e3⟩:∃ q,(bits .and .u64 (cf / 2) 1==1)=q:=⟨_,rfl⟩
              rw [e1,e2,e3] at L1
              cases k1:(kind==1) with
              | true =>
                have F3:Hid (lt=b1):=by show _=_;rw [L1,k1];rfl
                clear L1
                rcases by3 with ⟨q1,q2⟩ | q1
                all_goals
                 go_wp2_with fail
                 go_ret
                 exact ⟨by rw [F2.out,F3.out];rfl,rfl⟩
              | false =>
                cases k2:(kind==2) with
                | true =>
                  have F3:Hid (lt=b2):=by show _=_;rw [L1,k1,k2];rfl
                  clear L1
                  rcases by3 with ⟨q1,q2⟩ | q1
                  all_goals
                   go_wp2_with fail
                   go_ret
                   exact ⟨by rw [F2.out,F3.out];rfl,rfl⟩
                | false =>
                  have F3:Hid (lt=b3):=by show _=_;rw [L1,k1,k2];rfl
                  clear L1
                  rcases by3 with ⟨q1,q2⟩ | q1
                  all_goals
                   go_wp2_with fail
                   go_ret
                   exact ⟨by rw [F2.out,F3.out];rfl,rfl⟩
  ·have hk4:k=4:=by omega
   subst hk4
   obtain ⟨q,hq⟩:∃ q,(p==3)=q:=⟨_,rfl⟩
   have F1:Hid (permRest l p x y kind 4 0=q):=hf.out.symm.trans hq
   go_wp2_with fail
   go_ret
   exact ⟨by rw [F1.out];rfl,rfl⟩

end Go.Proofs.YtbajeckeeekhnaaGreat
