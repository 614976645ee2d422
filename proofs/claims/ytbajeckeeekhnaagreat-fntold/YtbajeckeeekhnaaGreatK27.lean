/- Own lemmas. -/
import Derived.Test.YtbajeckeeekhnaaGreatK15
import Derived.Test.YtbajeckeeekhnaaGreatK26
namespace Go.Proofs.YtbajeckeeekhnaaGreat
open Go.RowKit
set_option linter.unusedVariables false

theorem bitAt_fld (x:Int) (i:Nat) (h:U x):bitAt x i=fld x i 1:=by
 have hd:=U_div x h i
 have:=and_low (x / 2 ^ i) 1 hd.1 hd.2 (by omega)
 unfold bitAt fld
 exact this

theorem bt0:∀ i,i < 64→bt 0 i=false:=by decide +kernel

theorem fld1_shl (s:Int) (h:U s) (i j k:Nat):bt (IntKind.u64.wrap (fld s k 1*2 ^ j)) i=(decide (i=j)&&decide (i < 64)&&bt s k):=by
 rw [bt_shl _ (U_fld _ _ _ (by omega)),bt_fld _ h _ _ _ (by omega)]
 by_cases hij:i=j
 ·subst hij;simp
 ·by_cases h2:j≤i
  ·have:¬ (i - j < 1):=by omega
   simp [hij,this]
  ·simp [hij,h2]

theorem in_mask {x m:Int} (h:bits .and .u64 x m=x) (i:Nat) (e:bt x i=true):bt m i=true:=by
 rw [← h,bt_and,Bool.and_eq_true] at e
 exact e.2

theorem of_mask {x m:Int} (hx:U x) (h:∀ i,i < 64→bt x i=true→bt m i=true):bits .and .u64 x m=x :=
 bt_ext _ _ (U_bits _ _ _) hx fun i hi=>by
  rw [bt_and]
  cases e:bt x i with
  | false=>rfl
  | true=>rw [h i hi e];rfl

theorem bitAt_btF (x:Int) (i:Nat) (h:U x):bitAt x i=if bt x i=true then 1 else 0:=by
 unfold bitAt
 rw [and1,bt_div x h,Nat.zero_add]

theorem fld2_bt (x:Int) (h:U x):fld x 11 2=(if bt x 11=true then 1 else 0)+(if bt x 12=true then 2 else 0):=by
 have e:∀ i,i < 64→∀ p q o:Bool,(decide (i < 2)&&(if i=0 then p else if i=1 then q else o))=bt ((if p=true then 1 else 0)+(if q=true then 2 else 0)) i:=by decide +kernel
 refine bt_ext _ _ (U_fld _ _ _ (by omega)) (by constructor<;>(cases bt x 11<;>cases bt x 12<;>decide)) fun i hi=>?_
 rw [bt_fld x h _ _ _ (by omega),← e i hi (bt x 11) (bt x 12) (bt x (i+11))]
 by_cases h0:i=0
 ·subst h0;rfl
 ·by_cases h1:i=1
  ·subst h1;rfl
  ·rw [if_neg h0,if_neg h1]

theorem ok0_of (x:Int) (hx:U x) (h1:∀ i,i < 64→bt x i=true→bt 924074 i=true) (h2:(!bt x 11&&bt x 12)=false):okAt 0 x=true:=by
 have e:mst x=x:=(mst_ok x hx).mpr ⟨of_mask hx h1,h2⟩
 show (mst x==x)=true
 rw [e];exact beq_self_eq_true _

theorem ok0_at (x:Int) (hx:U x) (h:okAt 0 x=true):(∀ i,bt x i=true→bt 924074 i=true)∧(!bt x 11&&bt x 12)=false:=by
 have e:mst x=x:=by
  have:(mst x==x)=true:=h
  simpa using this
 obtain ⟨h1,h2⟩:=(mst_ok x hx).mp e
 exact ⟨in_mask h1,h2⟩

theorem leaveM_bt (s:Int) (h:U s) (i:Nat) (hi:i < 64):bt (leaveM s) i=((bt s i&&!bt 6152 i||(decide (i=3)&&decide (i < 64)&&bt s 7))||bt 128 i):=by
 have f:bt (IntKind.u64.wrap (fld s 7 1*8)) i=(decide (i=3)&&decide (i < 64)&&bt s 7):=fld1_shl s h i 3 7
 unfold leaveM
 rw [bitAt_fld s 7 h,bt_or,bt_or,bt_andNot _ _ _ hi,f]

theorem leaveF_bt (s:Int) (h:U s) (i:Nat) (hi:i < 64):bt (leaveS s false) i=((bt s i&&!bt 131330 i||(decide (i=1)&&decide (i < 64)&&bt s 5))||bt 32 i):=by
 have f:bt (IntKind.u64.wrap (fld s 5 1*2)) i=(decide (i=1)&&decide (i < 64)&&bt s 5):=fld1_shl s h i 1 5
 show bt (bits .or .u64 (bits .or .u64 (bits .andNot .u64 s 131330) (IntKind.u64.wrap (bitAt s 5*2))) 32) i=_
 rw [bitAt_fld s 5 h,bt_or,bt_or,bt_andNot _ _ _ hi,f]

theorem statM_bt (s p:Int) (h:U s) (i:Nat) (hi:i < 64):bt (statM s p) i=((bt s i&&!bt 6280 i||(decide (i=7)&&decide (i < 64)&&bt s 3))||bt (IntKind.u64.wrap (p*2048)) i):=by
 have f:bt (IntKind.u64.wrap (fld s 3 1*128)) i=(decide (i=7)&&decide (i < 64)&&bt s 3):=fld1_shl s h i 7 3
 unfold statM
 rw [bitAt_fld s 3 h,bt_or,bt_or,bt_andNot _ _ _ hi,f]

theorem statS_bt (s:Int) (b:Bool) (h:U s) (i:Nat) (hi:i < 64):bt (statS s b) i=((bt s i&&!bt 290 i||(decide (i=5)&&decide (i < 64)&&bt s 1))||(b&&decide (i=8))):=by
 have f:bt (IntKind.u64.wrap (fld s 1 1*32)) i=(decide (i=5)&&decide (i < 64)&&bt s 1):=fld1_shl s h i 5 1
 have e:∀ i,i < 64→bt 256 i=decide (i=8):=by decide +kernel
 cases b with
 | true =>
   show bt (bits .or .u64 (bits .or .u64 (bits .andNot .u64 s 290) (IntKind.u64.wrap (bitAt s 1*32))) 256) i=_
   rw [bitAt_fld s 1 h,bt_or,bt_or,bt_andNot _ _ _ hi,f,e i hi,Bool.true_and]
 | false =>
   show bt (bits .or .u64 (bits .andNot .u64 s 290) (IntKind.u64.wrap (bitAt s 1*32))) i=_
   rw [bitAt_fld s 1 h,bt_or,bt_andNot _ _ _ hi,f,Bool.false_and,Bool.or_false]

theorem U_leaveS (s:Int) (m:Bool):U (leaveS s m):=by
 cases m with
 | true=>unfold leaveS;show U (if _ then _ else _);split<;>exact U_bits _ _ _
 | false=>unfold leaveS;exact U_bits _ _ _

theorem U_statM (s p:Int):U (statM s p):=U_bits _ _ _

theorem U_statS (s:Int) (b:Bool):U (statS s b):=by cases b<;>(unfold statS;exact U_bits _ _ _)

theorem U_told (k:Nat) (hk:k < 16) (i:Bool):U (toldV k i):=by
 cases i with
 | true=>unfold toldV;exact U_bits _ _ _
 | false=>show U (k:Int);exact ⟨by omega,by omega⟩

theorem wp0:IntKind.u64.wrap ((0:Int)*2048)=0:=by decide

theorem wp1:IntKind.u64.wrap ((1:Int)*2048)=2048:=by decide

theorem wp3:IntKind.u64.wrap ((3:Int)*2048)=6144:=by decide

theorem leaveS_true (s:Int):leaveS s true=if (leaveP s true != 3)=true then bits .andNot .u64 (leaveM s) 131072 else leaveM s:=rfl

theorem leave_ok (s:Int) (h:U s) (m:Bool) (hok:okAt 0 s=true):okAt 0 (leaveS s m)=true:=by
 obtain ⟨h1,h2⟩:=ok0_at s h hok
 cases m with
 | false =>
   have e:∀ i,i < 64→∀ a c:Bool,(a=true→bt 924074 i=true)→((a&&!bt 131330 i||(decide (i=1)&&decide (i < 64)&&c))||bt 32 i)=true→bt 924074 i=true:=by decide +kernel
   refine ok0_of _ (U_leaveS s false) (fun i hi hb=>?_) ?_
   ·rw [leaveF_bt s h i hi] at hb
    exact e i hi _ _ (h1 i) hb
   ·have k1:∀ a c:Bool,((a&&!bt 131330 11||(decide (11=1)&&decide (11 < 64)&&c))||bt 32 11)=a:=by decide +kernel
    have k2:∀ a c:Bool,((a&&!bt 131330 12||(decide (12=1)&&decide (12 < 64)&&c))||bt 32 12)=a:=by decide +kernel
    rw [leaveF_bt s h 11 (by omega),leaveF_bt s h 12 (by omega),k1,k2]
    exact h2
 | true =>
   have e:∀ i,i < 64→∀ a c:Bool,(a=true→bt 924074 i=true)→((a&&!bt 6152 i||(decide (i=3)&&decide (i < 64)&&c))||bt 128 i)=true→bt 924074 i=true:=by decide +kernel
   have k2:∀ a c:Bool,((a&&!bt 6152 12||(decide (12=3)&&decide (12 < 64)&&c))||bt 128 12)=false:=by decide +kernel
   refine ok0_of _ (U_leaveS s true) (fun i hi hb=>?_) ?_
   ·have hb2:bt (leaveM s) i=true:=by
     revert hb
     rw [leaveS_true]
     split
     ·rw [bt_andNot _ _ _ hi];intro hb;exact (Bool.and_eq_true _ _ ▸ hb).1
     ·exact id
    rw [leaveM_bt s h i hi] at hb2
    exact e i hi _ _ (h1 i) hb2
   ·have hb2:bt (leaveS s true) 12=false:=by
     rw [leaveS_true]
     split
     ·rw [bt_andNot _ _ _ (by omega),leaveM_bt s h 12 (by omega),k2];rfl
     ·rw [leaveM_bt s h 12 (by omega),k2]
    rw [hb2,Bool.and_false]

theorem statM_ok (s p:Int) (h:U s) (hp:privB p=true) (hok:okAt 0 s=true):okAt 0 (statM s p)=true:=by
 obtain ⟨h1,h2⟩:=ok0_at s h hok
 have hp3:p=0∨p=1∨p=3:=by simpa [privB,or_assoc] using hp
 refine ok0_of _ (U_statM s p) (fun i hi hb=>?_) ?_
 ·rw [statM_bt s p h i hi] at hb
  have e:∀ i,i < 64→∀ a c:Bool,(a=true→bt 924074 i=true)→(((a&&!bt 6280 i||(decide (i=7)&&decide (i < 64)&&c))||bt 0 i)=true→bt 924074 i=true)∧(((a&&!bt 6280 i||(decide (i=7)&&decide (i < 64)&&c))||bt 2048 i)=true→bt 924074 i=true)∧(((a&&!bt 6280 i||(decide (i=7)&&decide (i < 64)&&c))||bt 6144 i)=true→bt 924074 i=true):=by decide +kernel
  have e:=e i hi _ (bt s 3) (h1 i)
  rcases hp3 with rfl | rfl | rfl
  ·rw [wp0] at hb;exact e.1 hb
  ·rw [wp1] at hb;exact e.2.1 hb
  ·rw [wp3] at hb;exact e.2.2 hb
 ·rw [statM_bt s p h 11 (by omega),statM_bt s p h 12 (by omega)]
  have k:∀ a c d:Bool,(!((a&&!bt 6280 11||(decide (11=7)&&decide (11 < 64)&&c))||bt 0 11)&&((d&&!bt 6280 12||(decide (12=7)&&decide (12 < 64)&&c))||bt 0 12))=false∧(!((a&&!bt 6280 11||(decide (11=7)&&decide (11 < 64)&&c))||bt 2048 11)&&((d&&!bt 6280 12||(decide (12=7)&&decide (12 < 64)&&c))||bt 2048 12))=false∧(!((a&&!bt 6280 11||(decide (11=7)&&decide (11 < 64)&&c))||bt 6144 11)&&((d&&!bt 6280 12||(decide (12=7)&&decide (12 < 64)&&c))||bt 6144 12))=false:=by decide +kernel
  have k:=k (bt s 11) (bt s 3) (bt s 12)
  rcases hp3 with rfl | rfl | rfl
  ·rw [wp0];exact k.1
  ·rw [wp1];exact k.2.1
  ·rw [wp3];exact k.2.2

theorem statS_ok (s:Int) (b:Bool) (h:U s) (hok:okAt 0 s=true):okAt 0 (statS s b)=true:=by
 obtain ⟨h1,h2⟩:=ok0_at s h hok
 refine ok0_of _ (U_statS s b) (fun i hi hb=>?_) ?_
 ·rw [statS_bt s b h i hi] at hb
  have e:∀ i,i < 64→∀ a c b:Bool,(a=true→bt 924074 i=true)→((a&&!bt 290 i||(decide (i=5)&&decide (i < 64)&&c))||(b&&decide (i=8)))=true→bt 924074 i=true:=by decide +kernel
  exact e i hi _ _ _ (h1 i) hb
 ·have k1:∀ a c b:Bool,((a&&!bt 290 11||(decide (11=5)&&decide (11 < 64)&&c))||(b&&decide (11=8)))=a:=by decide +kernel
  have k2:∀ a c b:Bool,((a&&!bt 290 12||(decide (12=5)&&decide (12 < 64)&&c))||(b&&decide (12=8)))=a:=by decide +kernel
  rw [statS_bt s b h 11 (by omega),statS_bt s b h 12 (by omega),k1,k2]
  exact h2

theorem told_ok:∀ k,k < 16→∀ i:Bool,okAt 7 (toldV (k:Nat) i)=true∧okAt 13 (toldV (k:Nat) i)=true:=by decide +kernel

theorem ok_any8 (v:Int):okAt 8 v=true∧okAt 14 v=true:=⟨beq_self_eq_true v,beq_self_eq_true v⟩

theorem pc_ok (x:Int) (h:U x):okAt 6 (bits .andNot .u64 x 3)=true∧okAt 12 (bits .andNot .u64 x 3)=true:=⟨ok_legal x h 6 (by omega) (by omega) (by omega),ok_legal x h 12 (by omega) (by omega) (by omega)⟩

theorem enter_ok (l:List Int) (hz:l.length=22) (hl:∀ j,U (l.getD j 0)) (hok:csrsOk 22 l=true) (d:Bool) (p pc v:Int) (hp:privB p=true) (hpc:U pc) (k:Nat) (hk:k < 16) (i:Bool):csrsOk 22 (enterL l d p (toldV k i) pc v)=true:=by
 have h0:okAt 0 (l.getD 0 0)=true:=right_at hok 0 (by omega)
 cases d with
 | true =>
   refine right_set _ (by simp [hz]) ?_ 0 (by omega) _ (statS_ok _ _ (hl 0) h0)
   refine right_set _ (by simp [hz]) ?_ 14 (by omega) _ (ok_any8 v).2
   refine right_set _ (by simp [hz]) ?_ 12 (by omega) _ (pc_ok pc hpc).2
   exact right_set _ hz hok 13 (by omega) _ (told_ok k hk i).2
 | false =>
   refine right_set _ (by simp [hz]) ?_ 0 (by omega) _ (statM_ok _ p (hl 0) hp h0)
   refine right_set _ (by simp [hz]) ?_ 8 (by omega) _ (ok_any8 v).1
   refine right_set _ (by simp [hz]) ?_ 6 (by omega) _ (pc_ok pc hpc).1
   exact right_set _ hz hok 7 (by omega) _ (told_ok k hk i).1

theorem U_enter (l:List Int) (hl:∀ j,U (l.getD j 0)) (d:Bool) (p pc v:Int) (hv:U v) (k:Nat) (hk:k < 16) (i:Bool):∀ j,U ((enterL l d p (toldV k i) pc v).getD j 0):=by
 have ht:=U_told k hk i
 cases d with
 | true=>exact U_put _ (U_put _ (U_put _ (U_put _ hl 13 _ ht) 12 _ (U_bits _ _ _)) 14 _ hv) 0 _ (U_statS _ _)
 | false=>exact U_put _ (U_put _ (U_put _ (U_put _ hl 7 _ ht) 6 _ (U_bits _ _ _)) 8 _ hv) 0 _ (U_statM _ _)

theorem and3 (x:Int) (h:U x):bits .and .u64 x 3=x % 4:=and_low x 2 h.1 h.2 (by omega)

theorem pc4 (x:Int) (h:okAt 6 x=true∨okAt 12 x=true):bits .and .u64 x 3=0:=by
 have e:bits .andNot .u64 x 3=x:=by
  rcases h with h | h
  ·have:(bits .andNot .u64 x 3==x)=true:=h
   simpa using this
  ·have:(bits .andNot .u64 x 3==x)=true:=h
   simpa using this
 refine bt_ext _ _ (U_bits _ _ _) ⟨by decide,by decide⟩ fun i hi=>?_
 have k:∀ a b:Bool,((a&&!b)&&b)=false:=by decide
 rw [bt_and,← e,bt_andNot _ _ _ hi,k,bt0 i hi]

theorem at4 (x:Int) (k:Nat) (j:Bool) (h:okAt 4 x=true∨okAt 10 x=true):bits .and .u64 (enterAt x k j) 3=0:=by
 have e:bits .andNot .u64 x 2=x:=by
  rcases h with h | h
  ·have:(bits .andNot .u64 x 2==x)=true:=h
   simpa using this
  ·have:(bits .andNot .u64 x 2==x)=true:=h
   simpa using this
 have f:bits .and .u64 (bits .andNot .u64 x 1) 3=0:=by
  refine bt_ext _ _ (U_bits _ _ _) ⟨by decide,by decide⟩ fun i hi=>?_
  have k:∀ i,i < 64→∀ a:Bool,(((a&&!bt 2 i)&&!bt 1 i)&&bt 3 i)=bt 0 i:=by decide +kernel
  rw [bt_and,← e,bt_andNot _ _ _ hi,bt_andNot _ _ _ hi,k i hi]
 cases j with
 | false=>exact f
 | true =>
   show bits .and .u64 (IntKind.u64.wrap (bits .andNot .u64 x 1+IntKind.u64.wrap (4*k))) 3=0
   rw [and3 _ (U_bits _ _ _)] at f
   rw [and3 _ (U_wrap _),IntKind.wrap_u64,IntKind.wrap_u64]
   omega

end Go.Proofs.YtbajeckeeekhnaaGreat
