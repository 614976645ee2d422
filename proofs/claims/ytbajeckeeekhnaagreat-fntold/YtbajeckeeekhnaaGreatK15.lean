/- Own lemmas. -/
import Derived.Test.YtbajeckeeekhnaaGreatK01
import Derived.Test.YtbajeckeeekhnaaGreatK02
import Derived.Test.YtbajeckeeekhnaaGreatK03
import Derived.Test.YtbajeckeeekhnaaGreatK04
import Derived.Test.YtbajeckeeekhnaaGreatK14
namespace Go.Proofs.YtbajeckeeekhnaaGreat
open Go.RowKit
set_option linter.unusedVariables false

theorem known_cases (n:Int) (h:knownB n=true):n=3860∨n=769∨n ∈ nums:=by
 by_cases hn:n ∈ nums
 ·exact .inr (.inr hn)
 ·simp only [knownB,placeV_none n hn,Bool.or_eq_true,beq_iff_eq,decide_eq_true_eq] at h
  omega

theorem at_fld (l:List Int) (h:U (l.getD 16 0)) (k:Nat):cfgAt l k=fld (l.getD 16 0) (8*k) 8:=bitsAt_eq _ (8*k) 8 h.1 h.2 (by omega)

theorem lock8:∀ z:Nat,z < 256→(bits .and .u64 (z:Int) 128 != 0)=((z:Int) / 128==1):=by decide +kernel

theorem lock_eq (l:List Int) (h:U (l.getD 16 0)) (k:Nat):lockI (l.getD 16 0) k=(cfgAt l k / 128==1):=by
 rw [at_fld l h]
 unfold lockI
 have hb:=fld_bd (l.getD 16 0) (8*k) 8
 obtain ⟨z,hz⟩:=Int.eq_ofNat_of_zero_le hb.1
 rw [hz] at hb ⊢
 exact lock8 z (by have:((2:Int) ^ 8)=256:=by decide
                   omega)

theorem U_keep (l:List Int) (y:Int) (h:U y):∀ k,U (cfgKeep l y k):=by
 intro k
 induction k with
 | zero=>exact h
 | succ k ih =>
   rw [cfgKeep]
   split
   ·exact U_bits _ _ _
   ·exact ih

theorem keep_bits (l:List Int) (h:U (l.getD 16 0)) (y:Int) (i:Nat) (hi:i < 64):∀ k,bt (cfgKeep l y k) i=if bt (stayI (l.getD 16 0) k) i=true then bt (l.getD 16 0) i else bt y i:=by
 intro k
 induction k with
 | zero =>
   have h0:bt 0 i=false:=by unfold bt;simp
   show bt y i=if bt 0 i=true then _ else _
   rw [h0,if_neg (by decide)]
 | succ k ih =>
   rw [cfgKeep,stayI,lock_eq l h]
   cases (cfgAt l k / 128==1) with
   | false=>exact ih
   | true =>
     rw [if_pos rfl,if_pos rfl,bt_or,bt_andNot _ _ _ hi,bt_and,bt_or,ih]
     cases bt (IntKind.u64.wrap (255*2 ^ (8*k))) i<;>cases bt (stayI (l.getD 16 0) k) i<;>cases bt (l.getD 16 0) i<;>cases bt y i<;>rfl

theorem lit159h:∀ i,i < 64→8≤i→bt 159 i=false:=by decide +kernel

theorem bt_byte (x:Int) (k i:Nat) (hi:8≤i):bt (cfgByte x k) i=false:=by
 by_cases h64:i < 64
 ·unfold cfgByte
  split
  ·rw [bt_andNot _ _ _ h64,bt_and,lit159h i h64 hi,Bool.and_false,Bool.false_and]
  ·rw [bt_and,lit159h i h64 hi,Bool.and_false]
 ·exact bt_high _ _ (by omega)

theorem U_byte (x:Int) (k:Nat):U (cfgByte x k):=by
 unfold cfgByte;split<;>exact U_bits _ _ _

theorem okRest_at (l:List Int):∀ n k,okRest l n k=true→∀ j,k≤j→j < k+n→okAt j (l.getD j 0)=true:=by
 intro n
 induction n with
 | zero=>intro k _ j h1 h2;omega
 | succ n ih =>
   intro k h j h1 h2
   rw [okRest,Bool.and_eq_true] at h
   by_cases hj:j=k
   ·subst hj;exact h.1
   ·exact ih (k+1) h.2 j (by omega) (by omega)

theorem right_at {m:Nat} {l:List Int} (h:csrsOk m l=true) (j:Nat) (hj:j < 22):okAt j (l.getD j 0)=true:=by
 simp only [csrsOk,Bool.and_eq_true,decide_eq_true_eq] at h
 exact okRest_at l 22 0 h.2 j (by omega) (by omega)

theorem and1 (b:Int):bits .and .u64 b 1=if bt b 0=true then 1 else 0:=by
 have h1:∀ i,i < 64→∀ (p o:Bool),((if i=0 then p else o)&&bt 1 i)=bt (if p=true then 1 else 0) i:=by decide +kernel
 refine bt_ext _ _ (U_bits _ _ _) (by split<;>(constructor<;>decide)) fun i hi=>?_
 rw [bt_and,← h1 i hi (bt b 0) (bt b i)]
 by_cases h0:i=0
 ·subst h0;rfl
 ·rw [if_neg h0]

theorem mst_test (x:Int):(bits .and .u64 x 6144==4096)=(!bt x 11&&bt x 12):=by
 have e2:bits .and .u64 x 6144=(if bt x 11=true then 2048 else 0)+(if bt x 12=true then 4096 else 0):=by
  refine bt_ext _ _ (U_bits _ _ _) (by constructor<;>(cases bt x 11<;>cases bt x 12<;>decide)) fun i hi=>?_
  rw [bt_and,← bit12 i hi (bt x 11) (bt x 12) (bt x i)]
  by_cases h0:i=11
  ·subst h0;rfl
  ·by_cases h1:i=12
   ·subst h1;rfl
   ·rw [if_neg h0,if_neg h1]
 rw [e2]
 cases bt x 11<;>cases bt x 12<;>rfl

theorem mst_def (x:Int) (h:U x):mst x=if (!bt x 11&&bt x 12)=true then bits .andNot .u64 (bits .and .u64 x 924074) 6144 else bits .and .u64 x 924074:=by
 rw [← mst_eq x h,← mst_test]
 rfl

theorem m11:bt 924074 11=true∧bt 924074 12=true∧bt 6144 11=true∧bt 6144 12=true∧bt 786722 11=false∧bt 786722 12=false:=by decide +kernel

theorem mst_ok (x:Int) (h:U x):mst x=x↔bits .and .u64 x 924074=x∧(!bt x 11&&bt x 12)=false:=by
 rw [mst_def x h]
 constructor
 ·intro e
  cases hc:(!bt x 11&&bt x 12) with
  | true =>
    rw [hc,if_pos rfl] at e
    have:bt x 12=false:=by rw [← e,bt_andNot _ _ _ (by omega),m11.2.2.2.1];simp
    rw [this,Bool.and_false] at hc
    cases hc
  | false=>rw [hc,if_neg (by decide)] at e;exact ⟨e,rfl⟩
 ·rintro ⟨e,hc⟩
  rw [hc,if_neg (by decide)];exact e

theorem U_mst (x:Int):U (mst x):=by unfold mst;split<;>exact U_bits _ _ _

theorem mst_idem (x:Int) (h:U x):mst (mst x)=mst x:=by
 rw [mst_ok _ (U_mst x)]
 rw [mst_def x h]
 cases hc:(!bt x 11&&bt x 12) with
 | true =>
   rw [if_pos rfl]
   refine ⟨bt_ext _ _ (U_bits _ _ _) (U_bits _ _ _) fun i hi=>?_,?_⟩
   ·rw [bt_and,bt_andNot _ _ _ hi,bt_and]
    cases bt x i<;>cases bt 924074 i<;>cases bt 6144 i<;>rfl
   ·rw [bt_andNot _ _ 12 (by omega),m11.2.2.2.1];simp
 | false =>
   rw [if_neg (by decide)]
   refine ⟨bt_ext _ _ (U_bits _ _ _) (U_bits _ _ _) fun i hi=>?_,?_⟩
   ·rw [bt_and,bt_and]
    cases bt x i<;>cases bt 924074 i<;>rfl
   ·rw [bt_and,bt_and,m11.1,m11.2.1,Bool.and_true,Bool.and_true];exact hc

theorem sub256:∀ i,i < 64→∀ a:Bool,((a&&bt 786722 i)&&bt 924074 i)=(a&&bt 786722 i):=by decide +kernel

theorem mst_mix (y x:Int) (hy:U y) (h:mst y=y):mst (mixV y 786722 x)=mixV y 786722 x:=by
 obtain ⟨h1,h2⟩:=(mst_ok y hy).mp h
 unfold mixV
 rw [mst_ok _ (U_bits _ _ _)]
 refine ⟨bt_ext _ _ (U_bits _ _ _) (U_bits _ _ _) fun i hi=>?_,?_⟩
 ·have hb:bt y i=(bt y i&&bt 924074 i):=by conv=>lhs;rw [← h1,bt_and]
  have hs:=sub256 i hi (bt x i)
  rw [bt_and,bt_or,bt_andNot _ _ _ hi,bt_and,hb]
  revert hs
  cases bt y i<;>cases bt 924074 i<;>cases bt 786722 i<;>cases bt x i<;>decide
 ·rw [bt_or,bt_or,bt_andNot _ _ 11 (by omega),bt_andNot _ _ 12 (by omega),bt_and,bt_and,m11.2.2.2.2.1,m11.2.2.2.2.2]
  simpa using h2

theorem and_idem (x m:Int):bits .and .u64 (bits .and .u64 x m) m=bits .and .u64 x m :=
 bt_ext _ _ (U_bits _ _ _) (U_bits _ _ _) fun i hi=>by rw [bt_and,bt_and];cases bt x i<;>cases bt m i<;>rfl

theorem andNot_idem (x m:Int):bits .andNot .u64 (bits .andNot .u64 x m) m=bits .andNot .u64 x m :=
 bt_ext _ _ (U_bits _ _ _) (U_bits _ _ _) fun i hi=>by rw [bt_andNot _ _ _ hi,bt_andNot _ _ _ hi];cases bt x i<;>cases bt m i<;>rfl

def cfgB (x:Int) (i:Nat):Bool:=bt x i&&bt 159 (i % 8)&&!(decide (i % 8=1)&&!bt x (i - 1))

theorem bit2:∀ j,j < 64→bt 2 j=decide (j=1):=by decide +kernel

theorem bit0159:bt 159 0=true:=by decide +kernel

theorem byte_bits (x:Int) (h:U x) (k j:Nat) (hj:j < 64):bt (cfgByte x k) j=(bt x (j+8*k)&&bt 159 j&&!(decide (j=1)&&!bt x (8*k))):=by
 unfold cfgByte
 have hd:∀ i,bt (x / 2 ^ (8*k)) i=bt x (i+8*k):=fun i=>bt_div x h (8*k) i
 generalize x / 2 ^ (8*k)=z at *
 have h0:bt x (8*k)=bt z 0:=by rw [hd 0,Nat.zero_add]
 rw [h0,← hd j,and1,bt_and,bit0159,Bool.and_true]
 cases hz:bt z 0 with
 | true =>
   rw [if_pos rfl,if_neg (by decide),bt_and];simp
 | false =>
   rw [if_neg (show ¬ (false=true) from by decide),if_pos (show ((0:Int)==0)=true from rfl),bt_andNot _ _ _ hj,bt_and,bit2 j hj];simp

theorem sum_bits (x:Int) (h:U x) (i:Nat) (hi:i < 64):∀ k,k≤4→bt (cfgSum x k) i=(decide (i < 8*k)&&cfgB x i):=by
 intro k
 induction k with
 | zero=>intro _;rw [cfgSum];have:bt 0 i=false:=by unfold bt;simp
         rw [this];simp
 | succ k ih =>
   intro hk
   rw [cfgSum,bt_or,ih (by omega),bt_shl _ (U_byte x k)]
   by_cases h1:i < 8*k
   ·have h2:¬ 8*k≤i:=by omega
    have h3:i < 8*(k+1):=by omega
    simp [h1,h2,h3]
   ·have h2:8*k≤i:=by omega
    by_cases h3:i < 8*(k+1)
    ·have hm:i % 8=i - 8*k:=by omega
     rw [byte_bits x h k _ (by omega)]
     unfold cfgB
     rw [hm,show i - 8*k+8*k=i from by omega]
     by_cases h4:i - 8*k=1
     ·rw [show i - 1=8*k from by omega]
      simp [h1,h2,h3,hi]
     ·simp [h1,h2,h3,hi,h4]
    ·rw [bt_byte x k _ (by omega)]
     simp [h1,h3]

theorem cfg_ok (c:Int) (h:U c):legal 16 c=c↔∀ i,i < 64→bt c i=(decide (i < 32)&&cfgB c i):=by
 show cfgSum c 4=c↔_
 constructor
 ·intro e i hi
  have:=sum_bits c h i hi 4 (by omega)
  rw [e] at this
  exact this
 ·intro hb
  refine bt_ext _ _ (by rw [cfgSum];exact U_bits _ _ _) h fun i hi=>?_
  rw [sum_bits c h i hi 4 (by omega),hb i hi]

theorem cfgB_idem (x:Int) (h:U x) (i:Nat) (hi:i < 32):cfgB (cfgSum x 4) i=cfgB x i:=by
 have s:∀ j,j < 32→bt (cfgSum x 4) j=cfgB x j:=fun j hj=>by rw [sum_bits x h j (by omega) 4 (by omega)];simp [show j < 8*4 from by omega]
 show (bt (cfgSum x 4) i&&bt 159 (i % 8)&&!(decide (i % 8=1)&&!bt (cfgSum x 4) (i - 1)))=cfgB x i
 rw [s i hi,s (i - 1) (by omega)]
 by_cases h1:i % 8=1
 ·have hm:(i - 1) % 8=0:=by omega
  unfold cfgB
  rw [hm,h1,bit0159]
  cases bt x i<;>cases bt 159 1<;>cases bt x (i - 1)<;>simp
 ·unfold cfgB
  simp only [h1,decide_false,Bool.false_and,Bool.not_false,Bool.and_true]
  cases bt x i<;>cases bt 159 (i % 8)<;>rfl

theorem sum_legal (x:Int) (h:U x):legal 16 (cfgSum x 4)=cfgSum x 4:=by
 rw [cfg_ok _ (by rw [cfgSum];exact U_bits _ _ _)]
 intro i hi
 rw [sum_bits x h i hi 4 (by omega)]
 by_cases h1:i < 32
 ·rw [cfgB_idem x h i h1]
 ·simp [h1]

theorem bit255:∀ j,j < 64→bt 255 j=decide (j < 8):=by decide +kernel

theorem stay_bits (c:Int) (i:Nat) (hi:i < 64):∀ k,k≤4→bt (stayI c k) i=(decide (i < 8*k)&&lockI c (i / 8)):=by
 intro k
 induction k with
 | zero=>intro _;rw [stayI];have:bt 0 i=false:=by unfold bt;simp
         rw [this];simp
 | succ k ih =>
   intro hk
   rw [stayI]
   by_cases h1:i < 8*k
   ·have h3:i < 8*(k+1):=by omega
    have h2:¬ 8*k≤i:=by omega
    cases lockI c k with
    | true=>rw [if_pos rfl,bt_or,ih (by omega),bt_shl _ (by constructor<;>decide)];simp [h1,h2,h3]
    | false=>rw [if_neg (by decide),ih (by omega)];simp [h1,h3]
   ·have h2:8*k≤i:=by omega
    by_cases h3:i < 8*(k+1)
    ·have hq:i / 8=k:=by omega
     rw [hq]
     cases lockI c k with
     | true=>rw [if_pos rfl,bt_or,ih (by omega),bt_shl _ (by constructor<;>decide),bit255 _ (by omega)];simp [h1,h2,h3,hi];omega
     | false=>rw [if_neg (by decide),ih (by omega)];simp [h1]
    ·cases lockI c k with
     | true=>rw [if_pos rfl,bt_or,ih (by omega),bt_shl _ (by constructor<;>decide),bit255 _ (by omega)];simp [h1,h3];omega
     | false=>rw [if_neg (by decide),ih (by omega)];simp [h1,h3]

theorem keep_legal (l:List Int) (h:U (l.getD 16 0)) (hc:legal 16 (l.getD 16 0)=l.getD 16 0) (f:Int) (hf:U f) (hl:legal 16 f=f):legal 16 (cfgKeep l f 4)=cfgKeep l f 4:=by
 have hb:=fun i hi=>keep_bits l h f i hi 4
 rw [cfg_ok _ (U_keep l f hf 4)]
 have k1:=(cfg_ok _ h).mp hc
 have k2:=(cfg_ok _ hf).mp hl
 have st:=fun i hi=>stay_bits (l.getD 16 0) i hi 4 (by omega)
 intro i hi
 have a1:=k1 i hi
 have a2:=k2 i hi
 unfold cfgB at a1 a2 ⊢
 by_cases h1:i % 8=1
 ·have e1:(i - 1) / 8=i / 8:=by omega
  have sb:=st i hi
  have sb1:=st (i - 1) (by omega)
  rw [hb i hi,hb (i - 1) (by omega)]
  have hlt:decide (i - 1 < 8*4)=decide (i < 8*4):=by
   by_cases h2:i < 8*4
   ·simp [h2];omega
   ·simp [h2];omega
  rw [e1,hlt,← sb] at sb1
  rw [sb1]
  cases bt (stayI (l.getD 16 0) 4) i with
  | true=>rw [if_pos rfl,if_pos rfl];exact a1
  | false=>rw [if_neg (by decide),if_neg (by decide)];exact a2
 ·rw [hb i hi]
  simp only [h1,decide_false,Bool.false_and,Bool.not_false,Bool.and_true] at a1 a2 ⊢
  cases bt (stayI (l.getD 16 0) 4) i with
  | true=>rw [if_pos rfl];exact a1
  | false=>rw [if_neg (by decide)];exact a2

theorem legal_idem (x:Int) (h:U x) (k:Nat) (hk:k < 22):legal k (legal k x)=legal k x:=by
 have:k=0∨k=1∨k=2∨k=3∨k=4∨k=5∨k=6∨k=7∨k=8∨k=9∨k=10∨k=11∨k=12∨k=13∨k=14∨k=15∨k=16∨k=17∨k=18∨k=19∨k=20∨k=21:=by omega
 rcases this with rfl | rfl | rfl | rfl | rfl | rfl | rfl | rfl | rfl | rfl | rfl | rfl | rfl | rfl | rfl | rfl | rfl | rfl | rfl | rfl | rfl | rfl
 ·exact mst_idem x h
 ·exact and_idem x 46079
 ·exact and_idem x 546
 ·exact and_idem x 2730
 ·exact andNot_idem x 2
 ·rfl
 ·exact andNot_idem x 3
 ·exact and_idem x 9223372036854775823
 ·rfl
 ·rfl
 ·exact andNot_idem x 2
 ·rfl
 ·exact andNot_idem x 3
 ·exact and_idem x 9223372036854775823
 ·rfl
 ·rfl
 ·exact sum_legal x h
 ·exact and_idem x 18014398509481983
 ·exact and_idem x 18014398509481983
 ·exact and_idem x 18014398509481983
 ·exact and_idem x 18014398509481983
 ·rfl

theorem okRest_of (l:List Int):∀ n k,(∀ j,k≤j→j < k+n→okAt j (l.getD j 0)=true)→okRest l n k=true:=by
 intro n
 induction n with
 | zero=>intro k _;rfl
 | succ n ih =>
   intro k h
   rw [okRest,Bool.and_eq_true]
   exact ⟨h k (by omega) (by omega),ih (k+1) fun j h1 h2=>h j (by omega) (by omega)⟩

theorem right_of (l:List Int) (h:∀ j,j < 22→okAt j (l.getD j 0)=true):csrsOk 22 l=true:=by
 simp only [csrsOk,Bool.and_eq_true,decide_eq_true_eq]
 exact ⟨trivial,okRest_of l 22 0 fun j _ hj=>h j (by omega)⟩

theorem getD_setk (l:List Int) (k:Nat) (v:Int) (hk:k < l.length):(l.set k v).getD k 0=v:=by
 simp [List.getD,hk]

theorem getD_setj (l:List Int) (k j:Nat) (v:Int) (hkj:k≠j):(l.set k v).getD j 0=l.getD j 0:=by
 simp [List.getD,hkj]

theorem right_set (l:List Int) (hz:l.length=22) (hok:csrsOk 22 l=true) (k:Nat) (hk:k < 22) (v:Int) (h:okAt k v=true):csrsOk 22 (l.set k v)=true:=by
 refine right_of _ fun j hj=>?_
 by_cases e:k=j
 ·subst e;rw [getD_setk l k v (by omega)];exact h
 ·rw [getD_setj l k j v e];exact right_at hok j hj

theorem ok_legal (x:Int) (h:U x) (k:Nat) (hk:k < 22) (h9:k≠9) (h15:k≠15):okAt k (legal k x)=true:=by
 unfold okAt
 rw [if_neg h9,if_neg h15,legal_idem x h k hk]
 exact beq_self_eq_true _

theorem mix_mip (y m x:Int) (hy:bits .and .u64 y 2730=y) (hm:∀ i,i < 64→bt m i=true→bt 2730 i=true):bits .and .u64 (mixV y m x) 2730=mixV y m x:=by
 unfold mixV
 refine bt_ext _ _ (U_bits _ _ _) (U_bits _ _ _) fun i hi=>?_
 have hb:bt y i=(bt y i&&bt 2730 i):=by conv=>lhs;rw [← hy,bt_and]
 have h2:=hm i hi
 rw [bt_and,bt_or,bt_andNot _ _ _ hi,bt_and,hb]
 cases hmi:bt m i with
 | false=>cases bt y i<;>cases bt 2730 i<;>cases bt x i<;>rfl
 | true=>rw [h2 hmi];cases bt y i<;>cases bt x i<;>rfl

theorem in546:∀ i,i < 64→bt 546 i=true→bt 2730 i=true:=by decide +kernel

theorem in2:∀ i,i < 64→bt 2 i=true→bt 2730 i=true:=by decide +kernel

theorem put_right (l:List Int) (hz:l.length=22) (hl:∀ j,U (l.getD j 0)) (hok:csrsOk 22 l=true) (k:Nat) (hk:k < 22) (x:Int) (hx:U x):csrsOk 22 (putV l k x)=true:=by
 have h9:bits .and .u64 (l.getD 9 0) 2730=l.getD 9 0:=eq_of_beq (right_at hok 9 (by omega))
 have h16:legal 16 (l.getD 16 0)=l.getD 16 0:=eq_of_beq (right_at hok 16 (by omega))
 unfold putV
 by_cases e9:k=9
 ·subst e9
  rw [if_pos (show (((9:Nat):Int)=9) from rfl)]
  refine right_set l hz hok 9 (by omega) _ ?_
  show (bits .and .u64 (mixV (l.getD 9 0) 546 x) 2730==mixV (l.getD 9 0) 546 x)=true
  rw [mix_mip _ _ _ h9 in546]
  exact beq_self_eq_true _
 ·rw [if_neg (by omega)]
  by_cases e15:k=15
  ·subst e15
   rw [if_pos (show (((15:Nat):Int)=15) from rfl)]
   cases hc:((x / 1152921504606846976==0)||(x / 1152921504606846976==8)) with
   | true=>rw [if_pos rfl];exact right_set l hz hok 15 (by omega) _ hc
   | false=>rw [if_neg (by decide)];exact hok
  ·rw [if_neg (by omega)]
   by_cases e16:k=16
   ·subst e16
    rw [if_pos (show (((16:Nat):Int)=16) from rfl)]
    refine right_set l hz hok 16 (by omega) _ ?_
    show (legal 16 (cfgKeep l (legal 16 x) 4)==cfgKeep l (legal 16 x) 4)=true
    rw [keep_legal l (hl 16) h16 (legal 16 x) (by show U (cfgSum x 4);rw [cfgSum];exact U_bits _ _ _) (sum_legal x hx)]
    exact beq_self_eq_true _
   ·rw [if_neg (by omega)]
    split
    ·split
     ·exact hok
     ·rw [Int.toNat_natCast];exact right_set l hz hok k hk _ (ok_legal x hx k hk e9 e15)
    ·rw [Int.toNat_natCast];exact right_set l hz hok k hk _ (ok_legal x hx k hk e9 e15)

inductive WayF (n:Int):Prop where
 | fixed (h:n=769∨n=3860)
 | st (h:n=256)
 | ie (h:n=260)
 | ip (h:n=324)
 | own (k:Nat) (hk:k < 22) (hw:∀ l x,writeV l n x=putV l k x) (hr:∀ l,readV l n=l.getD k 0) (hp:placeV n=k)

theorem way_of (n:Int) (h:knownB n=true):WayF n:=by
 rcases known_cases n h with rfl | rfl | h2
 ·exact .fixed (.inr rfl)
 ·exact .fixed (.inl rfl)
 ·rcases nums_cases n h2 with rfl | rfl | rfl | rfl | rfl | rfl | rfl | rfl | rfl | rfl | rfl | rfl | rfl | rfl | rfl | rfl | rfl | rfl | rfl | rfl | rfl | rfl | rfl | rfl | rfl
  ·exact .own 0 (by omega) (fun _ _=>rfl) (fun _=>rfl) rfl
  ·exact .own 1 (by omega) (fun _ _=>rfl) (fun _=>rfl) rfl
  ·exact .own 2 (by omega) (fun _ _=>rfl) (fun _=>rfl) rfl
  ·exact .own 3 (by omega) (fun _ _=>rfl) (fun _=>rfl) rfl
  ·exact .own 4 (by omega) (fun _ _=>rfl) (fun _=>rfl) rfl
  ·exact .own 5 (by omega) (fun _ _=>rfl) (fun _=>rfl) rfl
  ·exact .own 6 (by omega) (fun _ _=>rfl) (fun _=>rfl) rfl
  ·exact .own 7 (by omega) (fun _ _=>rfl) (fun _=>rfl) rfl
  ·exact .own 8 (by omega) (fun _ _=>rfl) (fun _=>rfl) rfl
  ·exact .own 9 (by omega) (fun _ _=>rfl) (fun _=>rfl) rfl
  ·exact .own 10 (by omega) (fun _ _=>rfl) (fun _=>rfl) rfl
  ·exact .own 11 (by omega) (fun _ _=>rfl) (fun _=>rfl) rfl
  ·exact .own 12 (by omega) (fun _ _=>rfl) (fun _=>rfl) rfl
  ·exact .own 13 (by omega) (fun _ _=>rfl) (fun _=>rfl) rfl
  ·exact .own 14 (by omega) (fun _ _=>rfl) (fun _=>rfl) rfl
  ·exact .own 15 (by omega) (fun _ _=>rfl) (fun _=>rfl) rfl
  ·exact .own 16 (by omega) (fun _ _=>rfl) (fun _=>rfl) rfl
  ·exact .own 17 (by omega) (fun _ _=>rfl) (fun _=>rfl) rfl
  ·exact .own 18 (by omega) (fun _ _=>rfl) (fun _=>rfl) rfl
  ·exact .own 19 (by omega) (fun _ _=>rfl) (fun _=>rfl) rfl
  ·exact .own 20 (by omega) (fun _ _=>rfl) (fun _=>rfl) rfl
  ·exact .own 21 (by omega) (fun _ _=>rfl) (fun _=>rfl) rfl
  ·exact .st rfl
  ·exact .ie rfl
  ·exact .ip rfl

theorem write_right (l:List Int) (hz:l.length=22) (hl:∀ j,U (l.getD j 0)) (hok:csrsOk 22 l=true) (n x:Int) (hx:U x) (h:knownB n=true):csrsOk 22 (writeV l n x)=true:=by
 have h0:mst (l.getD 0 0)=l.getD 0 0:=eq_of_beq (right_at hok 0 (by omega))
 have h9:bits .and .u64 (l.getD 9 0) 2730=l.getD 9 0:=eq_of_beq (right_at hok 9 (by omega))
 cases way_of n h with
 | fixed h2=>unfold writeV;rw [if_pos h2];exact hok
 | st h2 =>
   subst h2
   show csrsOk 22 (l.set 0 (mixV (l.getD 0 0) 786722 x))=true
   refine right_set l hz hok 0 (by omega) _ ?_
   show (mst (mixV (l.getD 0 0) 786722 x)==mixV (l.getD 0 0) 786722 x)=true
   rw [mst_mix _ _ (hl 0) h0];exact beq_self_eq_true _
 | ie h2 =>
   subst h2
   show csrsOk 22 (l.set 3 (legal 3 (mixV (l.getD 3 0) (l.getD 2 0) x)))=true
   exact right_set l hz hok 3 (by omega) _ (ok_legal _ (U_bits _ _ _) 3 (by omega) (by omega) (by omega))
 | ip h2 =>
   subst h2
   show csrsOk 22 (l.set 9 (mixV (l.getD 9 0) (bits .and .u64 (l.getD 2 0) 2) x))=true
   refine right_set l hz hok 9 (by omega) _ ?_
   show (bits .and .u64 (mixV (l.getD 9 0) (bits .and .u64 (l.getD 2 0) 2) x) 2730==mixV (l.getD 9 0) (bits .and .u64 (l.getD 2 0) 2) x)=true
   rw [mix_mip _ _ _ h9 (fun i hi hb=>by rw [bt_and,Bool.and_eq_true] at hb;exact in2 i hi hb.2)]
   exact beq_self_eq_true _
 | own k hk hw hr hp=>rw [hw];exact put_right l hz hl hok k hk x hx

theorem U_put (l:List Int) (hl:∀ j,U (l.getD j 0)) (k:Nat) (v:Int) (hv:U v) (j:Nat):U ((l.set k v).getD j 0):=by
 by_cases e:k=j
 ·subst e
  by_cases hk:k < l.length
  ·rw [getD_setk l k v hk];exact hv
  ·rw [List.set_eq_of_length_le (by omega)];exact hl k
 ·rw [getD_setj l k j v e];exact hl j

theorem U_leg (p x:Int) (h:U x):U (legal p x):=by
 unfold legal
 split
 ·exact U_mst x
 ·split
  ·exact U_bits _ _ _
  ·split
   ·exact U_bits _ _ _
   ·split
    ·exact U_bits _ _ _
    ·split
     ·exact U_bits _ _ _
     ·split
      ·exact U_bits _ _ _
      ·split
       ·exact U_bits _ _ _
       ·split
        ·rw [cfgSum];exact U_bits _ _ _
        ·split
         ·exact U_bits _ _ _
         ·exact h

theorem U_write (l:List Int) (hl:∀ j,U (l.getD j 0)) (n x:Int) (hx:U x) (j:Nat):U ((writeV l n x).getD j 0):=by
 unfold writeV
 split
 ·exact hl j
 ·split
  ·exact U_put l hl _ _ (U_bits _ _ _) j
  ·split
   ·exact U_put l hl _ _ (U_leg _ _ (U_bits _ _ _)) j
   ·split
    ·exact U_put l hl _ _ (U_bits _ _ _) j
    ·unfold putV
     split
     ·exact U_put l hl _ _ (U_bits _ _ _) j
     ·split
      ·split
       ·exact U_put l hl _ _ hx j
       ·exact hl j
      ·split
       ·exact U_put l hl _ _ (U_keep l _ (U_leg _ _ hx) 4) j
       ·split
        ·split
         ·exact hl j
         ·exact U_put l hl _ _ (U_leg _ _ hx) j
        ·exact U_put l hl _ _ (U_leg _ _ hx) j

theorem bitAt_bt (x:Int) (h:U x) (i:Nat):bitAt x i=if bt x i=true then 1 else 0:=by
 have e1:∀ i,i < 64→∀ (p o:Bool),((if i=0 then p else o)&&bt 1 i)=bt (if p=true then 1 else 0) i:=by decide +kernel
 unfold bitAt
 have e:∀ y:Int,bits .and .u64 y 1=if bt y 0=true then 1 else 0:=by
  intro y
  refine bt_ext _ _ (U_bits _ _ _) (by split<;>(constructor<;>decide)) fun j hj=>?_
  rw [bt_and,← e1 j hj (bt y 0) (bt y j)]
  by_cases h0:j=0
  ·subst h0;rfl
  ·rw [if_neg h0]
 rw [e,bt_div x h,Nat.zero_add]

theorem pageC_ne (k:Int):pageC k≠0:=by unfold pageC;split<;>(try split)<;>decide

theorem faultC_ne (k:Int):faultC k≠0:=by unfold faultC;split<;>(try split)<;>decide

theorem leaf_led (l:List Int) (p va kind e x:Int) (lv:Nat) (h:(leafV l p va kind e x lv).code=0) :
 offB e lv=false∧noKind l kind e=false∧noPriv l p kind e=false∧(((wantV e kind != e)=true∧permRest l 1 x (lastOf x 8) 3 4 0=true∧leafV l p va kind e x lv=⟨leadV e va lv,0,true,x,wantV e kind⟩)∨((wantV e kind != e)=false∧leafV l p va kind e x lv=⟨leadV e va lv,0,false,0,0⟩)):=by
 unfold leafV at h ⊢
 cases h1:offB e lv with
 | true=>rw [h1,if_pos rfl] at h;exact absurd h (pageC_ne kind)
 | false =>
   rw [h1,if_neg (by decide)] at h
   cases h2:noKind l kind e with
   | true=>rw [h2,if_pos rfl] at h;exact absurd h (pageC_ne kind)
   | false =>
     rw [h2,if_neg (by decide)] at h
     cases h3:noPriv l p kind e with
     | true=>rw [h3,if_pos rfl] at h;exact absurd h (pageC_ne kind)
     | false =>
       rw [h3,if_neg (by decide)] at h
       refine ⟨rfl,rfl,rfl,?_⟩
       cases h4:(wantV e kind != e) with
       | true =>
         rw [h4,if_pos rfl] at h
         cases h5:permRest l 1 x (lastOf x 8) 3 4 0 with
         | true=>exact .inl ⟨rfl,rfl,rfl⟩
         | false=>rw [h5,if_neg (by decide)] at h;exact absurd h (faultC_ne kind)
       | false=>exact .inr ⟨rfl,rfl⟩

theorem walkL_ends (zs:List Int) (n:Nat) (l:List Int) (p va kind:Int):∀ lv T,lv≤2 →
 ((walkL zs n l p va kind lv T).code=0∧(∃ e k,k≤2∧(walkL zs n l p va kind lv T).addr=leadV e va k)∧((walkL zs n l p va kind lv T).marked=false→walkL zs n l p va kind lv T=⟨(walkL zs n l p va kind lv T).addr,0,false,0,0⟩)) ∨
 ((walkL zs n l p va kind lv T).code≠0∧(walkL zs n l p va kind lv T).addr=0∧(walkL zs n l p va kind lv T).marked=false):=by
 have leaf:∀ e x k,k≤2→((leafV l p va kind e x k).code=0∧(∃ e' k',k'≤2∧(leafV l p va kind e x k).addr=leadV e' va k')∧((leafV l p va kind e x k).marked=false→leafV l p va kind e x k=⟨(leafV l p va kind e x k).addr,0,false,0,0⟩))∨((leafV l p va kind e x k).code≠0∧(leafV l p va kind e x k).addr=0∧(leafV l p va kind e x k).marked=false):=by
  intro e x k hk
  by_cases hc:(leafV l p va kind e x k).code=0
  ·obtain ⟨_,_,_,⟨_,_,hL⟩ | ⟨_,hL⟩⟩:=leaf_led _ _ _ _ _ _ _ hc
   ·rw [hL];exact .inl ⟨rfl,⟨e,k,hk,rfl⟩,fun h=>by cases h⟩
   ·rw [hL];exact .inl ⟨rfl,⟨e,k,hk,rfl⟩,fun _=>rfl⟩
  ·refine .inr ⟨hc,?_⟩
   unfold leafV at hc ⊢
   split
   ·exact ⟨rfl,rfl⟩
   ·rename_i h1
    rw [if_neg h1] at hc
    split
    ·exact ⟨rfl,rfl⟩
    ·rename_i h2
     rw [if_neg h2] at hc
     split
     ·exact ⟨rfl,rfl⟩
     ·rename_i h3
      rw [if_neg h3] at hc
      split
      ·rename_i h4
       rw [if_pos h4] at hc
       split
       ·rename_i h5
        rw [if_pos h5] at hc
        exact absurd rfl hc
       ·exact ⟨rfl,rfl⟩
      ·rename_i h4
       rw [if_neg h4] at hc
       exact absurd rfl hc
 intro lv
 induction lv with
 | zero =>
   intro T _
   rw [walkL]
   split
   ·split
    ·split
     ·exact .inr ⟨pageC_ne kind,rfl,rfl⟩
     ·split
      ·exact .inr ⟨pageC_ne kind,rfl,rfl⟩
      ·exact leaf _ _ _ (by omega)
    ·exact .inr ⟨faultC_ne kind,rfl,rfl⟩
   ·exact .inr ⟨faultC_ne kind,rfl,rfl⟩
 | succ lv ih =>
   intro T hlv
   rw [walkL]
   split
   ·split
    ·split
     ·exact .inr ⟨pageC_ne kind,rfl,rfl⟩
     ·split
      ·split
       ·exact .inr ⟨pageC_ne kind,rfl,rfl⟩
       ·exact ih _ (by omega)
      ·exact leaf _ _ _ (by omega)
    ·exact .inr ⟨faultC_ne kind,rfl,rfl⟩
   ·exact .inr ⟨faultC_ne kind,rfl,rfl⟩

structure MW (M:MV):Prop where
 cs:∀ j,U (M.cs.getD j 0)
 ram:∀ y ∈ M.ram,(Lit.int .u8 y).wf=true
 xs:∀ y ∈ M.d.xs,(Lit.int .u8 y).wf=true
 ys:∀ y ∈ M.d.ys,(Lit.int .u8 y).wf=true

theorem wf8q_bd {y:Int} (h:(Lit.int .u8 y).wf=true):0≤y∧y≤255:=by
 simpa [Lit.wf,IntKind.min,IntKind.max,IntKind.signed,IntKind.bits] using h

theorem bd_wf8 {y:Int} (h:0≤y∧y≤255):(Lit.int .u8 y).wf=true:=by
 simpa [Lit.wf,IntKind.min,IntKind.max,IntKind.signed,IntKind.bits] using h

theorem put_wf (zs:List Int) (h:∀ y ∈ zs,(Lit.int .u8 y).wf=true) (f:Nat) (x:Int) (k:Nat):∀ y ∈ put zs f x k,(Lit.int .u8 y).wf=true:=fun y hy=>bd_wf8 (put_bd zs (fun z hz=>wf8q_bd (h z hz)) f x k y hy)

theorem mark_wf (zs:List Int) (h:∀ y ∈ zs,(Lit.int .u8 y).wf=true) (F:Fd):∀ y ∈ markB zs F,(Lit.int .u8 y).wf=true:=by
 unfold markB
 split
 ·exact put_wf zs h _ _ _
 ·exact h

theorem mach_parts {M:MV} (h:machB M=true):M.cs.length=22∧csrsOk 22 M.cs=true∧privB M.pr=true∧ramOkB M.ram.length=true∧okD M.d.xs.length M.d.ys.length M.d.ir=true∧bellsB M=true:=by
 unfold machB at h
 simp only [Bool.and_eq_true] at h
 obtain ⟨⟨⟨⟨⟨⟨_,_⟩,h3⟩,h4⟩,h5⟩,_⟩,h7⟩:=h
 have h22:=legal_22 h3
 have h6:=h3
 unfold legalB at h6
 rw [Bool.and_eq_true] at h6
 rw [h22] at h6
 exact ⟨h22,h6.1,h6.2,h4,h5,h7⟩

theorem bit2m (s:Int) (h:U s):s / 2048 % 4=(if bt s 11=true then 1 else 0)+2*(if bt s 12=true then 1 else 0):=by
 have e1:bitAt s 11=s / 2 ^ 11 % 2 ^ 1:=by
  have hd:=U_div s h 11
  exact and_low (s / 2 ^ 11) 1 hd.1 hd.2 (by omega)
 have e2:bitAt s 12=s / 2 ^ 12 % 2 ^ 1:=by
  have hd:=U_div s h 12
  exact and_low (s / 2 ^ 12) 1 hd.1 hd.2 (by omega)
 have q1:=bitAt_bt s h 11
 have q2:=bitAt_bt s h 12
 rw [← q1,← q2,e1,e2]
 omega

theorem mpp_priv (s:Int) (hU:U s) (h0:okAt 0 s=true):privB (wrap64 (bits .and .u64 (s / 2048) 3))=true:=by
 have hm:mst s=s:=by
  unfold okAt legal at h0
  simpa using h0
 have hc:=((mst_ok _ hU).1 hm).2
 have hd:=U_div s hU 11
 have e0:=and_low (s / 2 ^ 11) 2 hd.1 hd.2 (by omega)
 have e:bits .and .u64 (s / 2048) 3=s / 2048 % 4:=e0
 rw [e,bit2m s hU]
 revert hc
 cases bt s 11<;>cases bt s 12<;>intro hc
 ·decide +kernel
 ·cases hc
 ·decide +kernel
 ·decide +kernel

theorem eff_priv {l:List Int} (hU:U (l.getD 0 0)) (hok:csrsOk 22 l=true) {p:Int} (hp:privB p=true) (kind:Int):privB (effV l p kind)=true:=by
 unfold effV
 split
 ·have h0:okAt 0 (l.getD 0 0)=true:=by
   unfold csrsOk okRest at hok
   simp only [Bool.and_eq_true] at hok
   exact hok.2.1
  exact mpp_priv _ hU h0
 ·exact hp

theorem walkV_U (zs:List Int) (n:Nat) (l:List Int) (p va kind:Int) (h:U va):U (walkV zs n l p va kind).addr:=by
 unfold walkV
 split
 ·exact h
 ·split
  ·exact ⟨by show (0:Int)≤0;omega,by show (0:Int) < _;omega⟩
  ·rcases walkL_ends zs n l p va kind 2 (topT l) (by omega) with ⟨_,⟨e,k,_,h2⟩,_⟩ | ⟨_,h2,_⟩
   ·rw [h2];exact U_bits _ _ _
   ·rw [h2];exact ⟨by omega,by omega⟩

theorem last_small (x s:Int) (h1:1≤s) (h8:s≤8):lastOf x s=IntKind.u64.wrap (IntKind.u64.wrap (x+s) - 1):=by
 unfold lastOf
 rw [show IntKind.u64.wrap s=s by rw [IntKind.wrap_u64];omega]

theorem implLegal_any (a:Option Addr) (n cap:Nat) (l:List Int) (p:Int) (w:World) (hz:l.length=n) (hs:Sl .u64 w a l) (hl:∀ j,U (l.getD j 0)) :
 Calls Tryz.prog 15 #[.slice a n cap,.int .i64 p] w fun e w'=>e=.returned (.bool (legalB n l p))∧Below w.heap.size w w':=by
 have HO:Hid (Calls Tryz.prog 30 #[.slice a n cap] w fun e w'=>e=.returned (.bool (csrsOk n l))∧Below w.heap.size w w'):=by
  have:=implCsrsOk_any a n cap l w hz hs hl
  rw [fitsOk_eq n l hl] at this
  exact this
 have HP:Hid (∀ w,Calls Tryz.prog 31 #[.int .i64 p] w fun e w'=>e=.returned (.bool (privB p))∧w'=w):=privOk_any p
 have F:Hid (legalB n l p=(csrsOk n l&&privB p)):=(rfl:legalB n l p=_)
 clear hs hz hl
 generalize csrsOk n l=q at *
 generalize privB p=r at *
 cases q with
 | false =>
   go_enter Tryz.func15,Tryz.ntmps15
   go_wp2_with fail
   refine HO.out.mono ?_
   rintro e w1 ⟨rfl,hb⟩
   go_wp2_with fail
   go_ret
   exact ⟨by rw [F.out];rfl,hb⟩
 | true =>
   go_enter Tryz.func15,Tryz.ntmps15
   go_wp2_with fail
   refine HO.out.mono ?_
   rintro e w1 ⟨rfl,hb⟩
   go_wp2_with fail
   refine (HP.out _).mono ?_
   rintro e w2 ⟨rfl,hw2⟩
   subst hw2
   go_wp2_with fail
   go_ret
   exact ⟨by rw [F.out];rfl,hb⟩

end Go.Proofs.YtbajeckeeekhnaaGreat
