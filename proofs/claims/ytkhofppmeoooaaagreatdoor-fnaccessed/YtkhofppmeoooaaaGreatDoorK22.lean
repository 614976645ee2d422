/- Own lemmas. -/
import Derived.Test.YtkhofppmeoooaaaGreatDoorK02
import Derived.Test.YtkhofppmeoooaaaGreatDoorK03
import Derived.Test.YtkhofppmeoooaaaGreatDoorK04
import Derived.Lib.TrailingZeros
import Derived.Laws.Bits64b
namespace Go.Proofs.YtkhofppmeoooaaaGreatDoor
open Go.RowKit
set_option linter.unusedVariables false

theorem bitQ (x:Int) (h:U x) (i:Nat):bitAt x i=if bt x i=true then 1 else 0:=by
 unfold bitAt
 have hf:=bt_fld x h i 1
 have e1:bits .and .u64 (x / 2 ^ i) 1=fld x i 1:=by
  have:=bitsAt_eq x i 1 h.1 h.2 (by omega)
  rw [← this]
  rfl
 rw [e1]
 have hb:=fld_bd x i 1
 have h0:=bt_fld x h i 1 0 (by omega)
 rw [Nat.zero_add] at h0
 simp only [Nat.lt_add_one,decide_true,Bool.true_and] at h0
 rw [← h0]
 have e2:fld x i 1=0∨fld x i 1=1:=by
  have:(2:Int) ^ 1=2:=by decide
  omega
 rcases e2 with e | e
 ·rw [e];rfl
 ·rw [e];rfl

theorem bitQ1 (x:Int) (h:U x) (i:Nat):(bitAt x i==1)=bt x i:=by
 rw [bitQ x h i]
 cases bt x i<;>rfl

theorem bitQ0 (x:Int) (h:U x) (i:Nat):(bitAt x i==0)=!bt x i:=by
 rw [bitQ x h i]
 cases bt x i<;>rfl

theorem bt_zero (i:Nat):bt 0 i=false:=by
 unfold bt
 simp

theorem U_zero:U 0:=⟨by omega,by omega⟩

theorem maskZ (e M:Int) (L:List Nat) (hM:∀ i,i < 64→bt M i=L.contains i) (hL:∀ i ∈ L,i < 64):(bits .and .u64 e M==0)=L.all (fun i=>!bt e i):=by
 rw [Bool.eq_iff_iff,beq_iff_eq,List.all_eq_true]
 constructor
 ·intro h i hi
  have h1:=bt_and e M i
  rw [h,bt_zero,hM i (hL i hi)] at h1
  have:L.contains i=true:=by simpa using hi
  rw [this,Bool.and_true] at h1
  rw [← h1]
  rfl
 ·intro h
  refine bt_ext _ _ (U_bits _ _ _) U_zero fun i hi=>?_
  rw [bt_and,bt_zero,hM i hi]
  cases hc:L.contains i with
  | false=>rw [Bool.and_false]
  | true =>
   have:=h i (by simpa using hc)
   rw [Bool.and_true]
   simpa using this

theorem maskE (e M:Int) (L:List Nat) (hU:U M) (hM:∀ i,i < 64→bt M i=L.contains i) (hL:∀ i ∈ L,i < 64):(bits .and .u64 e M==M)=L.all (fun i=>bt e i):=by
 rw [Bool.eq_iff_iff,beq_iff_eq,List.all_eq_true]
 constructor
 ·intro h i hi
  have h1:=bt_and e M i
  rw [h,hM i (hL i hi)] at h1
  have:L.contains i=true:=by simpa using hi
  rw [this,Bool.and_true] at h1
  exact h1.symm
 ·intro h
  refine bt_ext _ _ (U_bits _ _ _) hU fun i hi=>?_
  rw [bt_and,hM i hi]
  cases hc:L.contains i with
  | false=>rw [Bool.and_false]
  | true =>
   rw [h i (by simpa using hc)]
   rfl

theorem maskO (e M:Int) (L:List Nat) (he:U e) (hM:∀ i,i < 64→bt M i=L.contains i) (hL:∀ i ∈ L,i < 64):(bits .or .u64 e M==e)=L.all (fun i=>bt e i):=by
 rw [Bool.eq_iff_iff,beq_iff_eq,List.all_eq_true]
 constructor
 ·intro h i hi
  have h1:=bt_or e M i
  rw [h,hM i (hL i hi)] at h1
  have:L.contains i=true:=by simpa using hi
  rw [this,Bool.or_true] at h1
  exact h1
 ·intro h
  refine bt_ext _ _ (U_bits _ _ _) he fun i hi=>?_
  rw [bt_or,hM i hi]
  cases hc:L.contains i with
  | false=>rw [Bool.or_false]
  | true=>rw [h i (by simpa using hc)];rfl

theorem m1 (e:Int):(bits .and .u64 e 1==0)=!bt e 0:=by
 rw [maskZ e 1 [0] (by decide +kernel) (by decide)];simp

theorem m2 (e:Int):(bits .and .u64 e 2==0)=!bt e 1:=by
 rw [maskZ e 2 [1] (by decide +kernel) (by decide)];simp

theorem m4 (e:Int):(bits .and .u64 e 4==0)=!bt e 2:=by
 rw [maskZ e 4 [2] (by decide +kernel) (by decide)];simp

theorem m8 (e:Int):(bits .and .u64 e 8==0)=!bt e 3:=by
 rw [maskZ e 8 [3] (by decide +kernel) (by decide)];simp

theorem m16 (e:Int):(bits .and .u64 e 16==0)=!bt e 4:=by
 rw [maskZ e 16 [4] (by decide +kernel) (by decide)];simp

theorem m10 (e:Int):(bits .and .u64 e 10==0)=(!bt e 1&&!bt e 3):=by
 rw [maskZ e 10 [1,3] (by decide +kernel) (by decide)];simp

theorem m208 (e:Int):(bits .and .u64 e 208==0)=(!bt e 4&&(!bt e 6&&!bt e 7)):=by
 rw [maskZ e 208 [4,6,7] (by decide +kernel) (by decide)];simp

theorem m18 (e:Int):(bits .and .u64 e 262144==0)=!bt e 18:=by
 rw [maskZ e 262144 [18] (by decide +kernel) (by decide)];simp

theorem m19 (e:Int):(bits .and .u64 e 524288==0)=!bt e 19:=by
 rw [maskZ e 524288 [19] (by decide +kernel) (by decide)];simp

theorem m17 (e:Int):(bits .and .u64 e 131072==0)=!bt e 17:=by
 rw [maskZ e 131072 [17] (by decide +kernel) (by decide)];simp

theorem m6 (e:Int):(bits .and .u64 e 6==4)=(!bt e 1&&bt e 2):=by
 have hM:∀ i,i < 64→bt 6 i=[1,2].contains i∧bt 4 i=[2].contains i:=by decide +kernel
 rw [Bool.eq_iff_iff,beq_iff_eq,Bool.and_eq_true]
 constructor
 ·intro h
  have a:=bt_and e 6 1
  have b:=bt_and e 6 2
  rw [h,(hM 1 (by omega)).1,(hM 1 (by omega)).2] at a
  rw [h,(hM 2 (by omega)).1,(hM 2 (by omega)).2] at b
  have a2:false=(bt e 1&&true):=a
  have b2:true=(bt e 2&&true):=b
  rw [Bool.and_true] at a2 b2
  rw [← a2,← b2]
  exact ⟨rfl,rfl⟩
 ·rintro ⟨h1,h2⟩
  have h1':bt e 1=false:=by simpa using h1
  refine bt_ext _ _ (U_bits _ _ _) ⟨by omega,by omega⟩ fun i hi=>?_
  rw [bt_and,(hM i hi).1,(hM i hi).2]
  by_cases i1:i=1
  ·subst i1;rw [h1'];rfl
  ·by_cases i2:i=2
   ·subst i2;rw [h2];rfl
   ·simp [i1,i2]

theorem m54 (e:Int) (he:U e):(bits .and .u64 e 18428729675200069632==0)=(e / 18014398509481984==0):=by
 have hM:∀ i,i < 64→bt 18428729675200069632 i=decide (54≤i):=by decide +kernel
 have e54:(18014398509481984:Int)=2 ^ 54:=by decide
 rw [e54,Bool.eq_iff_iff,beq_iff_eq,beq_iff_eq]
 constructor
 ·intro h
  refine bt_ext _ _ (U_div e he 54) U_zero fun i hi=>?_
  rw [bt_div e he,bt_zero]
  by_cases h64:64≤i+54
  ·exact bt_high _ _ h64
  ·have a:=bt_and e 18428729675200069632 (i+54)
   rw [h,bt_zero,hM _ (by omega)] at a
   simpa using a.symm
 ·intro h
  refine bt_ext _ _ (U_bits _ _ _) U_zero fun i hi=>?_
  rw [bt_and,bt_zero,hM i hi]
  by_cases h54:54≤i
  ·have a:=bt_div e he 54 (i - 54)
   rw [h,bt_zero,Nat.sub_add_cancel h54] at a
   rw [← a];rfl
  ·simp [h54]

def badP (e:Int):Bool:=(bits .and .u64 e 1==0)||(bits .and .u64 e 6==4)||(bits .and .u64 e 18428729675200069632 != 0)

theorem bad_eq (e:Int) (he:U e):badP e=badB e:=by
 unfold badP badB
 rw [bitQ0 e he,bitQ1 e he,m6,bne,bne,m54 e he]

theorem leaf_eq (e:Int) (he:U e):(bits .and .u64 e 10 != 0)=!ptrB e:=by
 unfold ptrB
 rw [bitQ0 e he,bitQ0 e he,bne,m10]

theorem stop_eq (e:Int) (he:U e) (lv:Nat):(((lv:Int)==0)||(bits .and .u64 e 208 != 0))=stopB e lv:=by
 unfold stopB
 have e16:(16:Int)=2 ^ 4:=by decide
 have a:=bitQ1 e he 4
 unfold bitAt at a
 rw [← e16] at a
 have b:(bits .and .u64 (e / 64) 3==0)=(!bt e 6&&!bt e 7):=by
  rw [maskZ (e / 64) 3 [0,1] (by decide +kernel) (by decide)]
  have e64:(64:Int)=2 ^ 6:=by decide
  simp only [List.all_cons,List.all_nil,Bool.and_true]
  rw [e64,bt_div e he,bt_div e he]
 rw [bne,bne,m208,a,b]
 cases ((lv:Int)==0)<;>cases bt e 4<;>cases bt e 6<;>cases bt e 7<;>rfl

theorem frame_eq (e:Int) (he:U e):fld e 10 44=frameV e:=by
 rw [← bitsAt_eq e 10 44 he.1 he.2 (by omega)]
 rfl

theorem U_frame (e:Int):U (frameV e):=U_bits _ _ _

theorem off_eq (e:Int) (he:U e) (lv:Nat) (h:lv≤2):(fld e 10 (9*lv) != 0)=offB e lv:=by
 unfold offB lowM
 have hf:=U_frame e
 have a:=bitsAt_eq (frameV e) 0 (9*lv) hf.1 hf.2 (by omega)
 rw [show frameV e / 2 ^ 0=frameV e from by simp] at a
 rw [a,← frame_eq e he]
 congr 1
 refine bt_ext _ _ (U_fld _ _ _ (by omega)) (U_fld _ _ _ (by omega)) fun i hi=>?_
 rw [bt_fld e he _ _ _ (by omega),bt_fld _ (U_fld _ _ _ (by omega)) _ _ _ (by omega),bt_fld e he _ _ _ (by omega)]
 by_cases h9:i < 9*lv
 ·simp [h9,show i < 44 from by omega]
 ·simp [h9]

def kindP (x k e:Int):Bool:=if k=1 then (bits .and .u64 e 8 != 0) else if k=2 then ((bits .and .u64 e 2 != 0)||((bits .and .u64 x 524288 != 0)&&(bits .and .u64 e 8 != 0))) else (bits .and .u64 e 4 != 0)

theorem kind_may (l:List Int) (k e:Int) (he:U e) (hx:U (l.getD 0 0)) (h1:1≤k) (h3:k≤3):kindP (l.getD 0 0) k e=!noKind l k e:=by
 unfold kindP noKind
 rw [bitQ0 e he,bitQ0 e he,bitQ0 e he,bitQ0 _ hx]
 simp only [bne,m8,m2,m4,m19]
 have hk:k=1∨k=2∨k=3:=by omega
 rcases hk with rfl | rfl | rfl
 ·cases bt e 3<;>rfl
 ·cases bt e 1<;>cases bt e 3<;>cases bt (l.getD 0 0) 19<;>rfl
 ·cases bt e 2<;>rfl

def privP (x p k e:Int):Bool:=if (bits .and .u64 e 16==0)=true then (p==1) else ((p==0)||((k != 1)&&(bits .and .u64 x 262144 != 0)))

theorem priv_may (l:List Int) (p k e:Int) (he:U e) (hx:U (l.getD 0 0)) (hp:p=0∨p=1):privP (l.getD 0 0) p k e=!noPriv l p k e:=by
 unfold privP noPriv
 rw [bitQ0 e he,bitQ1 e he,bitQ0 _ hx]
 simp only [bne,m16,m18]
 rcases hp with rfl | rfl
 ·cases bt e 4<;>rfl
 ·cases bt e 4<;>cases bt (l.getD 0 0) 18<;>cases (k==1)<;>rfl

def marksP (k:Int):Int:=if k=3 then 192 else 64

theorem want_eq (e k:Int):bits .or .u64 e (marksP k)=wantV e k:=by
 unfold marksP wantV
 by_cases h:k=3
 ·subst h
  have hM:∀ i,i < 64→bt 192 i=(bt 64 i||bt 128 i):=by decide +kernel
  rw [if_pos rfl,if_pos (by decide)]
  refine bt_ext _ _ (U_bits _ _ _) (U_bits _ _ _) fun i hi=>?_
  rw [bt_or,bt_or,bt_or,hM i hi,Bool.or_assoc]
 ·have:(k==3)=false:=by simpa using h
  rw [if_neg h,this]
  rfl

theorem mark_eq (e k:Int) (he:U e):(bits .and .u64 e (marksP k)==marksP k)=!(wantV e k != e):=by
 rw [← want_eq,bne,Bool.not_not]
 unfold marksP
 by_cases h:k=3
 ·rw [if_pos h,maskE e 192 [6,7] ⟨by omega,by omega⟩ (by decide +kernel) (by decide),maskO e 192 [6,7] he (by decide +kernel) (by decide)]
 ·rw [if_neg h,maskE e 64 [6] ⟨by omega,by omega⟩ (by decide +kernel) (by decide),maskO e 64 [6] he (by decide +kernel) (by decide)]

theorem lead_eq (e va:Int) (he:U e) (hv:U va) (lv:Nat) (h:lv≤2) (h0:offB e lv=false):bits .or .u64 (IntKind.u64.wrap (fld e 10 44*4096)) (fld va 0 (12+9*lv))=leadV e va lv:=by
 rw [← off_eq e he lv h] at h0
 have h0':fld e 10 (9*lv)=0:=by simpa using h0
 unfold leadV
 rw [← frame_eq e he]
 have hlow:∀ i,i < 64→bt (lowM (12+9*lv)) i=decide (i < 12+9*lv):=by
  have:lv=0∨lv=1∨lv=2:=by omega
  rcases this with rfl | rfl | rfl
  ·decide +kernel
  ·decide +kernel
  ·decide +kernel
 have e4096:(4096:Int)=2 ^ 12:=by decide
 refine bt_ext _ _ (U_bits _ _ _) (U_bits _ _ _) fun i hi=>?_
 rw [bt_or,bt_or,bt_andNot _ _ _ hi,bt_and,hlow i hi,bt_fld va hv _ _ _ (by omega),Nat.add_zero,e4096,bt_shl _ (U_fld _ _ _ (by omega))]
 by_cases hlt:i < 12+9*lv
 ·simp only [hlt,decide_true,Bool.true_and,Bool.and_true,Bool.not_true,Bool.and_false,Bool.false_or]
  by_cases h12:12≤i
  ·have hz:=bt_fld e he 10 (9*lv) (i - 12) (by omega)
   rw [h0',bt_zero] at hz
   rw [bt_fld e he _ _ _ (by omega)]
   have hd:decide (i - 12 < 9*lv)=true:=by simp;omega
   rw [hd,Bool.true_and] at hz
   rw [← hz]
   simp
  ·simp [h12]
 ·simp [hlt]

theorem top_eq (l:List Int) (h:U (l.getD 15 0)):IntKind.u64.wrap (fld (l.getD 15 0) 0 44*4096)=topT l:=by
 rw [← bitsAt_eq _ 0 44 h.1 h.2 (by omega)]
 unfold topT
 rw [show l.getD 15 0 / 2 ^ 0=l.getD 15 0 from by simp]
 rfl

theorem pte_eq (T va:Int) (hv:U va) (lv:Nat):IntKind.u64.wrap (T+IntKind.u64.wrap (8*fld va (12+9*lv) 9))=pteAt T va lv:=by
 rw [← bitsAt_eq _ (12+9*lv) 9 hv.1 hv.2 (by omega)]
 rfl

theorem satp_eq (s:Int) (h:U s):(fld s 60 4==0)=(s / 1152921504606846976==0):=by
 have e60:(1152921504606846976:Int)=2 ^ 60:=by decide
 have e:fld s 60 4=s / 2 ^ 60:=by
  unfold fld
  have e16:(2:Int) ^ 4=16:=by decide
  have e6:(2:Int) ^ 60=1152921504606846976:=by decide
  rw [e16,e6]
  have:=h.1
  have:=h.2
  omega
 rw [e,e60]

theorem perm_eq (n:Nat) (l:List Int) (x kind:Int) (h1:legalB 22 l 1=true) (hx:okB n x 8=true) (hk1:1≤kind) (hk3:kind≤3):permV 22 l 1 x 8 kind=permRest l 1 x (lastOf x 8) kind 4 0:=by
 unfold permV
 obtain ⟨_,_,hb1,hb2,_,_,hn1,hn2⟩:=okB_true hx
 have e:lastOf x 8=x+7:=by
  unfold lastOf
  rw [IntKind.wrap_u64,IntKind.wrap_u64,IntKind.wrap_u64]
  omega
 have hlt:decide (lastOf x 8 < x)=false:=by rw [e];simp;omega
 have hk:decide (1≤kind∧kind≤3)=true:=by simp;omega
 rw [h1,hlt,hk]
 rfl

def Tab (w:World):Prop:=∀ j,j < 64→w.cell? ⟨0,j,none⟩=some (.int .u8 (Lib.deBruijn64tab.getD j 0))

theorem Tab.lt {w:World} (h:Tab w):0 < w.heap.size:=World.block_lt_of_cell? _ _ (h 0 (by omega))

theorem Tab.from {w w':World} {n:Nat} (h:Tab w) (hb:Below n w w') (hn:0 < n):Tab w':=fun j hj=>(hb.cell (p:=⟨0,j,none⟩) hn).trans (h j hj)

theorem Tab.below {w w':World} (h:Tab w) (hb:Below w.heap.size w w'):Tab w':=h.from hb h.lt

theorem tz_key (x a:Nat) (hx:x < 18446744073709551616) (hx0:x≠0) (hlow:x &&& (18446744073709551616 - x)=a) :
 IntKind.u64.wrap (bits BinOp.and IntKind.u64 (x:Int) (IntKind.u64.wrap (-(x:Int)))*285870213051353865) / 288230376151711744=((a*285870213051353865 % 18446744073709551616 / 288230376151711744:Nat):Int):=by
 have e1:IntKind.u64.wrap (-(x:Int))=((18446744073709551616 - x:Nat):Int):=by rw [IntKind.wrap_u64];omega
 rw [e1,bits_and_u64_nat x _ hx (by omega),hlow,IntKind.wrap_u64]
 omega

set_option maxHeartbeats 1000000 in
theorem tz_core (x k idx:Nat) (w:World) (hx0:((x:Int)==0)=false)
 (key:IntKind.u64.wrap (bits BinOp.and IntKind.u64 (x:Int) (IntKind.u64.wrap (-(x:Int)))*285870213051353865) / 288230376151711744=(idx:Int))
 (hi:idx < 64) (hk:k < 64) (hcell:w.cell? ⟨0,idx,none⟩=some (.int .u8 k)) :
 Calls Tryz.prog 146 #[.int .u64 x] w fun e w'=>e=.returned (.int .i64 k)∧w'=w:=by
 go_enter Tryz.func146,Tryz.ntmps146
 go_wp2_with (simp only [key])
 go_ret
 exact ⟨rfl,rfl⟩

theorem tz_zero (w:World):Calls Tryz.prog 146 #[.int .u64 0] w fun e w'=>e=.returned (.int .i64 64)∧w'=w:=by
 go_enter Tryz.func146,Tryz.ntmps146
 go_wp2
 go_ret
 exact ⟨rfl,rfl⟩

theorem tz_any (x:Nat) (hx:x < 18446744073709551616) (w:World) (hT:Tab w) :
 Calls Tryz.prog 146 #[.int .u64 x] w fun e w'=>e=.returned (.int .i64 (Lib.ctz 64 x))∧w'=w:=by
 by_cases hx0:x=0
 ·subst hx0
  exact tz_zero w
 ·obtain ⟨hlow,hk⟩:=Lib.lowest_bit 64 x hx0 hx
  obtain ⟨hi,htab⟩:=Lib.deBruijn64_at _ hk
  have hcell:=hT _ hi
  rw [htab] at hcell
  exact tz_core x _ _ w (by simp;omega) (tz_key x _ hx hx0 hlow) hi hk hcell

end Go.Proofs.YtkhofppmeoooaaaGreatDoor
