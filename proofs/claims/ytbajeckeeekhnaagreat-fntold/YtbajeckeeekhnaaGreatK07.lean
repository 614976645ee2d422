/- Own lemmas. -/
import Derived.Test.YtbajeckeeekhnaaGreatK05
import Derived.Test.YtbajeckeeekhnaaGreatK06
namespace Go.Proofs.YtbajeckeeekhnaaGreat
open Go.RowKit
set_option linter.unusedVariables false

theorem l5Bit_any (x:Int) (i:Nat) (hi:i < 64) (w:World):Calls Tryz.prog 73 #[.int .u64 x,.int .u64 i] w fun e w'=>e=.returned (.int .u64 (bitAt x i))∧w'=w:=by
 go_enter Tryz.func73,Tryz.ntmps73
 go_wp2_with fail
 go_ret
 exact ⟨rfl,rfl⟩

theorem set_get (l:List Int) (i j:Nat) (x:Int) (h:i≠j):(l.set i x).getD j 0=l.getD j 0:=by
 simp [List.getD,List.getElem?_set_ne h]

theorem l5Bit1 (x:Int) (w:World):Calls Tryz.prog 73 #[.int .u64 x,.int .u64 1] w fun e w'=>e=.returned (.int .u64 (bitAt x 1))∧w'=w:=l5Bit_any x 1 (by omega) w

theorem l5Bit3 (x:Int) (w:World):Calls Tryz.prog 73 #[.int .u64 x,.int .u64 3] w fun e w'=>e=.returned (.int .u64 (bitAt x 3))∧w'=w:=l5Bit_any x 3 (by omega) w

theorem l5Bit5 (x:Int) (w:World):Calls Tryz.prog 73 #[.int .u64 x,.int .u64 5] w fun e w'=>e=.returned (.int .u64 (bitAt x 5))∧w'=w:=l5Bit_any x 5 (by omega) w

theorem l5Bit7 (x:Int) (w:World):Calls Tryz.prog 73 #[.int .u64 x,.int .u64 7] w fun e w'=>e=.returned (.int .u64 (bitAt x 7))∧w'=w:=l5Bit_any x 7 (by omega) w

theorem l5Bit8 (x:Int) (w:World):Calls Tryz.prog 73 #[.int .u64 x,.int .u64 8] w fun e w'=>e=.returned (.int .u64 (bitAt x 8))∧w'=w:=l5Bit_any x 8 (by omega) w

set_option maxRecDepth 100000 in
set_option maxHeartbeats 3200000 in
theorem l5Enter_3me (base g cap:Nat) (l:List Int) (pc v:Int) (k:Nat) (hk:k < 16) (w:World) (h:Own w base g cap l) :
 Calls Tryz.prog 58 #[.slice (some ⟨g,0,none⟩) 22 cap,.int .i64 3,.int .u64 pc,.int .i64 k,.bool false,.int .u64 v] w fun e w' =>
  e=.returned (.tuple #[.int .i64 3,.int .u64 (bits .andNot .u64 (l.getD 4 0) 1)])∧Own w' base g cap ((((l.set 7 (toldV k false)).set 6 (bits .andNot .u64 pc 3)).set 8 v).set 0 (statM (l.getD 0 0) 3))∧w.grownBy w' (some g):=by
 have H:Hid (Own w base g cap l):=h
 have c0:=h.cell 0 (by omega)
 have c1:=h.cell 1 (by omega)
 have c2:=h.cell 2 (by omega)
 have c4:=h.cell 4 (by omega)
 clear h
 have ek:IntKind.u64.wrap (k:Int)=k:=by rw [IntKind.wrap_u64];omega
 have ek4:IntKind.u64.wrap (4*(k:Int))=4*k:=by rw [IntKind.wrap_u64];omega
 have ST:Hid (statM (l.getD 0 0) 3=bits .or .u64 (bits .or .u64 (bits .andNot .u64 (l.getD 0 0) 6280) (IntKind.u64.wrap (bitAt (l.getD 0 0) 3*128))) 6144):=by show _=_;rfl
 have TL:Hid (toldV k false=(k:Int)):=(rfl:toldV k false=_)
 generalize statM (l.getD 0 0) 3=sm at *
 obtain ⟨l0,h0⟩:∃ y,l.getD 0 0=y:=⟨_,rfl⟩
 obtain ⟨l1,hl1⟩:∃ y,l.getD 1 0=y:=⟨_,rfl⟩
 obtain ⟨l2,hl2⟩:∃ y,l.getD 2 0=y:=⟨_,rfl⟩
 obtain ⟨l4,hl4⟩:∃ y,l.getD 4 0=y:=⟨_,rfl⟩
 obtain ⟨l10,hl10⟩:∃ y,l.getD 10 0=y:=⟨_,rfl⟩
 rw [h0] at c0 ST
 rw [hl1] at c1
 rw [hl2] at c2
 rw [hl4] at c4
 rw [hl4]
 clear h0 hl1 hl2 hl4 hl10
 go_enter Tryz.func58,Tryz.ntmps58
 go_wp2_with (first
  | (refine wpList_put rfl (.tmp 71) (.tmp 70) rfl rfl H.out 7 (by omega) _ rfl rfl ?_;intro w1 h1 g1;have H1:Hid (Own w1 _ _ _ _):=h1;have G1:Hid (w.grownBy w1 (some g)):=g1;clear h1 g1)
  | (refine wpList_put rfl (.tmp 75) (.tmp 74) rfl rfl H1.out 6 (by omega) _ rfl rfl ?_;intro w2 h2 g2;have H2:Hid (Own w2 _ _ _ _):=h2;have G2:Hid (w1.grownBy w2 (some g)):=g2;clear h2 g2)
  | (refine wpList_put rfl (.tmp 78) (.tmp 77) rfl rfl H2.out 8 (by omega) _ rfl rfl ?_;intro w3 h3 g3;have H3:Hid (Own w3 _ _ _ _):=h3;have G3:Hid (w2.grownBy w3 (some g)):=g3;clear h3 g3)
  | (refine wpList_put rfl (.tmp 91) (.tmp 90) rfl rfl H3.out 0 (by omega) _ rfl rfl ?_;intro w4 h4 g4;have H4:Hid (Own w4 _ _ _ _):=h4;have G4:Hid (w3.grownBy w4 (some g)):=g4;clear h4 g4)
  | (go_at_call 73;with_reducible refine (l5Bit3 _ _).mono ?_;rintro e wx ⟨rfl,hwx⟩;have hwy:=hwx.symm;subst hwy))
 go_ret2
 exact ⟨rfl,by rw [ST.out,TL.out];exact H4.out,grown_trans G1.out (grown_trans G2.out (grown_trans G3.out G4.out))⟩

set_option maxRecDepth 100000 in
set_option maxHeartbeats 3200000 in
theorem l5Enter_3mi (base g cap:Nat) (l:List Int) (pc v:Int) (k:Nat) (hk:k < 16) (hj:(bits .and .u64 (l.getD 4 0) 1==1)=false) (w:World) (h:Own w base g cap l) :
 Calls Tryz.prog 58 #[.slice (some ⟨g,0,none⟩) 22 cap,.int .i64 3,.int .u64 pc,.int .i64 k,.bool true,.int .u64 v] w fun e w' =>
  e=.returned (.tuple #[.int .i64 3,.int .u64 (bits .andNot .u64 (l.getD 4 0) 1)])∧Own w' base g cap ((((l.set 7 (toldV k true)).set 6 (bits .andNot .u64 pc 3)).set 8 v).set 0 (statM (l.getD 0 0) 3))∧w.grownBy w' (some g):=by
 have H:Hid (Own w base g cap l):=h
 have c0:=h.cell 0 (by omega)
 have c1:=h.cell 1 (by omega)
 have c2:=h.cell 2 (by omega)
 have c4:=h.cell 4 (by omega)
 clear h
 have ek:IntKind.u64.wrap (k:Int)=k:=by rw [IntKind.wrap_u64];omega
 have ek4:IntKind.u64.wrap (4*(k:Int))=4*k:=by rw [IntKind.wrap_u64];omega
 have ST:Hid (statM (l.getD 0 0) 3=bits .or .u64 (bits .or .u64 (bits .andNot .u64 (l.getD 0 0) 6280) (IntKind.u64.wrap (bitAt (l.getD 0 0) 3*128))) 6144):=by show _=_;rfl
 have TL:Hid (toldV k true=bits .or .u64 (k:Int) 9223372036854775808):=(rfl:toldV k true=_)
 generalize statM (l.getD 0 0) 3=sm at *
 obtain ⟨l0,h0⟩:∃ y,l.getD 0 0=y:=⟨_,rfl⟩
 obtain ⟨l1,hl1⟩:∃ y,l.getD 1 0=y:=⟨_,rfl⟩
 obtain ⟨l2,hl2⟩:∃ y,l.getD 2 0=y:=⟨_,rfl⟩
 obtain ⟨l4,hl4⟩:∃ y,l.getD 4 0=y:=⟨_,rfl⟩
 obtain ⟨l10,hl10⟩:∃ y,l.getD 10 0=y:=⟨_,rfl⟩
 rw [h0] at c0 ST
 rw [hl1] at c1
 rw [hl2] at c2
 rw [hl4] at c4
 rw [hl4] at hj
 rw [hl4]
 clear h0 hl1 hl2 hl4 hl10
 go_enter Tryz.func58,Tryz.ntmps58
 go_wp2_with (first
  | (refine wpList_put rfl (.tmp 71) (.tmp 70) rfl rfl H.out 7 (by omega) _ rfl rfl ?_;intro w1 h1 g1;have H1:Hid (Own w1 _ _ _ _):=h1;have G1:Hid (w.grownBy w1 (some g)):=g1;clear h1 g1)
  | (refine wpList_put rfl (.tmp 75) (.tmp 74) rfl rfl H1.out 6 (by omega) _ rfl rfl ?_;intro w2 h2 g2;have H2:Hid (Own w2 _ _ _ _):=h2;have G2:Hid (w1.grownBy w2 (some g)):=g2;clear h2 g2)
  | (refine wpList_put rfl (.tmp 78) (.tmp 77) rfl rfl H2.out 8 (by omega) _ rfl rfl ?_;intro w3 h3 g3;have H3:Hid (Own w3 _ _ _ _):=h3;have G3:Hid (w2.grownBy w3 (some g)):=g3;clear h3 g3)
  | (refine wpList_put rfl (.tmp 91) (.tmp 90) rfl rfl H3.out 0 (by omega) _ rfl rfl ?_;intro w4 h4 g4;have H4:Hid (Own w4 _ _ _ _):=h4;have G4:Hid (w3.grownBy w4 (some g)):=g4;clear h4 g4)
  | (go_at_call 73;with_reducible refine (l5Bit3 _ _).mono ?_;rintro e wx ⟨rfl,hwx⟩;have hwy:=hwx.symm;subst hwy))
 go_ret2
 exact ⟨rfl,by rw [ST.out,TL.out];exact H4.out,grown_trans G1.out (grown_trans G2.out (grown_trans G3.out G4.out))⟩

set_option maxRecDepth 100000 in
set_option maxHeartbeats 3200000 in
theorem l5Enter_3mij (base g cap:Nat) (l:List Int) (pc v:Int) (k:Nat) (hk:k < 16) (hj:(bits .and .u64 (l.getD 4 0) 1==1)=true) (w:World) (h:Own w base g cap l) :
 Calls Tryz.prog 58 #[.slice (some ⟨g,0,none⟩) 22 cap,.int .i64 3,.int .u64 pc,.int .i64 k,.bool true,.int .u64 v] w fun e w' =>
  e=.returned (.tuple #[.int .i64 3,.int .u64 (IntKind.u64.wrap (bits .andNot .u64 (l.getD 4 0) 1+IntKind.u64.wrap (4*k)))])∧Own w' base g cap ((((l.set 7 (toldV k true)).set 6 (bits .andNot .u64 pc 3)).set 8 v).set 0 (statM (l.getD 0 0) 3))∧w.grownBy w' (some g):=by
 have H:Hid (Own w base g cap l):=h
 have c0:=h.cell 0 (by omega)
 have c1:=h.cell 1 (by omega)
 have c2:=h.cell 2 (by omega)
 have c4:=h.cell 4 (by omega)
 clear h
 have ek:IntKind.u64.wrap (k:Int)=k:=by rw [IntKind.wrap_u64];omega
 have ek4:IntKind.u64.wrap (4*(k:Int))=4*k:=by rw [IntKind.wrap_u64];omega
 rw [ek4]
 have ST:Hid (statM (l.getD 0 0) 3=bits .or .u64 (bits .or .u64 (bits .andNot .u64 (l.getD 0 0) 6280) (IntKind.u64.wrap (bitAt (l.getD 0 0) 3*128))) 6144):=by show _=_;rfl
 have TL:Hid (toldV k true=bits .or .u64 (k:Int) 9223372036854775808):=(rfl:toldV k true=_)
 generalize statM (l.getD 0 0) 3=sm at *
 obtain ⟨l0,h0⟩:∃ y,l.getD 0 0=y:=⟨_,rfl⟩
 obtain ⟨l1,hl1⟩:∃ y,l.getD 1 0=y:=⟨_,rfl⟩
 obtain ⟨l2,hl2⟩:∃ y,l.getD 2 0=y:=⟨_,rfl⟩
 obtain ⟨l4,hl4⟩:∃ y,l.getD 4 0=y:=⟨_,rfl⟩
 obtain ⟨l10,hl10⟩:∃ y,l.getD 10 0=y:=⟨_,rfl⟩
 rw [h0] at c0 ST
 rw [hl1] at c1
 rw [hl2] at c2
 rw [hl4] at c4
 rw [hl4] at hj
 rw [hl4]
 clear h0 hl1 hl2 hl4 hl10
 go_enter Tryz.func58,Tryz.ntmps58
 go_wp2_with (first
  | (refine wpList_put rfl (.tmp 71) (.tmp 70) rfl rfl H.out 7 (by omega) _ rfl rfl ?_;intro w1 h1 g1;have H1:Hid (Own w1 _ _ _ _):=h1;have G1:Hid (w.grownBy w1 (some g)):=g1;clear h1 g1)
  | (refine wpList_put rfl (.tmp 75) (.tmp 74) rfl rfl H1.out 6 (by omega) _ rfl rfl ?_;intro w2 h2 g2;have H2:Hid (Own w2 _ _ _ _):=h2;have G2:Hid (w1.grownBy w2 (some g)):=g2;clear h2 g2)
  | (refine wpList_put rfl (.tmp 78) (.tmp 77) rfl rfl H2.out 8 (by omega) _ rfl rfl ?_;intro w3 h3 g3;have H3:Hid (Own w3 _ _ _ _):=h3;have G3:Hid (w2.grownBy w3 (some g)):=g3;clear h3 g3)
  | (refine wpList_put rfl (.tmp 91) (.tmp 90) rfl rfl H3.out 0 (by omega) _ rfl rfl ?_;intro w4 h4 g4;have H4:Hid (Own w4 _ _ _ _):=h4;have G4:Hid (w3.grownBy w4 (some g)):=g4;clear h4 g4)
  | (go_at_call 73;with_reducible refine (l5Bit3 _ _).mono ?_;rintro e wx ⟨rfl,hwx⟩;have hwy:=hwx.symm;subst hwy))
 go_ret2
 exact ⟨rfl,by rw [ST.out,TL.out];exact H4.out,grown_trans G1.out (grown_trans G2.out (grown_trans G3.out G4.out))⟩

set_option maxRecDepth 100000 in
set_option maxHeartbeats 3200000 in
theorem l5Enter_0me (base g cap:Nat) (l:List Int) (pc v:Int) (k:Nat) (hk:k < 16) (hd:(bitAt (l.getD 1 0) k==1)=false) (w:World) (h:Own w base g cap l) :
 Calls Tryz.prog 58 #[.slice (some ⟨g,0,none⟩) 22 cap,.int .i64 0,.int .u64 pc,.int .i64 k,.bool false,.int .u64 v] w fun e w' =>
  e=.returned (.tuple #[.int .i64 3,.int .u64 (bits .andNot .u64 (l.getD 4 0) 1)])∧Own w' base g cap ((((l.set 7 (toldV k false)).set 6 (bits .andNot .u64 pc 3)).set 8 v).set 0 (statM (l.getD 0 0) 0))∧w.grownBy w' (some g):=by
 have H:Hid (Own w base g cap l):=h
 have c0:=h.cell 0 (by omega)
 have c1:=h.cell 1 (by omega)
 have c2:=h.cell 2 (by omega)
 have c4:=h.cell 4 (by omega)
 clear h
 have ek:IntKind.u64.wrap (k:Int)=k:=by rw [IntKind.wrap_u64];omega
 have ek4:IntKind.u64.wrap (4*(k:Int))=4*k:=by rw [IntKind.wrap_u64];omega
 have HB:Hid (∀ w:World,Calls Tryz.prog 73 #[.int .u64 (l.getD 1 0),.int .u64 k] w fun e w'=>e=.returned (.int .u64 (bitAt (l.getD 1 0) k))∧w'=w):=l5Bit_any _ k (by omega)
 have ST:Hid (statM (l.getD 0 0) 0=bits .or .u64 (bits .or .u64 (bits .andNot .u64 (l.getD 0 0) 6280) (IntKind.u64.wrap (bitAt (l.getD 0 0) 3*128))) 0):=by show _=_;rfl
 have TL:Hid (toldV k false=(k:Int)):=(rfl:toldV k false=_)
 generalize statM (l.getD 0 0) 0=sm at *
 obtain ⟨l0,h0⟩:∃ y,l.getD 0 0=y:=⟨_,rfl⟩
 obtain ⟨l1,hl1⟩:∃ y,l.getD 1 0=y:=⟨_,rfl⟩
 obtain ⟨l2,hl2⟩:∃ y,l.getD 2 0=y:=⟨_,rfl⟩
 obtain ⟨l4,hl4⟩:∃ y,l.getD 4 0=y:=⟨_,rfl⟩
 obtain ⟨l10,hl10⟩:∃ y,l.getD 10 0=y:=⟨_,rfl⟩
 rw [h0] at c0 ST
 rw [hl1] at c1
 rw [hl2] at c2
 rw [hl4] at c4
 rw [hl1] at hd HB
 rw [hl4]
 clear h0 hl1 hl2 hl4 hl10
 generalize bitAt l1 k=bk at *
 go_enter Tryz.func58,Tryz.ntmps58
 go_wp2_with (first
  | (refine wpList_put rfl (.tmp 71) (.tmp 70) rfl rfl H.out 7 (by omega) _ rfl rfl ?_;intro w1 h1 g1;have H1:Hid (Own w1 _ _ _ _):=h1;have G1:Hid (w.grownBy w1 (some g)):=g1;clear h1 g1)
  | (refine wpList_put rfl (.tmp 75) (.tmp 74) rfl rfl H1.out 6 (by omega) _ rfl rfl ?_;intro w2 h2 g2;have H2:Hid (Own w2 _ _ _ _):=h2;have G2:Hid (w1.grownBy w2 (some g)):=g2;clear h2 g2)
  | (refine wpList_put rfl (.tmp 78) (.tmp 77) rfl rfl H2.out 8 (by omega) _ rfl rfl ?_;intro w3 h3 g3;have H3:Hid (Own w3 _ _ _ _):=h3;have G3:Hid (w2.grownBy w3 (some g)):=g3;clear h3 g3)
  | (go_at_call 73;with_reducible refine (HB.out _).mono ?_;rintro e wx ⟨rfl,hwx⟩;have hwy:=hwx.symm;subst hwy)
  | (refine wpList_put rfl (.tmp 91) (.tmp 90) rfl rfl H3.out 0 (by omega) _ rfl rfl ?_;intro w4 h4 g4;have H4:Hid (Own w4 _ _ _ _):=h4;have G4:Hid (w3.grownBy w4 (some g)):=g4;clear h4 g4)
  | (go_at_call 73;with_reducible refine (l5Bit3 _ _).mono ?_;rintro e wx ⟨rfl,hwx⟩;have hwy:=hwx.symm;subst hwy))
 go_ret2
 exact ⟨rfl,by rw [ST.out,TL.out];exact H4.out,grown_trans G1.out (grown_trans G2.out (grown_trans G3.out G4.out))⟩

set_option maxRecDepth 100000 in
set_option maxHeartbeats 3200000 in
theorem l5Enter_0mi (base g cap:Nat) (l:List Int) (pc v:Int) (k:Nat) (hk:k < 16) (hd:(bitAt (l.getD 2 0) k==1)=false) (hj:(bits .and .u64 (l.getD 4 0) 1==1)=false) (w:World) (h:Own w base g cap l) :
 Calls Tryz.prog 58 #[.slice (some ⟨g,0,none⟩) 22 cap,.int .i64 0,.int .u64 pc,.int .i64 k,.bool true,.int .u64 v] w fun e w' =>
  e=.returned (.tuple #[.int .i64 3,.int .u64 (bits .andNot .u64 (l.getD 4 0) 1)])∧Own w' base g cap ((((l.set 7 (toldV k true)).set 6 (bits .andNot .u64 pc 3)).set 8 v).set 0 (statM (l.getD 0 0) 0))∧w.grownBy w' (some g):=by
 have H:Hid (Own w base g cap l):=h
 have c0:=h.cell 0 (by omega)
 have c1:=h.cell 1 (by omega)
 have c2:=h.cell 2 (by omega)
 have c4:=h.cell 4 (by omega)
 clear h
 have ek:IntKind.u64.wrap (k:Int)=k:=by rw [IntKind.wrap_u64];omega
 have ek4:IntKind.u64.wrap (4*(k:Int))=4*k:=by rw [IntKind.wrap_u64];omega
 have HB:Hid (∀ w:World,Calls Tryz.prog 73 #[.int .u64 (l.getD 2 0),.int .u64 k] w fun e w'=>e=.returned (.int .u64 (bitAt (l.getD 2 0) k))∧w'=w):=l5Bit_any _ k (by omega)
 have ST:Hid (statM (l.getD 0 0) 0=bits .or .u64 (bits .or .u64 (bits .andNot .u64 (l.getD 0 0) 6280) (IntKind.u64.wrap (bitAt (l.getD 0 0) 3*128))) 0):=by show _=_;rfl
 have TL:Hid (toldV k true=bits .or .u64 (k:Int) 9223372036854775808):=(rfl:toldV k true=_)
 generalize statM (l.getD 0 0) 0=sm at *
 obtain ⟨l0,h0⟩:∃ y,l.getD 0 0=y:=⟨_,rfl⟩
 obtain ⟨l1,hl1⟩:∃ y,l.getD 1 0=y:=⟨_,rfl⟩
 obtain ⟨l2,hl2⟩:∃ y,l.getD 2 0=y:=⟨_,rfl⟩
 obtain ⟨l4,hl4⟩:∃ y,l.getD 4 0=y:=⟨_,rfl⟩
 obtain ⟨l10,hl10⟩:∃ y,l.getD 10 0=y:=⟨_,rfl⟩
 rw [h0] at c0 ST
 rw [hl1] at c1
 rw [hl2] at c2
 rw [hl4] at c4
 rw [hl2] at hd HB
 rw [hl4] at hj
 rw [hl4]
 clear h0 hl1 hl2 hl4 hl10
 generalize bitAt l2 k=bk at *
 go_enter Tryz.func58,Tryz.ntmps58
 go_wp2_with (first
  | (refine wpList_put rfl (.tmp 71) (.tmp 70) rfl rfl H.out 7 (by omega) _ rfl rfl ?_;intro w1 h1 g1;have H1:Hid (Own w1 _ _ _ _):=h1;have G1:Hid (w.grownBy w1 (some g)):=g1;clear h1 g1)
  | (refine wpList_put rfl (.tmp 75) (.tmp 74) rfl rfl H1.out 6 (by omega) _ rfl rfl ?_;intro w2 h2 g2;have H2:Hid (Own w2 _ _ _ _):=h2;have G2:Hid (w1.grownBy w2 (some g)):=g2;clear h2 g2)
  | (refine wpList_put rfl (.tmp 78) (.tmp 77) rfl rfl H2.out 8 (by omega) _ rfl rfl ?_;intro w3 h3 g3;have H3:Hid (Own w3 _ _ _ _):=h3;have G3:Hid (w2.grownBy w3 (some g)):=g3;clear h3 g3)
  | (go_at_call 73;with_reducible refine (HB.out _).mono ?_;rintro e wx ⟨rfl,hwx⟩;have hwy:=hwx.symm;subst hwy)
  | (refine wpList_put rfl (.tmp 91) (.tmp 90) rfl rfl H3.out 0 (by omega) _ rfl rfl ?_;intro w4 h4 g4;have H4:Hid (Own w4 _ _ _ _):=h4;have G4:Hid (w3.grownBy w4 (some g)):=g4;clear h4 g4)
  | (go_at_call 73;with_reducible refine (l5Bit3 _ _).mono ?_;rintro e wx ⟨rfl,hwx⟩;have hwy:=hwx.symm;subst hwy))
 go_ret2
 exact ⟨rfl,by rw [ST.out,TL.out];exact H4.out,grown_trans G1.out (grown_trans G2.out (grown_trans G3.out G4.out))⟩

set_option maxRecDepth 100000 in
set_option maxHeartbeats 3200000 in
theorem l5Enter_0mij (base g cap:Nat) (l:List Int) (pc v:Int) (k:Nat) (hk:k < 16) (hd:(bitAt (l.getD 2 0) k==1)=false) (hj:(bits .and .u64 (l.getD 4 0) 1==1)=true) (w:World) (h:Own w base g cap l) :
 Calls Tryz.prog 58 #[.slice (some ⟨g,0,none⟩) 22 cap,.int .i64 0,.int .u64 pc,.int .i64 k,.bool true,.int .u64 v] w fun e w' =>
  e=.returned (.tuple #[.int .i64 3,.int .u64 (IntKind.u64.wrap (bits .andNot .u64 (l.getD 4 0) 1+IntKind.u64.wrap (4*k)))])∧Own w' base g cap ((((l.set 7 (toldV k true)).set 6 (bits .andNot .u64 pc 3)).set 8 v).set 0 (statM (l.getD 0 0) 0))∧w.grownBy w' (some g):=by
 have H:Hid (Own w base g cap l):=h
 have c0:=h.cell 0 (by omega)
 have c1:=h.cell 1 (by omega)
 have c2:=h.cell 2 (by omega)
 have c4:=h.cell 4 (by omega)
 clear h
 have ek:IntKind.u64.wrap (k:Int)=k:=by rw [IntKind.wrap_u64];omega
 have ek4:IntKind.u64.wrap (4*(k:Int))=4*k:=by rw [IntKind.wrap_u64];omega
 rw [ek4]
 have HB:Hid (∀ w:World,Calls Tryz.prog 73 #[.int .u64 (l.getD 2 0),.int .u64 k] w fun e w'=>e=.returned (.int .u64 (bitAt (l.getD 2 0) k))∧w'=w):=l5Bit_any _ k (by omega)
 have ST:Hid (statM (l.getD 0 0) 0=bits .or .u64 (bits .or .u64 (bits .andNot .u64 (l.getD 0 0) 6280) (IntKind.u64.wrap (bitAt (l.getD 0 0) 3*128))) 0):=by show _=_;rfl
 have TL:Hid (toldV k true=bits .or .u64 (k:Int) 9223372036854775808):=(rfl:toldV k true=_)
 generalize statM (l.getD 0 0) 0=sm at *
 obtain ⟨l0,h0⟩:∃ y,l.getD 0 0=y:=⟨_,rfl⟩
 obtain ⟨l1,hl1⟩:∃ y,l.getD 1 0=y:=⟨_,rfl⟩
 obtain ⟨l2,hl2⟩:∃ y,l.getD 2 0=y:=⟨_,rfl⟩
 obtain ⟨l4,hl4⟩:∃ y,l.getD 4 0=y:=⟨_,rfl⟩
 obtain ⟨l10,hl10⟩:∃ y,l.getD 10 0=y:=⟨_,rfl⟩
 rw [h0] at c0 ST
 rw [hl1] at c1
 rw [hl2] at c2
 rw [hl4] at c4
 rw [hl2] at hd HB
 rw [hl4] at hj
 rw [hl4]
 clear h0 hl1 hl2 hl4 hl10
 generalize bitAt l2 k=bk at *
 go_enter Tryz.func58,Tryz.ntmps58
 go_wp2_with (first
  | (refine wpList_put rfl (.tmp 71) (.tmp 70) rfl rfl H.out 7 (by omega) _ rfl rfl ?_;intro w1 h1 g1;have H1:Hid (Own w1 _ _ _ _):=h1;have G1:Hid (w.grownBy w1 (some g)):=g1;clear h1 g1)
  | (refine wpList_put rfl (.tmp 75) (.tmp 74) rfl rfl H1.out 6 (by omega) _ rfl rfl ?_;intro w2 h2 g2;have H2:Hid (Own w2 _ _ _ _):=h2;have G2:Hid (w1.grownBy w2 (some g)):=g2;clear h2 g2)
  | (refine wpList_put rfl (.tmp 78) (.tmp 77) rfl rfl H2.out 8 (by omega) _ rfl rfl ?_;intro w3 h3 g3;have H3:Hid (Own w3 _ _ _ _):=h3;have G3:Hid (w2.grownBy w3 (some g)):=g3;clear h3 g3)
  | (go_at_call 73;with_reducible refine (HB.out _).mono ?_;rintro e wx ⟨rfl,hwx⟩;have hwy:=hwx.symm;subst hwy)
  | (refine wpList_put rfl (.tmp 91) (.tmp 90) rfl rfl H3.out 0 (by omega) _ rfl rfl ?_;intro w4 h4 g4;have H4:Hid (Own w4 _ _ _ _):=h4;have G4:Hid (w3.grownBy w4 (some g)):=g4;clear h4 g4)
  | (go_at_call 73;with_reducible refine (l5Bit3 _ _).mono ?_;rintro e wx ⟨rfl,hwx⟩;have hwy:=hwx.symm;subst hwy))
 go_ret2
 exact ⟨rfl,by rw [ST.out,TL.out];exact H4.out,grown_trans G1.out (grown_trans G2.out (grown_trans G3.out G4.out))⟩

set_option maxRecDepth 100000 in
set_option maxHeartbeats 3200000 in
theorem l5Enter_0de (base g cap:Nat) (l:List Int) (pc v:Int) (k:Nat) (hk:k < 16) (hd:(bitAt (l.getD 1 0) k==1)=true) (w:World) (h:Own w base g cap l) :
 Calls Tryz.prog 58 #[.slice (some ⟨g,0,none⟩) 22 cap,.int .i64 0,.int .u64 pc,.int .i64 k,.bool false,.int .u64 v] w fun e w' =>
  e=.returned (.tuple #[.int .i64 1,.int .u64 (bits .andNot .u64 (l.getD 10 0) 1)])∧Own w' base g cap ((((l.set 13 (toldV k false)).set 12 (bits .andNot .u64 pc 3)).set 14 v).set 0 (statS (l.getD 0 0) false))∧w.grownBy w' (some g):=by
 have H:Hid (Own w base g cap l):=h
 have c0:=h.cell 0 (by omega)
 have c1:=h.cell 1 (by omega)
 have c2:=h.cell 2 (by omega)
 have c4:=h.cell 4 (by omega)
 clear h
 have ek:IntKind.u64.wrap (k:Int)=k:=by rw [IntKind.wrap_u64];omega
 have ek4:IntKind.u64.wrap (4*(k:Int))=4*k:=by rw [IntKind.wrap_u64];omega
 have HB:Hid (∀ w:World,Calls Tryz.prog 73 #[.int .u64 (l.getD 1 0),.int .u64 k] w fun e w'=>e=.returned (.int .u64 (bitAt (l.getD 1 0) k))∧w'=w):=l5Bit_any _ k (by omega)
 have ST:Hid (statS (l.getD 0 0) false=bits .or .u64 (bits .andNot .u64 (l.getD 0 0) 290) (IntKind.u64.wrap (bitAt (l.getD 0 0) 1*32))):=by show _=_;rfl
 have TL:Hid (toldV k false=(k:Int)):=(rfl:toldV k false=_)
 generalize statS (l.getD 0 0) false=sm at *
 obtain ⟨l0,h0⟩:∃ y,l.getD 0 0=y:=⟨_,rfl⟩
 obtain ⟨l1,hl1⟩:∃ y,l.getD 1 0=y:=⟨_,rfl⟩
 obtain ⟨l2,hl2⟩:∃ y,l.getD 2 0=y:=⟨_,rfl⟩
 obtain ⟨l4,hl4⟩:∃ y,l.getD 4 0=y:=⟨_,rfl⟩
 obtain ⟨l10,hl10⟩:∃ y,l.getD 10 0=y:=⟨_,rfl⟩
 rw [h0] at c0 ST
 rw [hl1] at c1
 rw [hl2] at c2
 rw [hl4] at c4
 rw [hl1] at hd HB
 rw [hl10]
 have HL10:Hid (l.getD 10 0=l10):=hl10
 clear h0 hl1 hl2 hl4 hl10
 generalize bitAt l1 k=bk at *
 go_enter Tryz.func58,Tryz.ntmps58
 go_wp2_with (first
  | (refine wpList_put rfl (.tmp 48) (.tmp 47) rfl rfl H.out 13 (by omega) _ rfl rfl ?_;intro w1 h1 g1;have H1:Hid (Own w1 _ _ _ _):=h1;have G1:Hid (w.grownBy w1 (some g)):=g1;clear h1 g1)
  | (refine wpList_put rfl (.tmp 52) (.tmp 51) rfl rfl H1.out 12 (by omega) _ rfl rfl ?_;intro w2 h2 g2;have H2:Hid (Own w2 _ _ _ _):=h2;have G2:Hid (w1.grownBy w2 (some g)):=g2;clear h2 g2)
  | (refine wpList_put rfl (.tmp 55) (.tmp 54) rfl rfl H2.out 14 (by omega) _ rfl rfl ?_;intro w3 h3 g3;have H3:Hid (Own w3 _ _ _ _):=h3;have G3:Hid (w2.grownBy w3 (some g)):=g3;clear h3 g3;have c10:w3.cell? ⟨g,10,none⟩=some (.int .u64 l10):=by (have e:=H3.out.cell 10 (by omega);rw [set_get _ _ _ _ (by omega),set_get _ _ _ _ (by omega),set_get _ _ _ _ (by omega),HL10.out] at e;exact e))
  | (go_at_call 73;with_reducible refine (HB.out _).mono ?_;rintro e wx ⟨rfl,hwx⟩;have hwy:=hwx.symm;subst hwy)
  | (refine wpList_put rfl (.tmp 91) (.tmp 90) rfl rfl H3.out 0 (by omega) _ rfl rfl ?_;intro w4 h4 g4;have H4:Hid (Own w4 _ _ _ _):=h4;have G4:Hid (w3.grownBy w4 (some g)):=g4;clear h4 g4)
  | (go_at_call 73;with_reducible refine (l5Bit1 _ _).mono ?_;rintro e wx ⟨rfl,hwx⟩;have hwy:=hwx.symm;subst hwy))
 go_ret2
 exact ⟨rfl,by rw [ST.out,TL.out];exact H4.out,grown_trans G1.out (grown_trans G2.out (grown_trans G3.out G4.out))⟩

set_option maxRecDepth 100000 in
set_option maxHeartbeats 3200000 in
theorem l5Enter_0di (base g cap:Nat) (l:List Int) (pc v:Int) (k:Nat) (hk:k < 16) (hd:(bitAt (l.getD 2 0) k==1)=true) (hj:(bits .and .u64 (l.getD 10 0) 1==1)=false) (w:World) (h:Own w base g cap l) :
 Calls Tryz.prog 58 #[.slice (some ⟨g,0,none⟩) 22 cap,.int .i64 0,.int .u64 pc,.int .i64 k,.bool true,.int .u64 v] w fun e w' =>
  e=.returned (.tuple #[.int .i64 1,.int .u64 (bits .andNot .u64 (l.getD 10 0) 1)])∧Own w' base g cap ((((l.set 13 (toldV k true)).set 12 (bits .andNot .u64 pc 3)).set 14 v).set 0 (statS (l.getD 0 0) false))∧w.grownBy w' (some g):=by
 have H:Hid (Own w base g cap l):=h
 have c0:=h.cell 0 (by omega)
 have c1:=h.cell 1 (by omega)
 have c2:=h.cell 2 (by omega)
 have c4:=h.cell 4 (by omega)
 clear h
 have ek:IntKind.u64.wrap (k:Int)=k:=by rw [IntKind.wrap_u64];omega
 have ek4:IntKind.u64.wrap (4*(k:Int))=4*k:=by rw [IntKind.wrap_u64];omega
 have HB:Hid (∀ w:World,Calls Tryz.prog 73 #[.int .u64 (l.getD 2 0),.int .u64 k] w fun e w'=>e=.returned (.int .u64 (bitAt (l.getD 2 0) k))∧w'=w):=l5Bit_any _ k (by omega)
 have ST:Hid (statS (l.getD 0 0) false=bits .or .u64 (bits .andNot .u64 (l.getD 0 0) 290) (IntKind.u64.wrap (bitAt (l.getD 0 0) 1*32))):=by show _=_;rfl
 have TL:Hid (toldV k true=bits .or .u64 (k:Int) 9223372036854775808):=(rfl:toldV k true=_)
 generalize statS (l.getD 0 0) false=sm at *
 obtain ⟨l0,h0⟩:∃ y,l.getD 0 0=y:=⟨_,rfl⟩
 obtain ⟨l1,hl1⟩:∃ y,l.getD 1 0=y:=⟨_,rfl⟩
 obtain ⟨l2,hl2⟩:∃ y,l.getD 2 0=y:=⟨_,rfl⟩
 obtain ⟨l4,hl4⟩:∃ y,l.getD 4 0=y:=⟨_,rfl⟩
 obtain ⟨l10,hl10⟩:∃ y,l.getD 10 0=y:=⟨_,rfl⟩
 rw [h0] at c0 ST
 rw [hl1] at c1
 rw [hl2] at c2
 rw [hl4] at c4
 rw [hl2] at hd HB
 rw [hl10] at hj
 rw [hl10]
 have HL10:Hid (l.getD 10 0=l10):=hl10
 clear h0 hl1 hl2 hl4 hl10
 generalize bitAt l2 k=bk at *
 go_enter Tryz.func58,Tryz.ntmps58
 go_wp2_with (first
  | (refine wpList_put rfl (.tmp 48) (.tmp 47) rfl rfl H.out 13 (by omega) _ rfl rfl ?_;intro w1 h1 g1;have H1:Hid (Own w1 _ _ _ _):=h1;have G1:Hid (w.grownBy w1 (some g)):=g1;clear h1 g1)
  | (refine wpList_put rfl (.tmp 52) (.tmp 51) rfl rfl H1.out 12 (by omega) _ rfl rfl ?_;intro w2 h2 g2;have H2:Hid (Own w2 _ _ _ _):=h2;have G2:Hid (w1.grownBy w2 (some g)):=g2;clear h2 g2)
  | (refine wpList_put rfl (.tmp 55) (.tmp 54) rfl rfl H2.out 14 (by omega) _ rfl rfl ?_;intro w3 h3 g3;have H3:Hid (Own w3 _ _ _ _):=h3;have G3:Hid (w2.grownBy w3 (some g)):=g3;clear h3 g3;have c10:w3.cell? ⟨g,10,none⟩=some (.int .u64 l10):=by (have e:=H3.out.cell 10 (by omega);rw [set_get _ _ _ _ (by omega),set_get _ _ _ _ (by omega),set_get _ _ _ _ (by omega),HL10.out] at e;exact e))
  | (go_at_call 73;with_reducible refine (HB.out _).mono ?_;rintro e wx ⟨rfl,hwx⟩;have hwy:=hwx.symm;subst hwy)
  | (refine wpList_put rfl (.tmp 91) (.tmp 90) rfl rfl H3.out 0 (by omega) _ rfl rfl ?_;intro w4 h4 g4;have H4:Hid (Own w4 _ _ _ _):=h4;have G4:Hid (w3.grownBy w4 (some g)):=g4;clear h4 g4)
  | (go_at_call 73;with_reducible refine (l5Bit1 _ _).mono ?_;rintro e wx ⟨rfl,hwx⟩;have hwy:=hwx.symm;subst hwy))
 go_ret2
 exact ⟨rfl,by rw [ST.out,TL.out];exact H4.out,grown_trans G1.out (grown_trans G2.out (grown_trans G3.out G4.out))⟩

set_option maxRecDepth 100000 in
set_option maxHeartbeats 3200000 in
theorem l5Enter_0dij (base g cap:Nat) (l:List Int) (pc v:Int) (k:Nat) (hk:k < 16) (hd:(bitAt (l.getD 2 0) k==1)=true) (hj:(bits .and .u64 (l.getD 10 0) 1==1)=true) (w:World) (h:Own w base g cap l) :
 Calls Tryz.prog 58 #[.slice (some ⟨g,0,none⟩) 22 cap,.int .i64 0,.int .u64 pc,.int .i64 k,.bool true,.int .u64 v] w fun e w' =>
  e=.returned (.tuple #[.int .i64 1,.int .u64 (IntKind.u64.wrap (bits .andNot .u64 (l.getD 10 0) 1+IntKind.u64.wrap (4*k)))])∧Own w' base g cap ((((l.set 13 (toldV k true)).set 12 (bits .andNot .u64 pc 3)).set 14 v).set 0 (statS (l.getD 0 0) false))∧w.grownBy w' (some g):=by
 have H:Hid (Own w base g cap l):=h
 have c0:=h.cell 0 (by omega)
 have c1:=h.cell 1 (by omega)
 have c2:=h.cell 2 (by omega)
 have c4:=h.cell 4 (by omega)
 clear h
 have ek:IntKind.u64.wrap (k:Int)=k:=by rw [IntKind.wrap_u64];omega
 have ek4:IntKind.u64.wrap (4*(k:Int))=4*k:=by rw [IntKind.wrap_u64];omega
 rw [ek4]
 have HB:Hid (∀ w:World,Calls Tryz.prog 73 #[.int .u64 (l.getD 2 0),.int .u64 k] w fun e w'=>e=.returned (.int .u64 (bitAt (l.getD 2 0) k))∧w'=w):=l5Bit_any _ k (by omega)
 have ST:Hid (statS (l.getD 0 0) false=bits .or .u64 (bits .andNot .u64 (l.getD 0 0) 290) (IntKind.u64.wrap (bitAt (l.getD 0 0) 1*32))):=by show _=_;rfl
 have TL:Hid (toldV k true=bits .or .u64 (k:Int) 9223372036854775808):=(rfl:toldV k true=_)
 generalize statS (l.getD 0 0) false=sm at *
 obtain ⟨l0,h0⟩:∃ y,l.getD 0 0=y:=⟨_,rfl⟩
 obtain ⟨l1,hl1⟩:∃ y,l.getD 1 0=y:=⟨_,rfl⟩
 obtain ⟨l2,hl2⟩:∃ y,l.getD 2 0=y:=⟨_,rfl⟩
 obtain ⟨l4,hl4⟩:∃ y,l.getD 4 0=y:=⟨_,rfl⟩
 obtain ⟨l10,hl10⟩:∃ y,l.getD 10 0=y:=⟨_,rfl⟩
 rw [h0] at c0 ST
 rw [hl1] at c1
 rw [hl2] at c2
 rw [hl4] at c4
 rw [hl2] at hd HB
 rw [hl10] at hj
 rw [hl10]
 have HL10:Hid (l.getD 10 0=l10):=hl10
 clear h0 hl1 hl2 hl4 hl10
 generalize bitAt l2 k=bk at *
 go_enter Tryz.func58,Tryz.ntmps58
 go_wp2_with (first
  | (refine wpList_put rfl (.tmp 48) (.tmp 47) rfl rfl H.out 13 (by omega) _ rfl rfl ?_;intro w1 h1 g1;have H1:Hid (Own w1 _ _ _ _):=h1;have G1:Hid (w.grownBy w1 (some g)):=g1;clear h1 g1)
  | (refine wpList_put rfl (.tmp 52) (.tmp 51) rfl rfl H1.out 12 (by omega) _ rfl rfl ?_;intro w2 h2 g2;have H2:Hid (Own w2 _ _ _ _):=h2;have G2:Hid (w1.grownBy w2 (some g)):=g2;clear h2 g2)
  | (refine wpList_put rfl (.tmp 55) (.tmp 54) rfl rfl H2.out 14 (by omega) _ rfl rfl ?_;intro w3 h3 g3;have H3:Hid (Own w3 _ _ _ _):=h3;have G3:Hid (w2.grownBy w3 (some g)):=g3;clear h3 g3;have c10:w3.cell? ⟨g,10,none⟩=some (.int .u64 l10):=by (have e:=H3.out.cell 10 (by omega);rw [set_get _ _ _ _ (by omega),set_get _ _ _ _ (by omega),set_get _ _ _ _ (by omega),HL10.out] at e;exact e))
  | (go_at_call 73;with_reducible refine (HB.out _).mono ?_;rintro e wx ⟨rfl,hwx⟩;have hwy:=hwx.symm;subst hwy)
  | (refine wpList_put rfl (.tmp 91) (.tmp 90) rfl rfl H3.out 0 (by omega) _ rfl rfl ?_;intro w4 h4 g4;have H4:Hid (Own w4 _ _ _ _):=h4;have G4:Hid (w3.grownBy w4 (some g)):=g4;clear h4 g4)
  | (go_at_call 73;with_reducible refine (l5Bit1 _ _).mono ?_;rintro e wx ⟨rfl,hwx⟩;have hwy:=hwx.symm;subst hwy))
 go_ret2
 exact ⟨rfl,by rw [ST.out,TL.out];exact H4.out,grown_trans G1.out (grown_trans G2.out (grown_trans G3.out G4.out))⟩

set_option maxRecDepth 100000 in
set_option maxHeartbeats 3200000 in
theorem l5Enter_1me (base g cap:Nat) (l:List Int) (pc v:Int) (k:Nat) (hk:k < 16) (hd:(bitAt (l.getD 1 0) k==1)=false) (w:World) (h:Own w base g cap l) :
 Calls Tryz.prog 58 #[.slice (some ⟨g,0,none⟩) 22 cap,.int .i64 1,.int .u64 pc,.int .i64 k,.bool false,.int .u64 v] w fun e w' =>
  e=.returned (.tuple #[.int .i64 3,.int .u64 (bits .andNot .u64 (l.getD 4 0) 1)])∧Own w' base g cap ((((l.set 7 (toldV k false)).set 6 (bits .andNot .u64 pc 3)).set 8 v).set 0 (statM (l.getD 0 0) 1))∧w.grownBy w' (some g):=by
 have H:Hid (Own w base g cap l):=h
 have c0:=h.cell 0 (by omega)
 have c1:=h.cell 1 (by omega)
 have c2:=h.cell 2 (by omega)
 have c4:=h.cell 4 (by omega)
 clear h
 have ek:IntKind.u64.wrap (k:Int)=k:=by rw [IntKind.wrap_u64];omega
 have ek4:IntKind.u64.wrap (4*(k:Int))=4*k:=by rw [IntKind.wrap_u64];omega
 have HB:Hid (∀ w:World,Calls Tryz.prog 73 #[.int .u64 (l.getD 1 0),.int .u64 k] w fun e w'=>e=.returned (.int .u64 (bitAt (l.getD 1 0) k))∧w'=w):=l5Bit_any _ k (by omega)
 have ST:Hid (statM (l.getD 0 0) 1=bits .or .u64 (bits .or .u64 (bits .andNot .u64 (l.getD 0 0) 6280) (IntKind.u64.wrap (bitAt (l.getD 0 0) 3*128))) 2048):=by show _=_;rfl
 have TL:Hid (toldV k false=(k:Int)):=(rfl:toldV k false=_)
 generalize statM (l.getD 0 0) 1=sm at *
 obtain ⟨l0,h0⟩:∃ y,l.getD 0 0=y:=⟨_,rfl⟩
 obtain ⟨l1,hl1⟩:∃ y,l.getD 1 0=y:=⟨_,rfl⟩
 obtain ⟨l2,hl2⟩:∃ y,l.getD 2 0=y:=⟨_,rfl⟩
 obtain ⟨l4,hl4⟩:∃ y,l.getD 4 0=y:=⟨_,rfl⟩
 obtain ⟨l10,hl10⟩:∃ y,l.getD 10 0=y:=⟨_,rfl⟩
 rw [h0] at c0 ST
 rw [hl1] at c1
 rw [hl2] at c2
 rw [hl4] at c4
 rw [hl1] at hd HB
 rw [hl4]
 clear h0 hl1 hl2 hl4 hl10
 generalize bitAt l1 k=bk at *
 go_enter Tryz.func58,Tryz.ntmps58
 go_wp2_with (first
  | (refine wpList_put rfl (.tmp 71) (.tmp 70) rfl rfl H.out 7 (by omega) _ rfl rfl ?_;intro w1 h1 g1;have H1:Hid (Own w1 _ _ _ _):=h1;have G1:Hid (w.grownBy w1 (some g)):=g1;clear h1 g1)
  | (refine wpList_put rfl (.tmp 75) (.tmp 74) rfl rfl H1.out 6 (by omega) _ rfl rfl ?_;intro w2 h2 g2;have H2:Hid (Own w2 _ _ _ _):=h2;have G2:Hid (w1.grownBy w2 (some g)):=g2;clear h2 g2)
  | (refine wpList_put rfl (.tmp 78) (.tmp 77) rfl rfl H2.out 8 (by omega) _ rfl rfl ?_;intro w3 h3 g3;have H3:Hid (Own w3 _ _ _ _):=h3;have G3:Hid (w2.grownBy w3 (some g)):=g3;clear h3 g3)
  | (go_at_call 73;with_reducible refine (HB.out _).mono ?_;rintro e wx ⟨rfl,hwx⟩;have hwy:=hwx.symm;subst hwy)
  | (refine wpList_put rfl (.tmp 91) (.tmp 90) rfl rfl H3.out 0 (by omega) _ rfl rfl ?_;intro w4 h4 g4;have H4:Hid (Own w4 _ _ _ _):=h4;have G4:Hid (w3.grownBy w4 (some g)):=g4;clear h4 g4)
  | (go_at_call 73;with_reducible refine (l5Bit3 _ _).mono ?_;rintro e wx ⟨rfl,hwx⟩;have hwy:=hwx.symm;subst hwy))
 go_ret2
 exact ⟨rfl,by rw [ST.out,TL.out];exact H4.out,grown_trans G1.out (grown_trans G2.out (grown_trans G3.out G4.out))⟩

set_option maxRecDepth 100000 in
set_option maxHeartbeats 3200000 in
theorem l5Enter_1mi (base g cap:Nat) (l:List Int) (pc v:Int) (k:Nat) (hk:k < 16) (hd:(bitAt (l.getD 2 0) k==1)=false) (hj:(bits .and .u64 (l.getD 4 0) 1==1)=false) (w:World) (h:Own w base g cap l) :
 Calls Tryz.prog 58 #[.slice (some ⟨g,0,none⟩) 22 cap,.int .i64 1,.int .u64 pc,.int .i64 k,.bool true,.int .u64 v] w fun e w' =>
  e=.returned (.tuple #[.int .i64 3,.int .u64 (bits .andNot .u64 (l.getD 4 0) 1)])∧Own w' base g cap ((((l.set 7 (toldV k true)).set 6 (bits .andNot .u64 pc 3)).set 8 v).set 0 (statM (l.getD 0 0) 1))∧w.grownBy w' (some g):=by
 have H:Hid (Own w base g cap l):=h
 have c0:=h.cell 0 (by omega)
 have c1:=h.cell 1 (by omega)
 have c2:=h.cell 2 (by omega)
 have c4:=h.cell 4 (by omega)
 clear h
 have ek:IntKind.u64.wrap (k:Int)=k:=by rw [IntKind.wrap_u64];omega
 have ek4:IntKind.u64.wrap (4*(k:Int))=4*k:=by rw [IntKind.wrap_u64];omega
 have HB:Hid (∀ w:World,Calls Tryz.prog 73 #[.int .u64 (l.getD 2 0),.int .u64 k] w fun e w'=>e=.returned (.int .u64 (bitAt (l.getD 2 0) k))∧w'=w):=l5Bit_any _ k (by omega)
 have ST:Hid (statM (l.getD 0 0) 1=bits .or .u64 (bits .or .u64 (bits .andNot .u64 (l.getD 0 0) 6280) (IntKind.u64.wrap (bitAt (l.getD 0 0) 3*128))) 2048):=by show _=_;rfl
 have TL:Hid (toldV k true=bits .or .u64 (k:Int) 9223372036854775808):=(rfl:toldV k true=_)
 generalize statM (l.getD 0 0) 1=sm at *
 obtain ⟨l0,h0⟩:∃ y,l.getD 0 0=y:=⟨_,rfl⟩
 obtain ⟨l1,hl1⟩:∃ y,l.getD 1 0=y:=⟨_,rfl⟩
 obtain ⟨l2,hl2⟩:∃ y,l.getD 2 0=y:=⟨_,rfl⟩
 obtain ⟨l4,hl4⟩:∃ y,l.getD 4 0=y:=⟨_,rfl⟩
 obtain ⟨l10,hl10⟩:∃ y,l.getD 10 0=y:=⟨_,rfl⟩
 rw [h0] at c0 ST
 rw [hl1] at c1
 rw [hl2] at c2
 rw [hl4] at c4
 rw [hl2] at hd HB
 rw [hl4] at hj
 rw [hl4]
 clear h0 hl1 hl2 hl4 hl10
 generalize bitAt l2 k=bk at *
 go_enter Tryz.func58,Tryz.ntmps58
 go_wp2_with (first
  | (refine wpList_put rfl (.tmp 71) (.tmp 70) rfl rfl H.out 7 (by omega) _ rfl rfl ?_;intro w1 h1 g1;have H1:Hid (Own w1 _ _ _ _):=h1;have G1:Hid (w.grownBy w1 (some g)):=g1;clear h1 g1)
  | (refine wpList_put rfl (.tmp 75) (.tmp 74) rfl rfl H1.out 6 (by omega) _ rfl rfl ?_;intro w2 h2 g2;have H2:Hid (Own w2 _ _ _ _):=h2;have G2:Hid (w1.grownBy w2 (some g)):=g2;clear h2 g2)
  | (refine wpList_put rfl (.tmp 78) (.tmp 77) rfl rfl H2.out 8 (by omega) _ rfl rfl ?_;intro w3 h3 g3;have H3:Hid (Own w3 _ _ _ _):=h3;have G3:Hid (w2.grownBy w3 (some g)):=g3;clear h3 g3)
  | (go_at_call 73;with_reducible refine (HB.out _).mono ?_;rintro e wx ⟨rfl,hwx⟩;have hwy:=hwx.symm;subst hwy)
  | (refine wpList_put rfl (.tmp 91) (.tmp 90) rfl rfl H3.out 0 (by omega) _ rfl rfl ?_;intro w4 h4 g4;have H4:Hid (Own w4 _ _ _ _):=h4;have G4:Hid (w3.grownBy w4 (some g)):=g4;clear h4 g4)
  | (go_at_call 73;with_reducible refine (l5Bit3 _ _).mono ?_;rintro e wx ⟨rfl,hwx⟩;have hwy:=hwx.symm;subst hwy))
 go_ret2
 exact ⟨rfl,by rw [ST.out,TL.out];exact H4.out,grown_trans G1.out (grown_trans G2.out (grown_trans G3.out G4.out))⟩

set_option maxRecDepth 100000 in
set_option maxHeartbeats 3200000 in
theorem l5Enter_1mij (base g cap:Nat) (l:List Int) (pc v:Int) (k:Nat) (hk:k < 16) (hd:(bitAt (l.getD 2 0) k==1)=false) (hj:(bits .and .u64 (l.getD 4 0) 1==1)=true) (w:World) (h:Own w base g cap l) :
 Calls Tryz.prog 58 #[.slice (some ⟨g,0,none⟩) 22 cap,.int .i64 1,.int .u64 pc,.int .i64 k,.bool true,.int .u64 v] w fun e w' =>
  e=.returned (.tuple #[.int .i64 3,.int .u64 (IntKind.u64.wrap (bits .andNot .u64 (l.getD 4 0) 1+IntKind.u64.wrap (4*k)))])∧Own w' base g cap ((((l.set 7 (toldV k true)).set 6 (bits .andNot .u64 pc 3)).set 8 v).set 0 (statM (l.getD 0 0) 1))∧w.grownBy w' (some g):=by
 have H:Hid (Own w base g cap l):=h
 have c0:=h.cell 0 (by omega)
 have c1:=h.cell 1 (by omega)
 have c2:=h.cell 2 (by omega)
 have c4:=h.cell 4 (by omega)
 clear h
 have ek:IntKind.u64.wrap (k:Int)=k:=by rw [IntKind.wrap_u64];omega
 have ek4:IntKind.u64.wrap (4*(k:Int))=4*k:=by rw [IntKind.wrap_u64];omega
 rw [ek4]
 have HB:Hid (∀ w:World,Calls Tryz.prog 73 #[.int .u64 (l.getD 2 0),.int .u64 k] w fun e w'=>e=.returned (.int .u64 (bitAt (l.getD 2 0) k))∧w'=w):=l5Bit_any _ k (by omega)
 have ST:Hid (statM (l.getD 0 0) 1=bits .or .u64 (bits .or .u64 (bits .andNot .u64 (l.getD 0 0) 6280) (IntKind.u64.wrap (bitAt (l.getD 0 0) 3*128))) 2048):=by show _=_;rfl
 have TL:Hid (toldV k true=bits .or .u64 (k:Int) 9223372036854775808):=(rfl:toldV k true=_)
 generalize statM (l.getD 0 0) 1=sm at *
 obtain ⟨l0,h0⟩:∃ y,l.getD 0 0=y:=⟨_,rfl⟩
 obtain ⟨l1,hl1⟩:∃ y,l.getD 1 0=y:=⟨_,rfl⟩
 obtain ⟨l2,hl2⟩:∃ y,l.getD 2 0=y:=⟨_,rfl⟩
 obtain ⟨l4,hl4⟩:∃ y,l.getD 4 0=y:=⟨_,rfl⟩
 obtain ⟨l10,hl10⟩:∃ y,l.getD 10 0=y:=⟨_,rfl⟩
 rw [h0] at c0 ST
 rw [hl1] at c1
 rw [hl2] at c2
 rw [hl4] at c4
 rw [hl2] at hd HB
 rw [hl4] at hj
 rw [hl4]
 clear h0 hl1 hl2 hl4 hl10
 generalize bitAt l2 k=bk at *
 go_enter Tryz.func58,Tryz.ntmps58
 go_wp2_with (first
  | (refine wpList_put rfl (.tmp 71) (.tmp 70) rfl rfl H.out 7 (by omega) _ rfl rfl ?_;intro w1 h1 g1;have H1:Hid (Own w1 _ _ _ _):=h1;have G1:Hid (w.grownBy w1 (some g)):=g1;clear h1 g1)
  | (refine wpList_put rfl (.tmp 75) (.tmp 74) rfl rfl H1.out 6 (by omega) _ rfl rfl ?_;intro w2 h2 g2;have H2:Hid (Own w2 _ _ _ _):=h2;have G2:Hid (w1.grownBy w2 (some g)):=g2;clear h2 g2)
  | (refine wpList_put rfl (.tmp 78) (.tmp 77) rfl rfl H2.out 8 (by omega) _ rfl rfl ?_;intro w3 h3 g3;have H3:Hid (Own w3 _ _ _ _):=h3;have G3:Hid (w2.grownBy w3 (some g)):=g3;clear h3 g3)
  | (go_at_call 73;with_reducible refine (HB.out _).mono ?_;rintro e wx ⟨rfl,hwx⟩;have hwy:=hwx.symm;subst hwy)
  | (refine wpList_put rfl (.tmp 91) (.tmp 90) rfl rfl H3.out 0 (by omega) _ rfl rfl ?_;intro w4 h4 g4;have H4:Hid (Own w4 _ _ _ _):=h4;have G4:Hid (w3.grownBy w4 (some g)):=g4;clear h4 g4)
  | (go_at_call 73;with_reducible refine (l5Bit3 _ _).mono ?_;rintro e wx ⟨rfl,hwx⟩;have hwy:=hwx.symm;subst hwy))
 go_ret2
 exact ⟨rfl,by rw [ST.out,TL.out];exact H4.out,grown_trans G1.out (grown_trans G2.out (grown_trans G3.out G4.out))⟩

set_option maxRecDepth 100000 in
set_option maxHeartbeats 3200000 in
theorem l5Enter_1de (base g cap:Nat) (l:List Int) (pc v:Int) (k:Nat) (hk:k < 16) (hd:(bitAt (l.getD 1 0) k==1)=true) (w:World) (h:Own w base g cap l) :
 Calls Tryz.prog 58 #[.slice (some ⟨g,0,none⟩) 22 cap,.int .i64 1,.int .u64 pc,.int .i64 k,.bool false,.int .u64 v] w fun e w' =>
  e=.returned (.tuple #[.int .i64 1,.int .u64 (bits .andNot .u64 (l.getD 10 0) 1)])∧Own w' base g cap ((((l.set 13 (toldV k false)).set 12 (bits .andNot .u64 pc 3)).set 14 v).set 0 (statS (l.getD 0 0) true))∧w.grownBy w' (some g):=by
 have H:Hid (Own w base g cap l):=h
 have c0:=h.cell 0 (by omega)
 have c1:=h.cell 1 (by omega)
 have c2:=h.cell 2 (by omega)
 have c4:=h.cell 4 (by omega)
 clear h
 have ek:IntKind.u64.wrap (k:Int)=k:=by rw [IntKind.wrap_u64];omega
 have ek4:IntKind.u64.wrap (4*(k:Int))=4*k:=by rw [IntKind.wrap_u64];omega
 have HB:Hid (∀ w:World,Calls Tryz.prog 73 #[.int .u64 (l.getD 1 0),.int .u64 k] w fun e w'=>e=.returned (.int .u64 (bitAt (l.getD 1 0) k))∧w'=w):=l5Bit_any _ k (by omega)
 have ST:Hid (statS (l.getD 0 0) true=bits .or .u64 (bits .or .u64 (bits .andNot .u64 (l.getD 0 0) 290) (IntKind.u64.wrap (bitAt (l.getD 0 0) 1*32))) 256):=by show _=_;rfl
 have TL:Hid (toldV k false=(k:Int)):=(rfl:toldV k false=_)
 generalize statS (l.getD 0 0) true=sm at *
 obtain ⟨l0,h0⟩:∃ y,l.getD 0 0=y:=⟨_,rfl⟩
 obtain ⟨l1,hl1⟩:∃ y,l.getD 1 0=y:=⟨_,rfl⟩
 obtain ⟨l2,hl2⟩:∃ y,l.getD 2 0=y:=⟨_,rfl⟩
 obtain ⟨l4,hl4⟩:∃ y,l.getD 4 0=y:=⟨_,rfl⟩
 obtain ⟨l10,hl10⟩:∃ y,l.getD 10 0=y:=⟨_,rfl⟩
 rw [h0] at c0 ST
 rw [hl1] at c1
 rw [hl2] at c2
 rw [hl4] at c4
 rw [hl1] at hd HB
 rw [hl10]
 have HL10:Hid (l.getD 10 0=l10):=hl10
 clear h0 hl1 hl2 hl4 hl10
 generalize bitAt l1 k=bk at *
 go_enter Tryz.func58,Tryz.ntmps58
 go_wp2_with (first
  | (refine wpList_put rfl (.tmp 48) (.tmp 47) rfl rfl H.out 13 (by omega) _ rfl rfl ?_;intro w1 h1 g1;have H1:Hid (Own w1 _ _ _ _):=h1;have G1:Hid (w.grownBy w1 (some g)):=g1;clear h1 g1)
  | (refine wpList_put rfl (.tmp 52) (.tmp 51) rfl rfl H1.out 12 (by omega) _ rfl rfl ?_;intro w2 h2 g2;have H2:Hid (Own w2 _ _ _ _):=h2;have G2:Hid (w1.grownBy w2 (some g)):=g2;clear h2 g2)
  | (refine wpList_put rfl (.tmp 55) (.tmp 54) rfl rfl H2.out 14 (by omega) _ rfl rfl ?_;intro w3 h3 g3;have H3:Hid (Own w3 _ _ _ _):=h3;have G3:Hid (w2.grownBy w3 (some g)):=g3;clear h3 g3;have c10:w3.cell? ⟨g,10,none⟩=some (.int .u64 l10):=by (have e:=H3.out.cell 10 (by omega);rw [set_get _ _ _ _ (by omega),set_get _ _ _ _ (by omega),set_get _ _ _ _ (by omega),HL10.out] at e;exact e))
  | (go_at_call 73;with_reducible refine (HB.out _).mono ?_;rintro e wx ⟨rfl,hwx⟩;have hwy:=hwx.symm;subst hwy)
  | (refine wpList_put rfl (.tmp 91) (.tmp 90) rfl rfl H3.out 0 (by omega) _ rfl rfl ?_;intro w4 h4 g4;have H4:Hid (Own w4 _ _ _ _):=h4;have G4:Hid (w3.grownBy w4 (some g)):=g4;clear h4 g4)
  | (go_at_call 73;with_reducible refine (l5Bit1 _ _).mono ?_;rintro e wx ⟨rfl,hwx⟩;have hwy:=hwx.symm;subst hwy))
 go_ret2
 exact ⟨rfl,by rw [ST.out,TL.out];exact H4.out,grown_trans G1.out (grown_trans G2.out (grown_trans G3.out G4.out))⟩

set_option maxRecDepth 100000 in
set_option maxHeartbeats 3200000 in
theorem l5Enter_1di (base g cap:Nat) (l:List Int) (pc v:Int) (k:Nat) (hk:k < 16) (hd:(bitAt (l.getD 2 0) k==1)=true) (hj:(bits .and .u64 (l.getD 10 0) 1==1)=false) (w:World) (h:Own w base g cap l) :
 Calls Tryz.prog 58 #[.slice (some ⟨g,0,none⟩) 22 cap,.int .i64 1,.int .u64 pc,.int .i64 k,.bool true,.int .u64 v] w fun e w' =>
  e=.returned (.tuple #[.int .i64 1,.int .u64 (bits .andNot .u64 (l.getD 10 0) 1)])∧Own w' base g cap ((((l.set 13 (toldV k true)).set 12 (bits .andNot .u64 pc 3)).set 14 v).set 0 (statS (l.getD 0 0) true))∧w.grownBy w' (some g):=by
 have H:Hid (Own w base g cap l):=h
 have c0:=h.cell 0 (by omega)
 have c1:=h.cell 1 (by omega)
 have c2:=h.cell 2 (by omega)
 have c4:=h.cell 4 (by omega)
 clear h
 have ek:IntKind.u64.wrap (k:Int)=k:=by rw [IntKind.wrap_u64];omega
 have ek4:IntKind.u64.wrap (4*(k:Int))=4*k:=by rw [IntKind.wrap_u64];omega
 have HB:Hid (∀ w:World,Calls Tryz.prog 73 #[.int .u64 (l.getD 2 0),.int .u64 k] w fun e w'=>e=.returned (.int .u64 (bitAt (l.getD 2 0) k))∧w'=w):=l5Bit_any _ k (by omega)
 have ST:Hid (statS (l.getD 0 0) true=bits .or .u64 (bits .or .u64 (bits .andNot .u64 (l.getD 0 0) 290) (IntKind.u64.wrap (bitAt (l.getD 0 0) 1*32))) 256):=by show _=_;rfl
 have TL:Hid (toldV k true=bits .or .u64 (k:Int) 9223372036854775808):=(rfl:toldV k true=_)
 generalize statS (l.getD 0 0) true=sm at *
 obtain ⟨l0,h0⟩:∃ y,l.getD 0 0=y:=⟨_,rfl⟩
 obtain ⟨l1,hl1⟩:∃ y,l.getD 1 0=y:=⟨_,rfl⟩
 obtain ⟨l2,hl2⟩:∃ y,l.getD 2 0=y:=⟨_,rfl⟩
 obtain ⟨l4,hl4⟩:∃ y,l.getD 4 0=y:=⟨_,rfl⟩
 obtain ⟨l10,hl10⟩:∃ y,l.getD 10 0=y:=⟨_,rfl⟩
 rw [h0] at c0 ST
 rw [hl1] at c1
 rw [hl2] at c2
 rw [hl4] at c4
 rw [hl2] at hd HB
 rw [hl10] at hj
 rw [hl10]
 have HL10:Hid (l.getD 10 0=l10):=hl10
 clear h0 hl1 hl2 hl4 hl10
 generalize bitAt l2 k=bk at *
 go_enter Tryz.func58,Tryz.ntmps58
 go_wp2_with (first
  | (refine wpList_put rfl (.tmp 48) (.tmp 47) rfl rfl H.out 13 (by omega) _ rfl rfl ?_;intro w1 h1 g1;have H1:Hid (Own w1 _ _ _ _):=h1;have G1:Hid (w.grownBy w1 (some g)):=g1;clear h1 g1)
  | (refine wpList_put rfl (.tmp 52) (.tmp 51) rfl rfl H1.out 12 (by omega) _ rfl rfl ?_;intro w2 h2 g2;have H2:Hid (Own w2 _ _ _ _):=h2;have G2:Hid (w1.grownBy w2 (some g)):=g2;clear h2 g2)
  | (refine wpList_put rfl (.tmp 55) (.tmp 54) rfl rfl H2.out 14 (by omega) _ rfl rfl ?_;intro w3 h3 g3;have H3:Hid (Own w3 _ _ _ _):=h3;have G3:Hid (w2.grownBy w3 (some g)):=g3;clear h3 g3;have c10:w3.cell? ⟨g,10,none⟩=some (.int .u64 l10):=by (have e:=H3.out.cell 10 (by omega);rw [set_get _ _ _ _ (by omega),set_get _ _ _ _ (by omega),set_get _ _ _ _ (by omega),HL10.out] at e;exact e))
  | (go_at_call 73;with_reducible refine (HB.out _).mono ?_;rintro e wx ⟨rfl,hwx⟩;have hwy:=hwx.symm;subst hwy)
  | (refine wpList_put rfl (.tmp 91) (.tmp 90) rfl rfl H3.out 0 (by omega) _ rfl rfl ?_;intro w4 h4 g4;have H4:Hid (Own w4 _ _ _ _):=h4;have G4:Hid (w3.grownBy w4 (some g)):=g4;clear h4 g4)
  | (go_at_call 73;with_reducible refine (l5Bit1 _ _).mono ?_;rintro e wx ⟨rfl,hwx⟩;have hwy:=hwx.symm;subst hwy))
 go_ret2
 exact ⟨rfl,by rw [ST.out,TL.out];exact H4.out,grown_trans G1.out (grown_trans G2.out (grown_trans G3.out G4.out))⟩

set_option maxRecDepth 100000 in
set_option maxHeartbeats 3200000 in
theorem l5Enter_1dij (base g cap:Nat) (l:List Int) (pc v:Int) (k:Nat) (hk:k < 16) (hd:(bitAt (l.getD 2 0) k==1)=true) (hj:(bits .and .u64 (l.getD 10 0) 1==1)=true) (w:World) (h:Own w base g cap l) :
 Calls Tryz.prog 58 #[.slice (some ⟨g,0,none⟩) 22 cap,.int .i64 1,.int .u64 pc,.int .i64 k,.bool true,.int .u64 v] w fun e w' =>
  e=.returned (.tuple #[.int .i64 1,.int .u64 (IntKind.u64.wrap (bits .andNot .u64 (l.getD 10 0) 1+IntKind.u64.wrap (4*k)))])∧Own w' base g cap ((((l.set 13 (toldV k true)).set 12 (bits .andNot .u64 pc 3)).set 14 v).set 0 (statS (l.getD 0 0) true))∧w.grownBy w' (some g):=by
 have H:Hid (Own w base g cap l):=h
 have c0:=h.cell 0 (by omega)
 have c1:=h.cell 1 (by omega)
 have c2:=h.cell 2 (by omega)
 have c4:=h.cell 4 (by omega)
 clear h
 have ek:IntKind.u64.wrap (k:Int)=k:=by rw [IntKind.wrap_u64];omega
 have ek4:IntKind.u64.wrap (4*(k:Int))=4*k:=by rw [IntKind.wrap_u64];omega
 rw [ek4]
 have HB:Hid (∀ w:World,Calls Tryz.prog 73 #[.int .u64 (l.getD 2 0),.int .u64 k] w fun e w'=>e=.returned (.int .u64 (bitAt (l.getD 2 0) k))∧w'=w):=l5Bit_any _ k (by omega)
 have ST:Hid (statS (l.getD 0 0) true=bits .or .u64 (bits .or .u64 (bits .andNot .u64 (l.getD 0 0) 290) (IntKind.u64.wrap (bitAt (l.getD 0 0) 1*32))) 256):=by show _=_;rfl
 have TL:Hid (toldV k true=bits .or .u64 (k:Int) 9223372036854775808):=(rfl:toldV k true=_)
 generalize statS (l.getD 0 0) true=sm at *
 obtain ⟨l0,h0⟩:∃ y,l.getD 0 0=y:=⟨_,rfl⟩
 obtain ⟨l1,hl1⟩:∃ y,l.getD 1 0=y:=⟨_,rfl⟩
 obtain ⟨l2,hl2⟩:∃ y,l.getD 2 0=y:=⟨_,rfl⟩
 obtain ⟨l4,hl4⟩:∃ y,l.getD 4 0=y:=⟨_,rfl⟩
 obtain ⟨l10,hl10⟩:∃ y,l.getD 10 0=y:=⟨_,rfl⟩
 rw [h0] at c0 ST
 rw [hl1] at c1
 rw [hl2] at c2
 rw [hl4] at c4
 rw [hl2] at hd HB
 rw [hl10] at hj
 rw [hl10]
 have HL10:Hid (l.getD 10 0=l10):=hl10
 clear h0 hl1 hl2 hl4 hl10
 generalize bitAt l2 k=bk at *
 go_enter Tryz.func58,Tryz.ntmps58
 go_wp2_with (first
  | (refine wpList_put rfl (.tmp 48) (.tmp 47) rfl rfl H.out 13 (by omega) _ rfl rfl ?_;intro w1 h1 g1;have H1:Hid (Own w1 _ _ _ _):=h1;have G1:Hid (w.grownBy w1 (some g)):=g1;clear h1 g1)
  | (refine wpList_put rfl (.tmp 52) (.tmp 51) rfl rfl H1.out 12 (by omega) _ rfl rfl ?_;intro w2 h2 g2;have H2:Hid (Own w2 _ _ _ _):=h2;have G2:Hid (w1.grownBy w2 (some g)):=g2;clear h2 g2)
  | (refine wpList_put rfl (.tmp 55) (.tmp 54) rfl rfl H2.out 14 (by omega) _ rfl rfl ?_;intro w3 h3 g3;have H3:Hid (Own w3 _ _ _ _):=h3;have G3:Hid (w2.grownBy w3 (some g)):=g3;clear h3 g3;have c10:w3.cell? ⟨g,10,none⟩=some (.int .u64 l10):=by (have e:=H3.out.cell 10 (by omega);rw [set_get _ _ _ _ (by omega),set_get _ _ _ _ (by omega),set_get _ _ _ _ (by omega),HL10.out] at e;exact e))
  | (go_at_call 73;with_reducible refine (HB.out _).mono ?_;rintro e wx ⟨rfl,hwx⟩;have hwy:=hwx.symm;subst hwy)
  | (refine wpList_put rfl (.tmp 91) (.tmp 90) rfl rfl H3.out 0 (by omega) _ rfl rfl ?_;intro w4 h4 g4;have H4:Hid (Own w4 _ _ _ _):=h4;have G4:Hid (w3.grownBy w4 (some g)):=g4;clear h4 g4)
  | (go_at_call 73;with_reducible refine (l5Bit1 _ _).mono ?_;rintro e wx ⟨rfl,hwx⟩;have hwy:=hwx.symm;subst hwy))
 go_ret2
 exact ⟨rfl,by rw [ST.out,TL.out];exact H4.out,grown_trans G1.out (grown_trans G2.out (grown_trans G3.out G4.out))⟩

def jumpB (l:List Int) (d intr:Bool):Bool:=intr&&(bits .and .u64 (vecV l d) 1==1)

theorem l5Enter_any (base g cap:Nat) (l:List Int) (p pc v:Int) (hp:privB p=true) (k:Nat) (hk:k < 16) (intr:Bool) (w:World) (h:Own w base g cap l) :
 Calls Tryz.prog 58 #[.slice (some ⟨g,0,none⟩) 22 cap,.int .i64 p,.int .u64 pc,.int .i64 k,.bool intr,.int .u64 v] w fun e w' =>
  e=.returned (.tuple #[.int .i64 (nextV (delegB l p k intr)),.int .u64 (enterAt (vecV l (delegB l p k intr)) k (jumpB l (delegB l p k intr) intr))])∧Own w' base g cap (enterL l (delegB l p k intr) p (toldV k intr) pc v)∧w.grownBy w' (some g):=by
 have hp3:p=3∨p=0∨p=1:=by
  simp only [privB,Bool.or_eq_true,beq_iff_eq] at hp;omega
 rcases hp3 with rfl | rfl | rfl
 ·cases intr with
  | false =>
    have e:delegB l 3 k false=false:=rfl
    rw [e]
    exact l5Enter_3me base g cap l pc v k hk w h
  | true =>
    have e:delegB l 3 k true=false:=rfl
    rw [e]
    cases hj:(bits .and .u64 (l.getD 4 0) 1==1) with
    | true=>(have ej:jumpB l false true=true:=by (show (true&&_)=_;rw [Bool.true_and];exact hj));rw [ej];exact l5Enter_3mij base g cap l pc v k hk hj w h
    | false=>(have ej:jumpB l false true=false:=by (show (true&&_)=_;rw [Bool.true_and];exact hj));rw [ej];exact l5Enter_3mi base g cap l pc v k hk hj w h
 ·cases intr with
  | false =>
    cases hd:(bitAt (l.getD 1 0) k==1) with
    | true =>
      have e:delegB l 0 k false=true:=by (show (true&&_)=_;rw [Bool.true_and];exact hd)
      rw [e]
      exact l5Enter_0de base g cap l pc v k hk hd w h
    | false =>
      have e:delegB l 0 k false=false:=by (show (true&&_)=_;rw [Bool.true_and];exact hd)
      rw [e]
      exact l5Enter_0me base g cap l pc v k hk hd w h
  | true =>
    cases hd:(bitAt (l.getD 2 0) k==1) with
    | true =>
      have e:delegB l 0 k true=true:=by (show (true&&_)=_;rw [Bool.true_and];exact hd)
      rw [e]
      cases hj:(bits .and .u64 (l.getD 10 0) 1==1) with
      | true=>(have ej:jumpB l true true=true:=by (show (true&&_)=_;rw [Bool.true_and];exact hj));rw [ej];exact l5Enter_0dij base g cap l pc v k hk hd hj w h
      | false=>(have ej:jumpB l true true=false:=by (show (true&&_)=_;rw [Bool.true_and];exact hj));rw [ej];exact l5Enter_0di base g cap l pc v k hk hd hj w h
    | false =>
      have e:delegB l 0 k true=false:=by (show (true&&_)=_;rw [Bool.true_and];exact hd)
      rw [e]
      cases hj:(bits .and .u64 (l.getD 4 0) 1==1) with
      | true=>(have ej:jumpB l false true=true:=by (show (true&&_)=_;rw [Bool.true_and];exact hj));rw [ej];exact l5Enter_0mij base g cap l pc v k hk hd hj w h
      | false=>(have ej:jumpB l false true=false:=by (show (true&&_)=_;rw [Bool.true_and];exact hj));rw [ej];exact l5Enter_0mi base g cap l pc v k hk hd hj w h
 ·cases intr with
  | false =>
    cases hd:(bitAt (l.getD 1 0) k==1) with
    | true =>
      have e:delegB l 1 k false=true:=by (show (true&&_)=_;rw [Bool.true_and];exact hd)
      rw [e]
      exact l5Enter_1de base g cap l pc v k hk hd w h
    | false =>
      have e:delegB l 1 k false=false:=by (show (true&&_)=_;rw [Bool.true_and];exact hd)
      rw [e]
      exact l5Enter_1me base g cap l pc v k hk hd w h
  | true =>
    cases hd:(bitAt (l.getD 2 0) k==1) with
    | true =>
      have e:delegB l 1 k true=true:=by (show (true&&_)=_;rw [Bool.true_and];exact hd)
      rw [e]
      cases hj:(bits .and .u64 (l.getD 10 0) 1==1) with
      | true=>(have ej:jumpB l true true=true:=by (show (true&&_)=_;rw [Bool.true_and];exact hj));rw [ej];exact l5Enter_1dij base g cap l pc v k hk hd hj w h
      | false=>(have ej:jumpB l true true=false:=by (show (true&&_)=_;rw [Bool.true_and];exact hj));rw [ej];exact l5Enter_1di base g cap l pc v k hk hd hj w h
    | false =>
      have e:delegB l 1 k true=false:=by (show (true&&_)=_;rw [Bool.true_and];exact hd)
      rw [e]
      cases hj:(bits .and .u64 (l.getD 4 0) 1==1) with
      | true=>(have ej:jumpB l false true=true:=by (show (true&&_)=_;rw [Bool.true_and];exact hj));rw [ej];exact l5Enter_1mij base g cap l pc v k hk hd hj w h
      | false=>(have ej:jumpB l false true=false:=by (show (true&&_)=_;rw [Bool.true_and];exact hj));rw [ej];exact l5Enter_1mi base g cap l pc v k hk hd hj w h

end Go.Proofs.YtbajeckeeekhnaaGreat
