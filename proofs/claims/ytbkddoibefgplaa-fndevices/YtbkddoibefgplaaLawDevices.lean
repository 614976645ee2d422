/- The walk of laws.FnDevices: it returns true at every code, and writes nothing that was there. -/
import Derived.Test.YtbkddoibefgplaaDevG
import Derived.Test.YtbkddoibefgplaaDevI
import Derived.Test.YtbkddoibefgplaaDevJ
import Derived.Test.YtbkddoibefgplaaDevK
import Derived.Test.YtbkddoibefgplaaDevL
import Derived.Test.YtbkddoibefgplaaDevM
import Derived.Test.YtbkddoibefgplaaDevU
import Derived.Test.YtbkddoibefgplaaDevW
import Derived.Test.YtbkddoibefgplaaPickD
import Derived.Test.YtbkddoibefgplaaLawC
import Derived.Deep.RegionHeld3
namespace Go.Proofs.Ytbkddoibefgplaa.fnDevices
open Go.RowKit
set_option linter.unusedVariables false

/-- A device in a variable of the law's: its block, its lists. -/
structure Va (W : World) (b : Nat) (D : DV) (a1 : Option Addr) (c1 : Nat) (a2 : Option Addr) (c2 : Nat) : Prop where
  row : W.heap[b]? = some (.cells #[.int .u64 D.t, .int .u64 D.cm, .bool D.so, .slice a1 D.xs.length c1, .slice a2 D.ys.length c2, .int .i64 D.ir] 26 (0, 0))
  s1 : Sl .u8 W a1 D.xs
  s2 : Sl .u8 W a2 D.ys

theorem Va.below {W W' : World} {b : Nat} {D : DV} {a1 : Option Addr} {c1 : Nat} {a2 : Option Addr} {c2 : Nat} (h : Va W b D a1 c1 a2 c2) (hb : Below W.heap.size W W') : Va W' b D a1 c1 a2 c2 := ⟨dstays hb h.row, h.s1.below hb, h.s2.below hb⟩

theorem Va.new {W : World} {D : DV} {a1 a2 : Option Addr} (h1 : Sl .u8 W a1 D.xs) (h2 : Sl .u8 W a2 D.ys) (c1 c2 : Nat) : Va (W.alloc (.cells #[.int .u64 D.t, .int .u64 D.cm, .bool D.so, .slice a1 D.xs.length c1, .slice a2 D.ys.length c2, .int .i64 D.ir] 26)) W.heap.size D a1 c1 a2 c2 :=
  ⟨heap_alloc_new _ _, h1.below ((Below.refl _ _).alloc (Nat.le_refl _) _), h2.below ((Below.refl _ _).alloc (Nat.le_refl _) _)⟩

theorem stV_snd (D : DV) (x : Int) (addr size : Int) : (stV D x (sel addr size)).2 = (ldV D (sel addr size)).2.2 ∧ ((stV D x (sel addr size)).2 = false → (stV D x (sel addr size)).1 = zeroD) := by
  refine sel_cases addr size (fun k => (stV D x k).2 = (ldV D k).2.2 ∧ ((stV D x k).2 = false → (stV D x k).1 = zeroD)) ?_ ?_ ?_ ?_ ?_ ?_ ?_ <;> intros <;> simp [stV, ldV]

theorem store_load (D : DV) (addr size x : Int) : (storeD D addr size x).2 = (loadD D addr size).2.2 := by
  unfold storeD loadD
  split
  · exact (stV_snd D x addr size).1
  · rfl

theorem store_no (D : DV) (addr size x : Int) (h : (storeD D addr size x).2 = false) : (storeD D addr size x).1 = zeroD := by
  unfold storeD at h ⊢
  split at h
  · rename_i ho
    rw [if_pos ho]
    exact (stV_snd D x addr size).2 h
  · rename_i ho
    rw [if_neg ho]

theorem store_ok (D : DV) (addr size x : Int) (h : (storeD D addr size x).2 = true) : okD D.xs.length D.ys.length D.ir = true := by
  unfold storeD at h
  split at h
  · assumption
  · cases h

theorem str_app (xs : List Int) (b : Int) : strOfNums (xs ++ [b]) = strOfNums xs ++ strOfNums [b] := by
  apply ByteArray.ext
  simp [strOfNums, ByteArray.data_append]

theorem byte_in (D : DV) (b : Int) (hok : okD D.xs.length D.ys.length D.ir = true) : (byteD D b).xs = if D.xs.length < 16 then D.xs ++ [b] else D.xs := by
  unfold byteD
  rw [if_pos hok]

theorem bell (c b : Int) : linesD ⟨5, c, false, [b], [], 1⟩ = if c ≤ 5 then 2176 else 2048 := by
  unfold linesD linesV
  rw [if_pos (by rfl)]
  by_cases h : c ≤ 5
  · rw [if_pos h]
    dsimp only
    rw [decide_eq_true h]
    rfl
  · rw [if_neg h]
    dsimp only
    rw [decide_eq_false h]
    rfl

theorem own_one (W : World) (b : Int) : Sl .u8 (W.alloc (.cells #[.int .u8 b] 5)) (some ⟨W.heap.size, 0, none⟩) [b] := by
  intro i hi
  have h0 : i = 0 := by simp at hi; omega
  subst h0
  refine ⟨W.heap.size, 0, rfl, by rw [World.size_alloc]; omega, ?_⟩
  have e := heap_alloc_new W (.cells #[.int .u8 b] 5)
  simp only [World.cell?, e]
  rfl

set_option maxRecDepth 100000 in
set_option maxHeartbeats 12800000 in
theorem walk (a0 : Option Addr) (len0 cap0 : Nat) (z0 : List Int) (w : World) (w0 : IsRow .u8 w a0 len0 cap0 z0) :
    Calls Try.prog 3 #[.slice a0 len0 cap0] w fun e w' => e = .returned (.bool true) ∧ Below w.heap.size w w' := by
  by_cases hbig : 4096 < len0
  · have hb : decide (4096 < len0) = true := by simpa using hbig
    go_enter Try.func3, Try.ntmps3
    go_wp2_with fail
    refine (big_any a0 len0 cap0 _).mono ?_
    rintro e w1 ⟨rfl, hw1⟩
    subst hw1
    rw [hb]
    go_wp2_with fail
    go_ret
    exact ⟨rfl, Below.refl _ _⟩
  · have hb : decide (4096 < len0) = false := by simpa using hbig
    obtain ⟨zs, hcd⟩ := code_of w0 (by omega)
    have HD : Hid (Code w a0 len0 zs) := hcd
    clear hcd w0 hbig
    go_enter Try.func3, Try.ntmps3
    go_wp2_with fail
    refine (big_any a0 len0 cap0 _).mono ?_
    rintro e w1 ⟨rfl, hw1⟩
    have hw1' := hw1.symm
    subst hw1'
    rw [hb]
    clear hb
    go_wp2_with fail
    refine (DrawDevStore_c cap0 _ HD.out).mono ?_
    rintro e w2 ⟨D, a1, c1, a2, c2, ad, sz, x, rfl, HX, hd⟩
    have hn1 : D.xs.length ≤ 1048576 := by have := hd.out.fits.l1; omega
    have hn2 : D.ys.length ≤ 1048576 := by have := hd.out.fits.l2; omega
    have hby := hd.out.fits.by_
    obtain ⟨P, hP⟩ : ∃ P : World → Prop, P = fun W => Va W w2.heap.size D a1 c1 a2 c2 ∧ Below w.heap.size w W := ⟨_, rfl⟩
    have PB : Hid (∀ W W', P W → Below W.heap.size W W' → P W') := by rw [hP]; exact fun W W' h hb => ⟨h.1.below hb, below_trans h.2 hb⟩
    have PE : Hid (∀ W, P W → Va W w2.heap.size D a1 c1 a2 c2 ∧ Below w.heap.size w W) := by rw [hP]; exact fun W h => h
    have PA : Hid (∀ W o, P W → P (W.alloc o)) := fun W o h => PB.out W _ h ((Below.refl _ _).alloc (Nat.le_refl _) o)
    have p2 : P (w2.alloc (.cells #[.int .u64 D.t, .int .u64 D.cm, .bool D.so, .slice a1 D.xs.length c1, .slice a2 D.ys.length c2, .int .i64 D.ir] 26)) := by rw [hP]; exact ⟨Va.new hd.out.s1 hd.out.s2 c1 c2, hd.out.below.alloc hd.out.below.size _⟩
    clear hP hd HX
    obtain ⟨R, hR⟩ : ∃ R, R = storeD D ad sz x := ⟨_, rfl⟩
    obtain ⟨Q, hQ⟩ : ∃ Q, Q = loadD D ad sz := ⟨_, rfl⟩
    have hsl := store_load D ad sz x
    have hno := store_no D ad sz x
    have hokk := store_ok D ad sz x
    rw [← hR, ← hQ] at hsl
    rw [← hR] at hno hokk
    have HST : Hid (∀ W, P W → Calls Try.prog 11 #[.agg #[.int .u64 D.t, .int .u64 D.cm, .bool D.so, .slice a1 D.xs.length c1, .slice a2 D.ys.length c2, .int .i64 D.ir], .int .u64 ad, .int .i64 sz, .int .u64 x] W fun e w' => ∃ (b1 : Option Addr) (d1 : Nat) (b2 : Option Addr) (d2 : Nat), e = .returned (.tuple #[.agg #[.int .u64 R.1.t, .int .u64 R.1.cm, .bool R.1.so, .slice b1 R.1.xs.length d1, .slice b2 R.1.ys.length d2, .int .i64 R.1.ir], .bool R.2]) ∧ Hid (Sl .u8 w' b1 R.1.xs ∧ Sl .u8 w' b2 R.1.ys) ∧ Hid (Below W.heap.size W w')) := by
      intro W h
      have h2 := implDevStore_any D a1 c1 a2 c2 ad sz x W hn1 hn2 hby (PE.out W h).1.s1 (PE.out W h).1.s2
      rw [← hR] at h2
      exact h2.mono fun e w' ⟨b1, d1, b2, d2, k1, k2, k3⟩ => ⟨b1, d1, b2, d2, k1, ⟨k2.in_, k2.out_⟩, k3⟩
    have HSS : Hid (∀ W, P W → Calls Try.prog 12 #[.agg #[.int .u64 D.t, .int .u64 D.cm, .bool D.so, .slice a1 D.xs.length c1, .slice a2 D.ys.length c2, .int .i64 D.ir], .int .u64 ad, .int .i64 sz, .int .u64 x] W fun e w' => ∃ (b1 : Option Addr) (d1 : Nat) (b2 : Option Addr) (d2 : Nat), e = .returned (.tuple #[.agg #[.int .u64 R.1.t, .int .u64 R.1.cm, .bool R.1.so, .slice b1 R.1.xs.length d1, .slice b2 R.1.ys.length d2, .int .i64 R.1.ir], .bool R.2]) ∧ Hid (Sl .u8 w' b1 R.1.xs ∧ Sl .u8 w' b2 R.1.ys) ∧ Hid (Below W.heap.size W w')) := by
      intro W h
      have h2 := specDevStore_any D a1 c1 a2 c2 ad sz x W hn1 hn2 (PE.out W h).1.s1 (PE.out W h).1.s2
      rw [← hR] at h2
      exact h2.mono fun e w' ⟨b1, d1, b2, d2, k1, k2, k3⟩ => ⟨b1, d1, b2, d2, k1, ⟨k2.in_, k2.out_⟩, k3⟩
    have HLT : Hid (∀ W, P W → Calls Try.prog 14 #[.agg #[.int .u64 D.t, .int .u64 D.cm, .bool D.so, .slice a1 D.xs.length c1, .slice a2 D.ys.length c2, .int .i64 D.ir], .int .u64 ad, .int .i64 sz] W fun e w' => ∃ (b1 : Option Addr) (d1 : Nat) (b2 : Option Addr) (d2 : Nat), e = .returned (.tuple #[.int .u64 Q.1, .agg #[.int .u64 Q.2.1.t, .int .u64 Q.2.1.cm, .bool Q.2.1.so, .slice b1 Q.2.1.xs.length d1, .slice b2 Q.2.1.ys.length d2, .int .i64 Q.2.1.ir], .bool Q.2.2]) ∧ Hid (Sl .u8 w' b1 Q.2.1.xs ∧ Sl .u8 w' b2 Q.2.1.ys) ∧ Hid (Below W.heap.size W w')) := by
      intro W h
      have h2 := implDevLoad_any D a1 c1 a2 c2 ad sz W hn1 hn2 hby (PE.out W h).1.s1 (PE.out W h).1.s2
      rw [← hQ] at h2
      exact h2.mono fun e w' ⟨b1, d1, b2, d2, k1, k2, k3⟩ => ⟨b1, d1, b2, d2, k1, ⟨k2.in_, k2.out_⟩, k3⟩
    have HLS : Hid (∀ W, P W → Calls Try.prog 15 #[.agg #[.int .u64 D.t, .int .u64 D.cm, .bool D.so, .slice a1 D.xs.length c1, .slice a2 D.ys.length c2, .int .i64 D.ir], .int .u64 ad, .int .i64 sz] W fun e w' => ∃ (b1 : Option Addr) (d1 : Nat) (b2 : Option Addr) (d2 : Nat), e = .returned (.tuple #[.int .u64 Q.1, .agg #[.int .u64 Q.2.1.t, .int .u64 Q.2.1.cm, .bool Q.2.1.so, .slice b1 Q.2.1.xs.length d1, .slice b2 Q.2.1.ys.length d2, .int .i64 Q.2.1.ir], .bool Q.2.2]) ∧ Hid (Sl .u8 w' b1 Q.2.1.xs ∧ Sl .u8 w' b2 Q.2.1.ys) ∧ Hid (Below W.heap.size W w')) := by
      intro W h
      have h2 := specDevLoad_any D a1 c1 a2 c2 ad sz W hn1 hn2 hby (PE.out W h).1.s1 (PE.out W h).1.s2
      rw [← hQ] at h2
      exact h2.mono fun e w' ⟨b1, d1, b2, d2, k1, k2, k3⟩ => ⟨b1, d1, b2, d2, k1, ⟨k2.in_, k2.out_⟩, k3⟩
    clear hR hQ
    obtain ⟨S, is⟩ := R
    obtain ⟨y, L, may⟩ := Q
    dsimp only at HST HSS HLT HLS hsl hno hokk
    subst hsl
    have HNO := dhid hno
    have HOK := dhid hokk
    clear hno hokk
    have HN := dhid (And.intro hn1 hn2)
    have HBY := dhid hby
    clear hn1 hn2 hby
    dsimp only [dvc]
    go_wp2_with fail
    refine (HST.out _ p2).mono ?_
    rintro e w3 ⟨b1, d1, b2, d2, rfl, hs3, hb3⟩
    have p3 := PA.out _ (.cells #[.int .u64 S.t, .int .u64 S.cm, .bool S.so, .slice b1 S.xs.length d1, .slice b2 S.ys.length d2, .int .i64 S.ir] 26) (PB.out _ _ p2 hb3.out)
    have VE := dhid (Va.new hs3.out.1 hs3.out.2 d1 d2)
    clear hs3 hb3 p2
    obtain ⟨s0, s1, s2, s3, s4, s5⟩ := cells6 (PE.out _ p3).1.row
    go_wp2_with fail
    refine (HSS.out _ p3).mono ?_
    rintro e w4 ⟨f1, g1, f2, g2, rfl, hs4, hb4⟩
    have hal4 : Below w4.heap.size w4 (w4.alloc (.cells #[.int .u64 S.t, .int .u64 S.cm, .bool S.so, .slice f1 S.xs.length g1, .slice f2 S.ys.length g2, .int .i64 S.ir] 26)) := (Below.refl _ _).alloc (Nat.le_refl _) _
    have p4 := PB.out _ _ (PB.out _ _ p3 hb4.out) hal4
    have VE4 := dhid ((VE.out.below hb4.out).below hal4)
    have VF4 := dhid (Va.new hs4.out.1 hs4.out.2 g1 g2)
    clear hs4 hb4 hal4 p3 VE s0 s1 s2 s3 s4 s5
    obtain ⟨t0, t1, t2, t3, t4, t5⟩ := cells6 VE4.out.row
    obtain ⟨u0, u1, u2, u3, u4, u5⟩ := cells6 VF4.out.row
    have HL4 := dhid (likeDev_same S b1 d1 b2 d2 f1 g1 f2 g2 _ VE4.out.s1 VE4.out.s2 VF4.out.s1 VF4.out.s2)
    cases is with
    | false =>
      go_wp2_with fail
      refine HL4.out.mono ?_
      rintro e w5 ⟨rfl, hb5⟩
      have p5 := PB.out _ _ p4 hb5
      have VE5 := dhid (VE4.out.below hb5)
      clear hb5 p4 VE4 VF4 HL4 t0 t1 t2 t3 t4 t5 u0 u1 u2 u3 u4 u5
      obtain ⟨s0, s1, s2, s3, s4, s5⟩ := cells6 (PE.out _ p5).1.row
      go_wp2_with fail
      refine (HLT.out _ p5).mono ?_
      rintro e w6 ⟨j1, k1, j2, k2, rfl, hs6, hb6⟩
      have hal6 : Below w6.heap.size w6 (w6.alloc (.cells #[.int .u64 L.t, .int .u64 L.cm, .bool L.so, .slice j1 L.xs.length k1, .slice j2 L.ys.length k2, .int .i64 L.ir] 26)) := (Below.refl _ _).alloc (Nat.le_refl _) _
      have p6 := PB.out _ _ (PB.out _ _ p5 hb6.out) hal6
      have VE6 := dhid ((VE5.out.below hb6.out).below hal6)
      have VL6 := dhid (Va.new hs6.out.1 hs6.out.2 k1 k2)
      clear hs6 hb6 hal6 p5 VE5 s0 s1 s2 s3 s4 s5
      obtain ⟨s0, s1, s2, s3, s4, s5⟩ := cells6 (PE.out _ p6).1.row
      go_wp2_with fail
      refine (HLS.out _ p6).mono ?_
      rintro e w7 ⟨l1, m1, l2, m2, rfl, hs7, hb7⟩
      have hal7 : Below w7.heap.size w7 (w7.alloc (.cells #[.int .u64 L.t, .int .u64 L.cm, .bool L.so, .slice l1 L.xs.length m1, .slice l2 L.ys.length m2, .int .i64 L.ir] 26)) := (Below.refl _ _).alloc (Nat.le_refl _) _
      have p7 := PB.out _ _ (PB.out _ _ p6 hb7.out) hal7
      have VE7 := dhid ((VE6.out.below hb7.out).below hal7)
      have VL7 := dhid ((VL6.out.below hb7.out).below hal7)
      have VM7 := dhid (Va.new hs7.out.1 hs7.out.2 m1 m2)
      clear hs7 hb7 hal7 p6 VE6 VL6 s0 s1 s2 s3 s4 s5
      obtain ⟨t0, t1, t2, t3, t4, t5⟩ := cells6 VL7.out.row
      obtain ⟨u0, u1, u2, u3, u4, u5⟩ := cells6 VM7.out.row
      have HL7 := dhid (likeDev_same L j1 k1 j2 k2 l1 m1 l2 m2 _ VL7.out.s1 VL7.out.s2 VM7.out.s1 VM7.out.s2)
      go_wp2_with fail
      refine HL7.out.mono ?_
      rintro e w8 ⟨rfl, hb8⟩
      have p8 := PB.out _ _ p7 hb8
      have VE8 := dhid (VE7.out.below hb8)
      clear hb8 p7 VE7 VL7 VM7 HL7 t0 t1 t2 t3 t4 t5 u0 u1 u2 u3 u4 u5
      have eS : S = zeroD := HNO.out (by trivial)
      have HLZ : Hid (∀ w', Va w' w3.heap.size S b1 d1 b2 d2 → Calls Try.prog 13 #[.agg #[.int .u64 S.t, .int .u64 S.cm, .bool S.so, .slice b1 S.xs.length d1, .slice b2 S.ys.length d2, .int .i64 S.ir], .agg #[.int .u64 0, .int .u64 0, .bool false, .slice none 0 0, .slice none 0 0, .int .i64 0]] w' fun e w'' => e = .returned (.bool true) ∧ Below w'.heap.size w' w'') := by
        intro w' vt
        have h1 := vt.s1
        have h2 := vt.s2
        clear vt VE8 HNO
        subst eS
        exact likeDev_same zeroD b1 d1 b2 d2 none 0 none 0 w' h1 h2 (fun i hi => absurd hi (Nat.not_lt_zero _)) (fun i hi => absurd hi (Nat.not_lt_zero _))
      clear eS
      obtain ⟨t0, t1, t2, t3, t4, t5⟩ := cells6 VE8.out.row
      go_wp2_with fail
      refine (HLZ.out _ VE8.out).mono ?_
      rintro e w9 ⟨rfl, hb9⟩
      go_wp2_with fail
      go_ret
      exact ⟨rfl, below_trans (PE.out _ p8).2 hb9⟩
    | true =>
      go_wp2_with fail
      refine HL4.out.mono ?_
      rintro e w5 ⟨rfl, hb5⟩
      have p5 := PB.out _ _ p4 hb5
      have VE5 := dhid (VE4.out.below hb5)
      clear hb5 p4 VE4 VF4 HL4 t0 t1 t2 t3 t4 t5 u0 u1 u2 u3 u4 u5
      obtain ⟨s0, s1, s2, s3, s4, s5⟩ := cells6 (PE.out _ p5).1.row
      go_wp2_with fail
      refine (HLT.out _ p5).mono ?_
      rintro e w6 ⟨j1, k1, j2, k2, rfl, hs6, hb6⟩
      have hal6 : Below w6.heap.size w6 (w6.alloc (.cells #[.int .u64 L.t, .int .u64 L.cm, .bool L.so, .slice j1 L.xs.length k1, .slice j2 L.ys.length k2, .int .i64 L.ir] 26)) := (Below.refl _ _).alloc (Nat.le_refl _) _
      have p6 := PB.out _ _ (PB.out _ _ p5 hb6.out) hal6
      have VE6 := dhid ((VE5.out.below hb6.out).below hal6)
      have VL6 := dhid (Va.new hs6.out.1 hs6.out.2 k1 k2)
      clear hs6 hb6 hal6 p5 VE5 s0 s1 s2 s3 s4 s5
      obtain ⟨s0, s1, s2, s3, s4, s5⟩ := cells6 (PE.out _ p6).1.row
      go_wp2_with fail
      refine (HLS.out _ p6).mono ?_
      rintro e w7 ⟨l1, m1, l2, m2, rfl, hs7, hb7⟩
      have hal7 : Below w7.heap.size w7 (w7.alloc (.cells #[.int .u64 L.t, .int .u64 L.cm, .bool L.so, .slice l1 L.xs.length m1, .slice l2 L.ys.length m2, .int .i64 L.ir] 26)) := (Below.refl _ _).alloc (Nat.le_refl _) _
      have p7 := PB.out _ _ (PB.out _ _ p6 hb7.out) hal7
      have VE7 := dhid ((VE6.out.below hb7.out).below hal7)
      have VL7 := dhid ((VL6.out.below hb7.out).below hal7)
      have VM7 := dhid (Va.new hs7.out.1 hs7.out.2 m1 m2)
      clear hs7 hb7 hal7 p6 VE6 VL6 s0 s1 s2 s3 s4 s5
      obtain ⟨t0, t1, t2, t3, t4, t5⟩ := cells6 VL7.out.row
      obtain ⟨u0, u1, u2, u3, u4, u5⟩ := cells6 VM7.out.row
      have HL7 := dhid (likeDev_same L j1 k1 j2 k2 l1 m1 l2 m2 _ VL7.out.s1 VL7.out.s2 VM7.out.s1 VM7.out.s2)
      go_wp2_with fail
      refine HL7.out.mono ?_
      rintro e w8 ⟨rfl, hb8⟩
      have p8 := PB.out _ _ p7 hb8
      have VE8 := dhid (VE7.out.below hb8)
      clear hb8 p7 VE7 VL7 VM7 HL7 t0 t1 t2 t3 t4 t5 u0 u1 u2 u3 u4 u5
      have hok : okD D.xs.length D.ys.length D.ir = true := HOK.out (by trivial)
      have hin := fun b => byte_in D b hok
      have h16 := (okD_bdi hok).1
      have HPK : Hid (∀ W (m : Int), P W → 0 < m → m ≤ 1099511627776 → Calls Try.prog 16 #[.slice a0 len0 cap0, .int .i64 m] W fun e w' => e = .returned (.int .i64 (pickV zs m)) ∧ w' = W) := fun W m h h1 h2 => pick_det a0 len0 cap0 zs m W HD.out.len (by have := HD.out.few; omega) (HD.out.sl.below (PE.out W h).2) HD.out.bd h1 h2
      have hpb := pickV_bd zs 11 (by omega)
      have HBT : Hid (∀ W (b : Int), P W → Calls Try.prog 17 #[.agg #[.int .u64 D.t, .int .u64 D.cm, .bool D.so, .slice a1 D.xs.length c1, .slice a2 D.ys.length c2, .int .i64 D.ir], .int .u8 b] W fun e w' => ∃ (b1 : Option Addr) (d1 : Nat) (b2 : Option Addr) (d2 : Nat), e = .returned (.agg (dvc (byteD D b) b1 d1 b2 d2)) ∧ Hid (Sl .u8 w' b1 (byteD D b).xs ∧ Sl .u8 w' b2 (byteD D b).ys) ∧ Hid (Below W.heap.size W w')) := fun W b h => (implByte_any D a1 c1 a2 c2 b W HN.out.1 HN.out.2 HBY.out (PE.out W h).1.s1 (PE.out W h).1.s2).mono fun e w' ⟨b1, d1, b2, d2, k1, k2, k3⟩ => ⟨b1, d1, b2, d2, k1, ⟨k2.in_, k2.out_⟩, k3⟩
      have HLI : Hid (∀ W, P W → Calls Try.prog 18 #[.agg #[.int .u64 D.t, .int .u64 D.cm, .bool D.so, .slice a1 D.xs.length c1, .slice a2 D.ys.length c2, .int .i64 D.ir]] W fun e w' => e = .returned (.int .u64 (linesD D)) ∧ Below W.heap.size W w') := fun W h => implLines_any D a1 c1 a2 c2 W HN.out.1 HN.out.2
      have HLM : Hid (∀ W, P W → Calls Try.prog 19 #[.agg #[.int .u64 D.t, .int .u64 D.cm, .bool D.so, .slice a1 D.xs.length c1, .slice a2 D.ys.length c2, .int .i64 D.ir]] W fun e w' => e = .returned (.int .u64 (linesD D)) ∧ Below W.heap.size W w') := fun W h => specLines_any D a1 c1 a2 c2 W HN.out.1 HN.out.2
      have HLB : Hid (∀ W (c b : Int) (p : Option Addr), Calls Try.prog 18 #[.agg #[.int .u64 5, .int .u64 c, .bool false, .slice p 1 1, .slice none 0 0, .int .i64 1]] W fun e w' => e = .returned (.int .u64 (if c ≤ 5 then 2176 else 2048)) ∧ Below W.heap.size W w') := fun W c b p => by
        have h := implLines_any ⟨5, c, false, [b], [], 1⟩ p 1 none 0 W (by simp) (by simp)
        rw [bell] at h
        exact h
      clear HNO HOK HST HSS HLT HLS VE8 hok
      obtain ⟨s0, s1, s2, s3, s4, s5⟩ := cells6 (PE.out _ p8).1.row
      go_wp2_with fail
      refine (HPK.out _ 256 p8 (by omega) (by omega)).mono ?_
      rintro e v8 ⟨rfl, hv8⟩
      have hq8 := hv8.symm
      subst hq8
      have hin1 := hin (pickV zs 256 % 256)
      clear hin
      obtain ⟨b, hbb⟩ : ∃ b, b = pickV zs 256 % 256 := ⟨_, rfl⟩
      rw [← hbb] at hin1
      go_wp2_with fail
      rw [← hbb]
      clear hbb
      refine (HBT.out _ b p8).mono ?_
      rintro e w9 ⟨o1, q1, o2, q2, rfl, hs9, hb9⟩
      clear HBT
      obtain ⟨Z, hZ⟩ : ∃ Z, Z = byteD D b := ⟨_, rfl⟩
      rw [← hZ] at hs9 hin1 ⊢
      have HIN := dhid hin1
      clear hZ hin1
      have hal9 : Below w9.heap.size w9 (w9.alloc (.cells #[.int .u64 Z.t, .int .u64 Z.cm, .bool Z.so, .slice o1 Z.xs.length q1, .slice o2 Z.ys.length q2, .int .i64 Z.ir] 26)) := (Below.refl _ _).alloc (Nat.le_refl _) _
      have p9 := PB.out _ _ (PB.out _ _ p8 hb9.out) hal9
      have VZ9 := dhid (Va.new hs9.out.1 hs9.out.2 q1 q2)
      clear hs9 hb9 hal9 p8 s0 s1 s2 s3 s4 s5
      dsimp only [dvc]
      obtain ⟨pk, hpk⟩ : ∃ pk, pk = pickV zs 11 := ⟨_, rfl⟩
      have HPK2 : Hid (∀ W, P W → Calls Try.prog 16 #[.slice a0 len0 cap0, .int .i64 11] W fun e w' => e = .returned (.int .i64 pk) ∧ w' = W) := fun W h => by rw [hpk]; exact HPK.out W 11 h (by omega) (by omega)
      rw [← hpk] at hpb
      clear hpk HPK
      have hwr : IntKind.u64.wrap pk = pk := byte_u64 pk hpb.1 (by omega)
      obtain ⟨lv, hlv⟩ : ∃ lv : Int, lv = if pk ≤ 5 then 2176 else 2048 := ⟨_, rfl⟩
      have HLB2 : Hid (∀ W (p : Option Addr), Calls Try.prog 18 #[.agg #[.int .u64 5, .int .u64 pk, .bool false, .slice p 1 1, .slice none 0 0, .int .i64 1]] W fun e w' => e = .returned (.int .u64 lv) ∧ Below W.heap.size W w') := fun W p => by rw [hlv]; exact HLB.out W pk b p
      have HLV := dhid hlv
      clear hlv HLB
      obtain ⟨P2, hP2⟩ : ∃ P2 : World → Prop, P2 = fun W => P W ∧ Va W w9.heap.size Z o1 q1 o2 q2 := ⟨_, rfl⟩
      have PB2 : Hid (∀ W W', P2 W → Below W.heap.size W W' → P2 W') := by rw [hP2]; exact fun W W' h hb => ⟨PB.out _ _ h.1 hb, h.2.below hb⟩
      have PE2 : Hid (∀ W, P2 W → P W ∧ Va W w9.heap.size Z o1 q1 o2 q2) := by rw [hP2]; exact fun W h => h
      have PD2 : Hid (∀ W, P2 W → P2 W.drew) := fun W h => PB2.out W W.drew h (Below.refl _ _).drew
      have PA2 : Hid (∀ W o, P2 W → P2 (W.alloc o)) := fun W o h => PB2.out W _ h ((Below.refl _ _).alloc (Nat.le_refl _) o)
      have p9' : P2 (w9.alloc (.cells #[.int .u64 Z.t, .int .u64 Z.cm, .bool Z.so, .slice o1 Z.xs.length q1, .slice o2 Z.ys.length q2, .int .i64 Z.ir] 26)) := by rw [hP2]; exact ⟨p9, VZ9.out⟩
      clear hP2 p9 VZ9
      go_upto_region 18 with fail
      generalize w9.alloc (.cells #[.int .u64 Z.t, .int .u64 Z.cm, .bool Z.so, .slice o1 Z.xs.length q1, .slice o2 Z.ys.length q2, .int .i64 Z.ir] 26) = W9 at *
      go_cut [19] from 20 (fun l wc => l = .int .u64 lv ∧ P2 wc)
      case first =>
        go_wp2_with fail
        refine (HPK2.out _ (PE2.out _ p9').1).mono ?_
        rintro e v9 ⟨rfl, hv9⟩
        have hq9 := hv9.symm
        subst hq9
        go_wp2_with fail
        refine (HLB2.out _ _).mono ?_
        rintro e w10 ⟨rfl, hb10⟩
        have p10 := PB2.out _ _ (PA2.out _ _ p9') hb10
        go_wp2_with fail
        go_meet
        exact ⟨rfl, p10⟩
      case rest =>
        obtain ⟨rfl, p11⟩ := hcut
        clear p9' HLB2 hwr
        have HPK3 : Hid (∀ W, P2 W → Calls Try.prog 16 #[.slice a0 len0 cap0, .int .i64 11] W fun e w' => e = .returned (.int .i64 pk) ∧ P2 w') := fun W h => (HPK2.out W (PE2.out W h).1).mono fun e w' ⟨k1, k2⟩ => ⟨k1, by rw [k2]; exact h⟩
        have HLI3 : Hid (∀ W, P2 W → Calls Try.prog 18 #[.agg #[.int .u64 D.t, .int .u64 D.cm, .bool D.so, .slice a1 D.xs.length c1, .slice a2 D.ys.length c2, .int .i64 D.ir]] W fun e w' => e = .returned (.int .u64 (linesD D)) ∧ P2 w') := fun W h => (HLI.out W (PE2.out W h).1).mono fun e w' ⟨k1, k2⟩ => ⟨k1, PB2.out _ _ h k2⟩
        have HLM3 : Hid (∀ W, P2 W → Calls Try.prog 19 #[.agg #[.int .u64 D.t, .int .u64 D.cm, .bool D.so, .slice a1 D.xs.length c1, .slice a2 D.ys.length c2, .int .i64 D.ir]] W fun e w' => e = .returned (.int .u64 (linesD D)) ∧ P2 w') := fun W h => (HLM.out W (PE2.out W h).1).mono fun e w' ⟨k1, k2⟩ => ⟨k1, PB2.out _ _ h k2⟩
        clear HPK2 HLI HLM
        generalize linesD D = ld at *
        have cvb : ∀ W : World, (convert 22 9 (.slice (some ⟨W.heap.size, 0, none⟩) 1 1)).run Try.prog (W.alloc (.cells #[.int .u8 b] 5)) = .ok (.string (strOfNums [b])) (W.alloc (.cells #[.int .u8 b] 5)) := fun W => conv_sl _ _ _ _ _ rfl (own_one W b)
        have cvc : ∀ W : World, (convert 22 9 (.slice (some ⟨W.heap.size, 0, none⟩) 1 1)).run Try.prog (W.alloc (.cells #[.int .u8 b] 5)).drew = .ok (.string (strOfNums [b])) (W.alloc (.cells #[.int .u8 b] 5)).drew := fun W => conv_sl _ _ _ _ _ rfl ((own_one W b).below (Below.refl _ _).drew)
        have CVD : Hid (∀ W, P2 W → (convert 22 9 (.slice a1 D.xs.length c1)).run Try.prog W = .ok (.string (strOfNums D.xs)) W) := fun W h => conv_sl _ _ _ _ _ rfl (PE.out _ (PE2.out _ h).1).1.s1
        have CVZ : Hid (∀ W, P2 W → (convert 22 9 (.slice o1 Z.xs.length q1)).run Try.prog W = .ok (.string (strOfNums Z.xs)) W) := fun W h => conv_sl _ _ _ _ _ rfl (PE2.out _ h).2.s1
        have HZ16 : Hid (Z.xs.length ≤ 16) := by
          show _ ≤ _
          rw [HIN.out]
          split
          · simp; omega
          · omega
        have d16 : decide ((Z.xs.length : Int) ≤ 16) = true := by have := HZ16.out; simp; omega
        have KS : Hid (∀ w', P2 w' → w'.cell? ⟨w9.heap.size, 3, none⟩ = some (.slice o1 Z.xs.length q1) ∧ (w'.cell? ⟨w2.heap.size, 0, none⟩ = some (.int .u64 D.t) ∧ w'.cell? ⟨w2.heap.size, 1, none⟩ = some (.int .u64 D.cm) ∧ w'.cell? ⟨w2.heap.size, 2, none⟩ = some (.bool D.so) ∧ w'.cell? ⟨w2.heap.size, 3, none⟩ = some (.slice a1 D.xs.length c1) ∧ w'.cell? ⟨w2.heap.size, 4, none⟩ = some (.slice a2 D.ys.length c2) ∧ w'.cell? ⟨w2.heap.size, 5, none⟩ = some (.int .i64 D.ir)) ∧ P2 w') := fun w' h => ⟨(cells6 (PE2.out _ h).2.row).2.2.2.1, cells6 (PE.out _ (PE2.out _ h).1).1.row, h⟩
        have v1 : bits .and .u64 17 1 = 1 := by decide +kernel
        have v2 : bits .and .u64 16 1 = 0 := by decide +kernel
        have v3 : bits .and .u64 1 1 = 1 := by decide +kernel
        by_cases h5 : pk ≤ 5
        · have d5 : decide (pk ≤ 5) = true := by simpa using h5
          obtain rfl : lv = 2176 := by rw [HLV.out, if_pos h5]
          clear h5 HLV
          by_cases hl : D.xs.length < 16
          · have e16 : ((D.xs.length : Int) == 16) = false := by simp; omega
            have hzx : Z.xs = D.xs ++ [b] := by rw [HIN.out, if_pos hl]
            have hst : strOfNums Z.xs = strOfNums D.xs ++ strOfNums [b] := by rw [hzx, str_app]
            have KS2 : Hid (∀ w', P2 w' → w'.cell? ⟨w9.heap.size, 3, none⟩ = some (.slice o1 Z.xs.length q1) ∧ (w'.cell? ⟨w2.heap.size, 0, none⟩ = some (.int .u64 D.t) ∧ w'.cell? ⟨w2.heap.size, 1, none⟩ = some (.int .u64 D.cm) ∧ w'.cell? ⟨w2.heap.size, 2, none⟩ = some (.bool D.so) ∧ w'.cell? ⟨w2.heap.size, 3, none⟩ = some (.slice a1 D.xs.length c1) ∧ w'.cell? ⟨w2.heap.size, 4, none⟩ = some (.slice a2 D.ys.length c2) ∧ w'.cell? ⟨w2.heap.size, 5, none⟩ = some (.int .i64 D.ir)) ∧ (convert 22 9 (.slice o1 Z.xs.length q1)).run Try.prog w' = .ok (.string (strOfNums D.xs ++ strOfNums [b])) w' ∧ (convert 22 9 (.slice a1 D.xs.length c1)).run Try.prog w' = .ok (.string (strOfNums D.xs)) w' ∧ P2 w') := fun w' h => ⟨(KS.out w' h).1, (KS.out w' h).2.1, by rw [← hst]; exact CVZ.out w' h, CVD.out w' h, h⟩
            clear hst hzx hl HIN KS CVD CVZ h16 HZ16
            have hsum : (strOfNums D.xs).size + (strOfNums [b]).size ≤ 9223372036854775807 := by rw [strOfNums_size, strOfNums_size]; have := HN.out.1; simp; omega
            generalize strOfNums D.xs = sx at *
            generalize strOfNums [b] = sb at *
            go_wp2_with fail
            refine wp_region_held_drew (S := (fun w' => w'.cell? ⟨w9.heap.size, 3, none⟩ = some (.slice o1 Z.xs.length q1) ∧ (w'.cell? ⟨w2.heap.size, 0, none⟩ = some (.int .u64 D.t) ∧ w'.cell? ⟨w2.heap.size, 1, none⟩ = some (.int .u64 D.cm) ∧ w'.cell? ⟨w2.heap.size, 2, none⟩ = some (.bool D.so) ∧ w'.cell? ⟨w2.heap.size, 3, none⟩ = some (.slice a1 D.xs.length c1) ∧ w'.cell? ⟨w2.heap.size, 4, none⟩ = some (.slice a2 D.ys.length c2) ∧ w'.cell? ⟨w2.heap.size, 5, none⟩ = some (.int .i64 D.ir)) ∧ (convert 22 9 (.slice o1 Z.xs.length q1)).run Try.prog w' = .ok (.string (sx ++ sb)) w' ∧ (convert 22 9 (.slice a1 D.xs.length c1)).run Try.prog w' = .ok (.string sx) w' ∧ P2 w')) (by kernel_rfl) (KS2.out _ (PD2.out _ p11)) (fun hHeld => ?_)
            refine wpAnyH_take (i := 0) (oi := { dst := some 105, op := _, type := _, pos := _, after := _, guard := _ }) (v := .pointer (some ⟨w9.heap.size, 3, none⟩)) rfl (by kernel_rfl) (by kernel_rfl) (by kernel_rfl) (fun _ _ _ h => h) (Or.inl ⟨by rfl, ?_⟩) (by assumption) ?_
            · intro w' hSw
              go_simp
            simp only [Act.put, List.setIfInBounds_toArray, List.set_cons_zero, List.set_cons_succ]
            refine wpAnyH_take (i := 1) (oi := { dst := some 106, op := _, type := _, pos := _, after := _, guard := _ }) (v := .slice o1 Z.xs.length q1) rfl (by kernel_rfl) (by kernel_rfl) (by kernel_rfl) (fun _ _ _ h => h) (Or.inl ⟨by rfl, ?_⟩) (by assumption) ?_
            · intro w' hSw
              go_simp
            simp only [Act.put, List.setIfInBounds_toArray, List.set_cons_zero, List.set_cons_succ]
            refine wpAnyH_take (i := 2) (oi := { dst := some 107, op := _, type := _, pos := _, after := _, guard := _ }) (v := .int .i64 (Z.xs.length : Int)) rfl (by kernel_rfl) (by kernel_rfl) (by kernel_rfl) (fun _ _ _ h => h) (Or.inl ⟨by rfl, ?_⟩) (by assumption) ?_
            · intro w' hSw
              go_simp
            simp only [Act.put, List.setIfInBounds_toArray, List.set_cons_zero, List.set_cons_succ]
            refine wpAnyH_take (i := 3) (oi := { dst := some 108, op := _, type := _, pos := _, after := _, guard := _ }) (v := .bool true) rfl (by kernel_rfl) (by kernel_rfl) (by kernel_rfl) (fun _ _ _ h => h) (Or.inl ⟨by rfl, ?_⟩) (by assumption) ?_
            · intro w' hSw
              go_simp
            simp only [Act.put, List.setIfInBounds_toArray, List.set_cons_zero, List.set_cons_succ]
            refine wpAnyH_take (i := 4) (oi := { dst := some 109, op := _, type := _, pos := _, after := _, guard := _ }) (v := .bool true) rfl (by kernel_rfl) (by kernel_rfl) (by kernel_rfl) (fun _ _ _ h => h) (Or.inl ⟨by rfl, ?_⟩) (by assumption) ?_
            · intro w' hSw
              go_simp
            simp only [Act.put, List.setIfInBounds_toArray, List.set_cons_zero, List.set_cons_succ]
            refine wpAnyH_take (i := 5) (oi := { dst := some 110, op := _, type := _, pos := _, after := _, guard := _ }) (v := .pointer (some ⟨w2.heap.size, 3, none⟩)) rfl (by kernel_rfl) (by kernel_rfl) (by kernel_rfl) (fun _ _ _ h => h) (Or.inl ⟨by rfl, ?_⟩) (by assumption) ?_
            · intro w' hSw
              go_simp
            simp only [Act.put, List.setIfInBounds_toArray, List.set_cons_zero, List.set_cons_succ]
            refine wpAnyH_take (i := 6) (oi := { dst := some 111, op := _, type := _, pos := _, after := _, guard := _ }) (v := .slice a1 D.xs.length c1) rfl (by kernel_rfl) (by kernel_rfl) (by kernel_rfl) (fun _ _ _ h => h) (Or.inl ⟨by rfl, ?_⟩) (by assumption) ?_
            · intro w' hSw
              go_simp
            simp only [Act.put, List.setIfInBounds_toArray, List.set_cons_zero, List.set_cons_succ]
            refine wpAnyH_take (i := 7) (oi := { dst := some 112, op := _, type := _, pos := _, after := _, guard := _ }) (v := .int .i64 (D.xs.length : Int)) rfl (by kernel_rfl) (by kernel_rfl) (by kernel_rfl) (fun _ _ _ h => h) (Or.inl ⟨by rfl, ?_⟩) (by assumption) ?_
            · intro w' hSw
              go_simp
            simp only [Act.put, List.setIfInBounds_toArray, List.set_cons_zero, List.set_cons_succ]
            refine wpAnyH_take (i := 8) (oi := { dst := some 113, op := _, type := _, pos := _, after := _, guard := _ }) (v := .bool false) rfl (by kernel_rfl) (by kernel_rfl) (by kernel_rfl) (fun _ _ _ h => h) (Or.inl ⟨by rfl, ?_⟩) (by assumption) ?_
            · intro w' hSw
              go_simp
            simp only [Act.put, List.setIfInBounds_toArray, List.set_cons_zero, List.set_cons_succ]
            refine wpAnyH_take (i := 9) (oi := { dst := some 114, op := _, type := _, pos := _, after := _, guard := _ }) (v := .bool false) rfl (by kernel_rfl) (by kernel_rfl) (by kernel_rfl) (fun _ _ _ h => h) (Or.inl ⟨by rfl, ?_⟩) (by assumption) ?_
            · intro w' hSw
              go_simp
            simp only [Act.put, List.setIfInBounds_toArray, List.set_cons_zero, List.set_cons_succ]
            refine wpAnyH_take (i := 10) (oi := { dst := some 115, op := _, type := _, pos := _, after := _, guard := _ }) (v := .pointer (some ⟨w9.heap.size, 3, none⟩)) rfl (by kernel_rfl) (by kernel_rfl) (by kernel_rfl) (fun _ _ _ h => h) (Or.inl ⟨by rfl, ?_⟩) (by assumption) ?_
            · intro w' hSw
              go_simp
            simp only [Act.put, List.setIfInBounds_toArray, List.set_cons_zero, List.set_cons_succ]
            refine wpAnyH_take (i := 11) (oi := { dst := some 116, op := _, type := _, pos := _, after := _, guard := _ }) (v := .slice o1 Z.xs.length q1) rfl (by kernel_rfl) (by kernel_rfl) (by kernel_rfl) (fun _ _ _ h => h) (Or.inl ⟨by rfl, ?_⟩) (by assumption) ?_
            · intro w' hSw
              go_simp
            simp only [Act.put, List.setIfInBounds_toArray, List.set_cons_zero, List.set_cons_succ]
            refine wpAnyH_take (i := 12) (oi := { dst := some 117, op := _, type := _, pos := _, after := _, guard := _ }) (v := .string (sx ++ sb)) rfl (by kernel_rfl) (by kernel_rfl) (by kernel_rfl) (fun _ _ _ h => h) (Or.inl ⟨by rfl, ?_⟩) (by assumption) ?_
            · intro w' hSw
              go_simp
            simp only [Act.put, List.setIfInBounds_toArray, List.set_cons_zero, List.set_cons_succ]
            refine wpAnyH_take (i := 13) (oi := { dst := some 118, op := _, type := _, pos := _, after := _, guard := _ }) (v := .pointer (some ⟨w2.heap.size, 3, none⟩)) rfl (by kernel_rfl) (by kernel_rfl) (by kernel_rfl) (fun _ _ _ h => h) (Or.inl ⟨by rfl, ?_⟩) (by assumption) ?_
            · intro w' hSw
              go_simp
            simp only [Act.put, List.setIfInBounds_toArray, List.set_cons_zero, List.set_cons_succ]
            refine wpAnyH_take (i := 14) (oi := { dst := some 119, op := _, type := _, pos := _, after := _, guard := _ }) (v := .slice a1 D.xs.length c1) rfl (by kernel_rfl) (by kernel_rfl) (by kernel_rfl) (fun _ _ _ h => h) (Or.inl ⟨by rfl, ?_⟩) (by assumption) ?_
            · intro w' hSw
              go_simp
            simp only [Act.put, List.setIfInBounds_toArray, List.set_cons_zero, List.set_cons_succ]
            refine wpAnyH_take (i := 15) (oi := { dst := some 120, op := _, type := _, pos := _, after := _, guard := _ }) (v := .string sx) rfl (by kernel_rfl) (by kernel_rfl) (by kernel_rfl) (fun _ _ _ h => h) (Or.inl ⟨by rfl, ?_⟩) (by assumption) ?_
            · intro w' hSw
              go_simp
            simp only [Act.put, List.setIfInBounds_toArray, List.set_cons_zero, List.set_cons_succ]
            refine wpAnyH_take (i := 16) (oi := { dst := some 121, op := _, type := _, pos := _, after := _, guard := _ }) (v := .int .u8 b) rfl (by kernel_rfl) (by kernel_rfl) (by kernel_rfl) (fun _ _ _ h => h) (Or.inl ⟨by rfl, ?_⟩) (by assumption) ?_
            · intro w' hSw
              go_simp
            simp only [Act.put, List.setIfInBounds_toArray, List.set_cons_zero, List.set_cons_succ]
            refine wpAnyH_ready (rs := [17]) (by kernel_rfl) (by simp) ?_
            refine AllReadyH.cons (o := { dst := some 122, op := _, type := _, pos := _, after := _, guard := _ }) rfl (fun K hK => ?_) AllReadyH.nil
            go_simp
            refine hK.out _ _ (KS2.out _ (PD2.out _ (PA2.out _ _ p11))) (fun hHeld => ?_)
            clear hK
            refine wpAnyH_ready (rs := [18]) (by kernel_rfl) (by simp) ?_
            refine AllReadyH.cons (o := { dst := some 123, op := _, type := _, pos := _, after := _, guard := _ }) rfl (fun K hK => ?_) AllReadyH.nil
            go_simp
            refine hK.out _ _ (KS2.out _ (PD2.out _ (PA2.out _ _ p11))) (fun hHeld => ?_)
            clear hK
            refine wpAnyH_take (i := 19) (oi := { dst := some 124, op := _, type := _, pos := _, after := _, guard := _ }) (v := .string (sx ++ sb)) rfl (by kernel_rfl) (by kernel_rfl) (by kernel_rfl) (fun _ _ _ h => h) (Or.inl ⟨by rfl, ?_⟩) (by assumption) ?_
            · intro w' hSw
              go_simp
            simp only [Act.put, List.setIfInBounds_toArray, List.set_cons_zero, List.set_cons_succ]
            refine wpAnyH_take (i := 20) (oi := { dst := some 125, op := _, type := _, pos := _, after := _, guard := _ }) (v := .bool true) rfl (by kernel_rfl) (by kernel_rfl) (by kernel_rfl) (fun _ _ _ h => h) (Or.inl ⟨by rfl, ?_⟩) (by assumption) ?_
            · intro w' hSw
              go_simp
            simp only [Act.put, List.setIfInBounds_toArray, List.set_cons_zero, List.set_cons_succ]
            refine wpAnyH_take (i := 21) (oi := { dst := some 126, op := _, type := _, pos := _, after := _, guard := _ }) (v := .bool true) rfl (by kernel_rfl) (by kernel_rfl) (by kernel_rfl) (fun _ _ _ h => h) (Or.inl ⟨by rfl, ?_⟩) (by assumption) ?_
            · intro w' hSw
              go_simp
            simp only [Act.put, List.setIfInBounds_toArray, List.set_cons_zero, List.set_cons_succ]
            refine wpAnyH_take (i := 22) (oi := { dst := some 127, op := _, type := _, pos := _, after := _, guard := _ }) (v := .bool true) rfl (by kernel_rfl) (by kernel_rfl) (by kernel_rfl) (fun _ _ _ h => h) (Or.inl ⟨by rfl, ?_⟩) (by assumption) ?_
            · intro w' hSw
              go_simp
            simp only [Act.put, List.setIfInBounds_toArray, List.set_cons_zero, List.set_cons_succ]
            refine wpAnyH_take (i := 23) (oi := { dst := some 128, op := _, type := _, pos := _, after := _, guard := _ }) (v := .bool true) rfl (by kernel_rfl) (by kernel_rfl) (by kernel_rfl) (fun _ _ _ h => h) (Or.inl ⟨by rfl, ?_⟩) (by assumption) ?_
            · intro w' hSw
              go_simp
            simp only [Act.put, List.setIfInBounds_toArray, List.set_cons_zero, List.set_cons_succ]
            refine wpAnyH_take (i := 24) (oi := { dst := some 129, op := _, type := _, pos := _, after := _, guard := _ }) (v := .int .u64 2176) rfl (by kernel_rfl) (by kernel_rfl) (by kernel_rfl) (fun _ _ _ h => h) (Or.inl ⟨by rfl, ?_⟩) (by assumption) ?_
            · intro w' hSw
              go_simp
            simp only [Act.put, List.setIfInBounds_toArray, List.set_cons_zero, List.set_cons_succ]
            refine wpAnyH_take (i := 25) (oi := { dst := some 130, op := _, type := _, pos := _, after := _, guard := _ }) (v := .int .u64 1) rfl (by kernel_rfl) (by kernel_rfl) (by kernel_rfl) (fun _ _ _ h => h) (Or.inl ⟨by rfl, ?_⟩) (by assumption) ?_
            · intro w' hSw
              go_simp
            simp only [Act.put, List.setIfInBounds_toArray, List.set_cons_zero, List.set_cons_succ]
            refine wpAnyH_take (i := 26) (oi := { dst := some 131, op := _, type := _, pos := _, after := _, guard := _ }) (v := .int .u64 1) rfl (by kernel_rfl) (by kernel_rfl) (by kernel_rfl) (fun _ _ _ h => h) (Or.inl ⟨by rfl, ?_⟩) (by assumption) ?_
            · intro w' hSw
              go_simp
            simp only [Act.put, List.setIfInBounds_toArray, List.set_cons_zero, List.set_cons_succ]
            refine wpAnyH_take (i := 27) (oi := { dst := some 132, op := _, type := _, pos := _, after := _, guard := _ }) (v := .bool true) rfl (by kernel_rfl) (by kernel_rfl) (by kernel_rfl) (fun _ _ _ h => h) (Or.inl ⟨by rfl, ?_⟩) (by assumption) ?_
            · intro w' hSw
              go_simp
            simp only [Act.put, List.setIfInBounds_toArray, List.set_cons_zero, List.set_cons_succ]
            refine wpAnyH_take (i := 28) (oi := { dst := some 133, op := _, type := _, pos := _, after := _, guard := _ }) (v := .bool true) rfl (by kernel_rfl) (by kernel_rfl) (by kernel_rfl) (fun _ _ _ h => h) (Or.inl ⟨by rfl, ?_⟩) (by assumption) ?_
            · intro w' hSw
              go_simp
            simp only [Act.put, List.setIfInBounds_toArray, List.set_cons_zero, List.set_cons_succ]
            refine wpAnyH_take (i := 29) (oi := { dst := some 134, op := _, type := _, pos := _, after := _, guard := _ }) (v := .bool true) rfl (by kernel_rfl) (by kernel_rfl) (by kernel_rfl) (fun _ _ _ h => h) (Or.inl ⟨by rfl, ?_⟩) (by assumption) ?_
            · intro w' hSw
              go_simp
            simp only [Act.put, List.setIfInBounds_toArray, List.set_cons_zero, List.set_cons_succ]
            refine wpAnyH_take (i := 30) (oi := { dst := some 135, op := _, type := _, pos := _, after := _, guard := _ }) (v := .int .u64 2176) rfl (by kernel_rfl) (by kernel_rfl) (by kernel_rfl) (fun _ _ _ h => h) (Or.inl ⟨by rfl, ?_⟩) (by assumption) ?_
            · intro w' hSw
              go_simp
            simp only [Act.put, List.setIfInBounds_toArray, List.set_cons_zero, List.set_cons_succ]
            refine wpAnyH_take (i := 31) (oi := { dst := some 136, op := _, type := _, pos := _, after := _, guard := _ }) (v := .int .u64 17) rfl (by kernel_rfl) (by kernel_rfl) (by kernel_rfl) (fun _ _ _ h => h) (Or.inl ⟨by rfl, ?_⟩) (by assumption) ?_
            · intro w' hSw
              go_simp
            simp only [Act.put, List.setIfInBounds_toArray, List.set_cons_zero, List.set_cons_succ]
            refine wpAnyH_take (i := 32) (oi := { dst := some 137, op := _, type := _, pos := _, after := _, guard := _ }) (v := .int .u64 1) rfl (by kernel_rfl) (by kernel_rfl) (by kernel_rfl) (fun _ _ _ h => h) (Or.inl ⟨by rfl, ?_⟩) (by assumption) ?_
            · intro w' hSw
              go_simp
            simp only [Act.put, List.setIfInBounds_toArray, List.set_cons_zero, List.set_cons_succ]
            refine wpAnyH_take (i := 33) (oi := { dst := some 138, op := _, type := _, pos := _, after := _, guard := _ }) (v := .bool true) rfl (by kernel_rfl) (by kernel_rfl) (by kernel_rfl) (fun _ _ _ h => h) (Or.inl ⟨by rfl, ?_⟩) (by assumption) ?_
            · intro w' hSw
              go_simp
            simp only [Act.put, List.setIfInBounds_toArray, List.set_cons_zero, List.set_cons_succ]
            refine wpAnyH_take (i := 34) (oi := { dst := some 139, op := _, type := _, pos := _, after := _, guard := _ }) (v := .slice a0 len0 cap0) rfl (by kernel_rfl) (by kernel_rfl) (by kernel_rfl) (fun _ _ _ h => h) (Or.inl ⟨by rfl, ?_⟩) (by assumption) ?_
            · intro w' hSw
              go_simp
            simp only [Act.put, List.setIfInBounds_toArray, List.set_cons_zero, List.set_cons_succ]
            refine wpAnyH_ready (rs := [35]) (by kernel_rfl) (by simp) ?_
            refine AllReadyH.cons (o := { dst := some 140, op := _, type := _, pos := _, after := _, guard := _ }) rfl (fun K hK => ?_) AllReadyH.nil
            go_simp
            refine (HPK3.out _ (PD2.out _ (PA2.out _ _ p11))).mono ?_
            rintro e w11 ⟨rfl, p12⟩
            refine hK.out _ _ (KS2.out _ p12) (fun hHeld => ?_)
            clear hK
            refine wpAnyH_take (i := 36) (oi := { dst := some 141, op := _, type := _, pos := _, after := _, guard := _ }) (v := .bool true) rfl (by kernel_rfl) (by kernel_rfl) (by kernel_rfl) (fun _ _ _ h => h) (Or.inl ⟨by rfl, ?_⟩) (by assumption) ?_
            · intro w' hSw
              go_simp
            simp only [Act.put, List.setIfInBounds_toArray, List.set_cons_zero, List.set_cons_succ]
            refine wpAnyH_take (i := 37) (oi := { dst := some 142, op := _, type := _, pos := _, after := _, guard := _ }) (v := .bool true) rfl (by kernel_rfl) (by kernel_rfl) (by kernel_rfl) (fun _ _ _ h => h) (Or.inl ⟨by rfl, ?_⟩) (by assumption) ?_
            · intro w' hSw
              go_simp
            simp only [Act.put, List.setIfInBounds_toArray, List.set_cons_zero, List.set_cons_succ]
            refine wpAnyH_take (i := 38) (oi := { dst := some 143, op := _, type := _, pos := _, after := _, guard := _ }) (v := .bool true) rfl (by kernel_rfl) (by kernel_rfl) (by kernel_rfl) (fun _ _ _ h => h) (Or.inl ⟨by rfl, ?_⟩) (by assumption) ?_
            · intro w' hSw
              go_simp
            simp only [Act.put, List.setIfInBounds_toArray, List.set_cons_zero, List.set_cons_succ]
            refine wpAnyH_take (i := 39) (oi := { dst := some 144, op := _, type := _, pos := _, after := _, guard := _ }) (v := .bool true) rfl (by kernel_rfl) (by kernel_rfl) (by kernel_rfl) (fun _ _ _ h => h) (Or.inl ⟨by rfl, ?_⟩) (by assumption) ?_
            · intro w' hSw
              go_simp
            simp only [Act.put, List.setIfInBounds_toArray, List.set_cons_zero, List.set_cons_succ]
            refine wpAnyH_take (i := 40) (oi := { dst := some 145, op := _, type := _, pos := _, after := _, guard := _ }) (v := .agg #[.int .u64 D.t, .int .u64 D.cm, .bool D.so, .slice a1 D.xs.length c1, .slice a2 D.ys.length c2, .int .i64 D.ir]) rfl (by kernel_rfl) (by kernel_rfl) (by kernel_rfl) (fun _ _ _ h => h) (Or.inl ⟨by rfl, ?_⟩) (by assumption) ?_
            · intro w' hSw
              go_simp
            simp only [Act.put, List.setIfInBounds_toArray, List.set_cons_zero, List.set_cons_succ]
            refine wpAnyH_take (i := 42) (oi := { dst := some 147, op := _, type := _, pos := _, after := _, guard := _ }) (v := .agg #[.int .u64 D.t, .int .u64 D.cm, .bool D.so, .slice a1 D.xs.length c1, .slice a2 D.ys.length c2, .int .i64 D.ir]) rfl (by kernel_rfl) (by kernel_rfl) (by kernel_rfl) (fun _ _ _ h => h) (Or.inl ⟨by rfl, ?_⟩) (by assumption) ?_
            · intro w' hSw
              go_simp
            simp only [Act.put, List.setIfInBounds_toArray, List.set_cons_zero, List.set_cons_succ]
            refine wpAnyH_ready (rs := [41]) (by kernel_rfl) (by simp) ?_
            refine AllReadyH.cons (o := { dst := some 146, op := _, type := _, pos := _, after := _, guard := _ }) rfl (fun K hK => ?_) AllReadyH.nil
            go_simp
            refine (HLI3.out _ (p12)).mono ?_
            rintro e w12 ⟨rfl, p13⟩
            refine hK.out _ _ (KS2.out _ p13) (fun hHeld => ?_)
            clear hK
            refine wpAnyH_ready (rs := [43]) (by kernel_rfl) (by simp) ?_
            refine AllReadyH.cons (o := { dst := some 148, op := _, type := _, pos := _, after := _, guard := _ }) rfl (fun K hK => ?_) AllReadyH.nil
            go_simp
            refine (HLM3.out _ (p13)).mono ?_
            rintro e w13 ⟨rfl, p14⟩
            refine hK.out _ _ (KS2.out _ p14) (fun hHeld => ?_)
            clear hK
            refine wpAnyH_take (i := 44) (oi := { dst := some 149, op := _, type := _, pos := _, after := _, guard := _ }) (v := .bool true) rfl (by kernel_rfl) (by kernel_rfl) (by kernel_rfl) (fun _ _ _ h => h) (Or.inl ⟨by rfl, ?_⟩) (by assumption) ?_
            · intro w' hSw
              go_simp
            simp only [Act.put, List.setIfInBounds_toArray, List.set_cons_zero, List.set_cons_succ]
            refine wpAnyH_take (i := 45) (oi := { dst := some 150, op := _, type := _, pos := _, after := _, guard := _ }) (v := .bool true) rfl (by kernel_rfl) (by kernel_rfl) (by kernel_rfl) (fun _ _ _ h => h) (Or.inl ⟨by rfl, ?_⟩) (by assumption) ?_
            · intro w' hSw
              go_simp
            simp only [Act.put, List.setIfInBounds_toArray, List.set_cons_zero, List.set_cons_succ]
            refine wpAnyH_take (i := 46) (oi := { dst := some 2, op := _, type := _, pos := _, after := _, guard := _ }) (v := .bool true) rfl (by kernel_rfl) (by kernel_rfl) (by kernel_rfl) (fun _ _ _ h => h) (Or.inl ⟨by rfl, ?_⟩) (by assumption) ?_
            · intro w' hSw
              go_simp
            simp only [Act.put, List.setIfInBounds_toArray, List.set_cons_zero, List.set_cons_succ]
            refine wpAnyH_done (by kernel_rfl) ?_ _
            go_wp2_with fail
            go_ret
            exact ⟨rfl, (PE.out _ (PE2.out _ p14).1).2⟩
          · clear HIN CVD CVZ HZ16 cvb cvc
            generalize D.xs.length = n1 at *
            obtain rfl : n1 = 16 := by omega
            clear hl h16
            go_wp2_with fail
            refine wp_region_held_drew (S := (fun w' => w'.cell? ⟨w9.heap.size, 3, none⟩ = some (.slice o1 Z.xs.length q1) ∧ (w'.cell? ⟨w2.heap.size, 0, none⟩ = some (.int .u64 D.t) ∧ w'.cell? ⟨w2.heap.size, 1, none⟩ = some (.int .u64 D.cm) ∧ w'.cell? ⟨w2.heap.size, 2, none⟩ = some (.bool D.so) ∧ w'.cell? ⟨w2.heap.size, 3, none⟩ = some (.slice a1 16 c1) ∧ w'.cell? ⟨w2.heap.size, 4, none⟩ = some (.slice a2 D.ys.length c2) ∧ w'.cell? ⟨w2.heap.size, 5, none⟩ = some (.int .i64 D.ir)) ∧ P2 w')) (by kernel_rfl) (KS.out _ (PD2.out _ p11)) (fun hHeld => ?_)
            refine wpAnyH_take (i := 0) (oi := { dst := some 105, op := _, type := _, pos := _, after := _, guard := _ }) (v := .pointer (some ⟨w9.heap.size, 3, none⟩)) rfl (by kernel_rfl) (by kernel_rfl) (by kernel_rfl) (fun _ _ _ h => h) (Or.inl ⟨by rfl, ?_⟩) (by assumption) ?_
            · intro w' hSw
              go_simp
            simp only [Act.put, List.setIfInBounds_toArray, List.set_cons_zero, List.set_cons_succ]
            refine wpAnyH_take (i := 1) (oi := { dst := some 106, op := _, type := _, pos := _, after := _, guard := _ }) (v := .slice o1 Z.xs.length q1) rfl (by kernel_rfl) (by kernel_rfl) (by kernel_rfl) (fun _ _ _ h => h) (Or.inl ⟨by rfl, ?_⟩) (by assumption) ?_
            · intro w' hSw
              go_simp
            simp only [Act.put, List.setIfInBounds_toArray, List.set_cons_zero, List.set_cons_succ]
            refine wpAnyH_take (i := 2) (oi := { dst := some 107, op := _, type := _, pos := _, after := _, guard := _ }) (v := .int .i64 (Z.xs.length : Int)) rfl (by kernel_rfl) (by kernel_rfl) (by kernel_rfl) (fun _ _ _ h => h) (Or.inl ⟨by rfl, ?_⟩) (by assumption) ?_
            · intro w' hSw
              go_simp
            simp only [Act.put, List.setIfInBounds_toArray, List.set_cons_zero, List.set_cons_succ]
            refine wpAnyH_take (i := 3) (oi := { dst := some 108, op := _, type := _, pos := _, after := _, guard := _ }) (v := .bool true) rfl (by kernel_rfl) (by kernel_rfl) (by kernel_rfl) (fun _ _ _ h => h) (Or.inl ⟨by rfl, ?_⟩) (by assumption) ?_
            · intro w' hSw
              go_simp
            simp only [Act.put, List.setIfInBounds_toArray, List.set_cons_zero, List.set_cons_succ]
            refine wpAnyH_take (i := 4) (oi := { dst := some 109, op := _, type := _, pos := _, after := _, guard := _ }) (v := .bool true) rfl (by kernel_rfl) (by kernel_rfl) (by kernel_rfl) (fun _ _ _ h => h) (Or.inl ⟨by rfl, ?_⟩) (by assumption) ?_
            · intro w' hSw
              go_simp
            simp only [Act.put, List.setIfInBounds_toArray, List.set_cons_zero, List.set_cons_succ]
            refine wpAnyH_take (i := 5) (oi := { dst := some 110, op := _, type := _, pos := _, after := _, guard := _ }) (v := .pointer (some ⟨w2.heap.size, 3, none⟩)) rfl (by kernel_rfl) (by kernel_rfl) (by kernel_rfl) (fun _ _ _ h => h) (Or.inl ⟨by rfl, ?_⟩) (by assumption) ?_
            · intro w' hSw
              go_simp
            simp only [Act.put, List.setIfInBounds_toArray, List.set_cons_zero, List.set_cons_succ]
            refine wpAnyH_take (i := 6) (oi := { dst := some 111, op := _, type := _, pos := _, after := _, guard := _ }) (v := .slice a1 16 c1) rfl (by kernel_rfl) (by kernel_rfl) (by kernel_rfl) (fun _ _ _ h => h) (Or.inl ⟨by rfl, ?_⟩) (by assumption) ?_
            · intro w' hSw
              go_simp
            simp only [Act.put, List.setIfInBounds_toArray, List.set_cons_zero, List.set_cons_succ]
            refine wpAnyH_take (i := 7) (oi := { dst := some 112, op := _, type := _, pos := _, after := _, guard := _ }) (v := .int .i64 16) rfl (by kernel_rfl) (by kernel_rfl) (by kernel_rfl) (fun _ _ _ h => h) (Or.inl ⟨by rfl, ?_⟩) (by assumption) ?_
            · intro w' hSw
              go_simp
            simp only [Act.put, List.setIfInBounds_toArray, List.set_cons_zero, List.set_cons_succ]
            refine wpAnyH_take (i := 8) (oi := { dst := some 113, op := _, type := _, pos := _, after := _, guard := _ }) (v := .bool true) rfl (by kernel_rfl) (by kernel_rfl) (by kernel_rfl) (fun _ _ _ h => h) (Or.inl ⟨by rfl, ?_⟩) (by assumption) ?_
            · intro w' hSw
              go_simp
            simp only [Act.put, List.setIfInBounds_toArray, List.set_cons_zero, List.set_cons_succ]
            refine wpAnyH_take (i := 9) (oi := { dst := some 114, op := _, type := _, pos := _, after := _, guard := _ }) (v := .bool true) rfl (by kernel_rfl) (by kernel_rfl) (by kernel_rfl) (fun _ _ _ h => h) (Or.inl ⟨by rfl, ?_⟩) (by assumption) ?_
            · intro w' hSw
              go_simp
            simp only [Act.put, List.setIfInBounds_toArray, List.set_cons_zero, List.set_cons_succ]
            refine wpAnyH_take (i := 10) (oi := { dst := some 115, op := _, type := _, pos := _, after := _, guard := _ }) (v := undef) rfl (by kernel_rfl) (by kernel_rfl) (by kernel_rfl) (fun _ _ _ h => h) (Or.inr ⟨by rfl, rfl⟩) (by assumption) ?_
            simp only [Act.put, List.setIfInBounds_toArray, List.set_cons_zero, List.set_cons_succ]
            refine wpAnyH_take (i := 11) (oi := { dst := some 116, op := _, type := _, pos := _, after := _, guard := _ }) (v := undef) rfl (by kernel_rfl) (by kernel_rfl) (by kernel_rfl) (fun _ _ _ h => h) (Or.inr ⟨by rfl, rfl⟩) (by assumption) ?_
            simp only [Act.put, List.setIfInBounds_toArray, List.set_cons_zero, List.set_cons_succ]
            refine wpAnyH_take (i := 12) (oi := { dst := some 117, op := _, type := _, pos := _, after := _, guard := _ }) (v := undef) rfl (by kernel_rfl) (by kernel_rfl) (by kernel_rfl) (fun _ _ _ h => h) (Or.inr ⟨by rfl, rfl⟩) (by assumption) ?_
            simp only [Act.put, List.setIfInBounds_toArray, List.set_cons_zero, List.set_cons_succ]
            refine wpAnyH_take (i := 13) (oi := { dst := some 118, op := _, type := _, pos := _, after := _, guard := _ }) (v := undef) rfl (by kernel_rfl) (by kernel_rfl) (by kernel_rfl) (fun _ _ _ h => h) (Or.inr ⟨by rfl, rfl⟩) (by assumption) ?_
            simp only [Act.put, List.setIfInBounds_toArray, List.set_cons_zero, List.set_cons_succ]
            refine wpAnyH_take (i := 14) (oi := { dst := some 119, op := _, type := _, pos := _, after := _, guard := _ }) (v := undef) rfl (by kernel_rfl) (by kernel_rfl) (by kernel_rfl) (fun _ _ _ h => h) (Or.inr ⟨by rfl, rfl⟩) (by assumption) ?_
            simp only [Act.put, List.setIfInBounds_toArray, List.set_cons_zero, List.set_cons_succ]
            refine wpAnyH_take (i := 15) (oi := { dst := some 120, op := _, type := _, pos := _, after := _, guard := _ }) (v := undef) rfl (by kernel_rfl) (by kernel_rfl) (by kernel_rfl) (fun _ _ _ h => h) (Or.inr ⟨by rfl, rfl⟩) (by assumption) ?_
            simp only [Act.put, List.setIfInBounds_toArray, List.set_cons_zero, List.set_cons_succ]
            refine wpAnyH_take (i := 16) (oi := { dst := some 121, op := _, type := _, pos := _, after := _, guard := _ }) (v := undef) rfl (by kernel_rfl) (by kernel_rfl) (by kernel_rfl) (fun _ _ _ h => h) (Or.inr ⟨by rfl, rfl⟩) (by assumption) ?_
            simp only [Act.put, List.setIfInBounds_toArray, List.set_cons_zero, List.set_cons_succ]
            refine wpAnyH_take (i := 17) (oi := { dst := some 122, op := _, type := _, pos := _, after := _, guard := _ }) (v := undef) rfl (by kernel_rfl) (by kernel_rfl) (by kernel_rfl) (fun _ _ _ h => h) (Or.inr ⟨by rfl, rfl⟩) (by assumption) ?_
            simp only [Act.put, List.setIfInBounds_toArray, List.set_cons_zero, List.set_cons_succ]
            refine wpAnyH_take (i := 18) (oi := { dst := some 123, op := _, type := _, pos := _, after := _, guard := _ }) (v := undef) rfl (by kernel_rfl) (by kernel_rfl) (by kernel_rfl) (fun _ _ _ h => h) (Or.inr ⟨by rfl, rfl⟩) (by assumption) ?_
            simp only [Act.put, List.setIfInBounds_toArray, List.set_cons_zero, List.set_cons_succ]
            refine wpAnyH_take (i := 19) (oi := { dst := some 124, op := _, type := _, pos := _, after := _, guard := _ }) (v := undef) rfl (by kernel_rfl) (by kernel_rfl) (by kernel_rfl) (fun _ _ _ h => h) (Or.inr ⟨by rfl, rfl⟩) (by assumption) ?_
            simp only [Act.put, List.setIfInBounds_toArray, List.set_cons_zero, List.set_cons_succ]
            refine wpAnyH_take (i := 20) (oi := { dst := some 125, op := _, type := _, pos := _, after := _, guard := _ }) (v := undef) rfl (by kernel_rfl) (by kernel_rfl) (by kernel_rfl) (fun _ _ _ h => h) (Or.inr ⟨by rfl, rfl⟩) (by assumption) ?_
            simp only [Act.put, List.setIfInBounds_toArray, List.set_cons_zero, List.set_cons_succ]
            refine wpAnyH_take (i := 21) (oi := { dst := some 126, op := _, type := _, pos := _, after := _, guard := _ }) (v := .bool true) rfl (by kernel_rfl) (by kernel_rfl) (by kernel_rfl) (fun _ _ _ h => h) (Or.inl ⟨by rfl, ?_⟩) (by assumption) ?_
            · intro w' hSw
              go_simp
            simp only [Act.put, List.setIfInBounds_toArray, List.set_cons_zero, List.set_cons_succ]
            refine wpAnyH_take (i := 22) (oi := { dst := some 127, op := _, type := _, pos := _, after := _, guard := _ }) (v := .bool true) rfl (by kernel_rfl) (by kernel_rfl) (by kernel_rfl) (fun _ _ _ h => h) (Or.inl ⟨by rfl, ?_⟩) (by assumption) ?_
            · intro w' hSw
              go_simp
            simp only [Act.put, List.setIfInBounds_toArray, List.set_cons_zero, List.set_cons_succ]
            refine wpAnyH_take (i := 23) (oi := { dst := some 128, op := _, type := _, pos := _, after := _, guard := _ }) (v := .bool true) rfl (by kernel_rfl) (by kernel_rfl) (by kernel_rfl) (fun _ _ _ h => h) (Or.inl ⟨by rfl, ?_⟩) (by assumption) ?_
            · intro w' hSw
              go_simp
            simp only [Act.put, List.setIfInBounds_toArray, List.set_cons_zero, List.set_cons_succ]
            refine wpAnyH_take (i := 24) (oi := { dst := some 129, op := _, type := _, pos := _, after := _, guard := _ }) (v := .int .u64 2176) rfl (by kernel_rfl) (by kernel_rfl) (by kernel_rfl) (fun _ _ _ h => h) (Or.inl ⟨by rfl, ?_⟩) (by assumption) ?_
            · intro w' hSw
              go_simp
            simp only [Act.put, List.setIfInBounds_toArray, List.set_cons_zero, List.set_cons_succ]
            refine wpAnyH_take (i := 25) (oi := { dst := some 130, op := _, type := _, pos := _, after := _, guard := _ }) (v := .int .u64 1) rfl (by kernel_rfl) (by kernel_rfl) (by kernel_rfl) (fun _ _ _ h => h) (Or.inl ⟨by rfl, ?_⟩) (by assumption) ?_
            · intro w' hSw
              go_simp
            simp only [Act.put, List.setIfInBounds_toArray, List.set_cons_zero, List.set_cons_succ]
            refine wpAnyH_take (i := 26) (oi := { dst := some 131, op := _, type := _, pos := _, after := _, guard := _ }) (v := .int .u64 1) rfl (by kernel_rfl) (by kernel_rfl) (by kernel_rfl) (fun _ _ _ h => h) (Or.inl ⟨by rfl, ?_⟩) (by assumption) ?_
            · intro w' hSw
              go_simp
            simp only [Act.put, List.setIfInBounds_toArray, List.set_cons_zero, List.set_cons_succ]
            refine wpAnyH_take (i := 27) (oi := { dst := some 132, op := _, type := _, pos := _, after := _, guard := _ }) (v := .bool true) rfl (by kernel_rfl) (by kernel_rfl) (by kernel_rfl) (fun _ _ _ h => h) (Or.inl ⟨by rfl, ?_⟩) (by assumption) ?_
            · intro w' hSw
              go_simp
            simp only [Act.put, List.setIfInBounds_toArray, List.set_cons_zero, List.set_cons_succ]
            refine wpAnyH_take (i := 28) (oi := { dst := some 133, op := _, type := _, pos := _, after := _, guard := _ }) (v := .bool true) rfl (by kernel_rfl) (by kernel_rfl) (by kernel_rfl) (fun _ _ _ h => h) (Or.inl ⟨by rfl, ?_⟩) (by assumption) ?_
            · intro w' hSw
              go_simp
            simp only [Act.put, List.setIfInBounds_toArray, List.set_cons_zero, List.set_cons_succ]
            refine wpAnyH_take (i := 29) (oi := { dst := some 134, op := _, type := _, pos := _, after := _, guard := _ }) (v := .bool true) rfl (by kernel_rfl) (by kernel_rfl) (by kernel_rfl) (fun _ _ _ h => h) (Or.inl ⟨by rfl, ?_⟩) (by assumption) ?_
            · intro w' hSw
              go_simp
            simp only [Act.put, List.setIfInBounds_toArray, List.set_cons_zero, List.set_cons_succ]
            refine wpAnyH_take (i := 30) (oi := { dst := some 135, op := _, type := _, pos := _, after := _, guard := _ }) (v := .int .u64 2176) rfl (by kernel_rfl) (by kernel_rfl) (by kernel_rfl) (fun _ _ _ h => h) (Or.inl ⟨by rfl, ?_⟩) (by assumption) ?_
            · intro w' hSw
              go_simp
            simp only [Act.put, List.setIfInBounds_toArray, List.set_cons_zero, List.set_cons_succ]
            refine wpAnyH_take (i := 31) (oi := { dst := some 136, op := _, type := _, pos := _, after := _, guard := _ }) (v := .int .u64 17) rfl (by kernel_rfl) (by kernel_rfl) (by kernel_rfl) (fun _ _ _ h => h) (Or.inl ⟨by rfl, ?_⟩) (by assumption) ?_
            · intro w' hSw
              go_simp
            simp only [Act.put, List.setIfInBounds_toArray, List.set_cons_zero, List.set_cons_succ]
            refine wpAnyH_take (i := 32) (oi := { dst := some 137, op := _, type := _, pos := _, after := _, guard := _ }) (v := .int .u64 1) rfl (by kernel_rfl) (by kernel_rfl) (by kernel_rfl) (fun _ _ _ h => h) (Or.inl ⟨by rfl, ?_⟩) (by assumption) ?_
            · intro w' hSw
              go_simp
            simp only [Act.put, List.setIfInBounds_toArray, List.set_cons_zero, List.set_cons_succ]
            refine wpAnyH_take (i := 33) (oi := { dst := some 138, op := _, type := _, pos := _, after := _, guard := _ }) (v := .bool true) rfl (by kernel_rfl) (by kernel_rfl) (by kernel_rfl) (fun _ _ _ h => h) (Or.inl ⟨by rfl, ?_⟩) (by assumption) ?_
            · intro w' hSw
              go_simp
            simp only [Act.put, List.setIfInBounds_toArray, List.set_cons_zero, List.set_cons_succ]
            refine wpAnyH_take (i := 34) (oi := { dst := some 139, op := _, type := _, pos := _, after := _, guard := _ }) (v := .slice a0 len0 cap0) rfl (by kernel_rfl) (by kernel_rfl) (by kernel_rfl) (fun _ _ _ h => h) (Or.inl ⟨by rfl, ?_⟩) (by assumption) ?_
            · intro w' hSw
              go_simp
            simp only [Act.put, List.setIfInBounds_toArray, List.set_cons_zero, List.set_cons_succ]
            refine wpAnyH_ready (rs := [35]) (by kernel_rfl) (by simp) ?_
            refine AllReadyH.cons (o := { dst := some 140, op := _, type := _, pos := _, after := _, guard := _ }) rfl (fun K hK => ?_) AllReadyH.nil
            go_simp
            refine (HPK3.out _ (PD2.out _ p11)).mono ?_
            rintro e w11 ⟨rfl, p12⟩
            refine hK.out _ _ (KS.out _ p12) (fun hHeld => ?_)
            clear hK
            refine wpAnyH_take (i := 36) (oi := { dst := some 141, op := _, type := _, pos := _, after := _, guard := _ }) (v := .bool true) rfl (by kernel_rfl) (by kernel_rfl) (by kernel_rfl) (fun _ _ _ h => h) (Or.inl ⟨by rfl, ?_⟩) (by assumption) ?_
            · intro w' hSw
              go_simp
            simp only [Act.put, List.setIfInBounds_toArray, List.set_cons_zero, List.set_cons_succ]
            refine wpAnyH_take (i := 37) (oi := { dst := some 142, op := _, type := _, pos := _, after := _, guard := _ }) (v := .bool true) rfl (by kernel_rfl) (by kernel_rfl) (by kernel_rfl) (fun _ _ _ h => h) (Or.inl ⟨by rfl, ?_⟩) (by assumption) ?_
            · intro w' hSw
              go_simp
            simp only [Act.put, List.setIfInBounds_toArray, List.set_cons_zero, List.set_cons_succ]
            refine wpAnyH_take (i := 38) (oi := { dst := some 143, op := _, type := _, pos := _, after := _, guard := _ }) (v := .bool true) rfl (by kernel_rfl) (by kernel_rfl) (by kernel_rfl) (fun _ _ _ h => h) (Or.inl ⟨by rfl, ?_⟩) (by assumption) ?_
            · intro w' hSw
              go_simp
            simp only [Act.put, List.setIfInBounds_toArray, List.set_cons_zero, List.set_cons_succ]
            refine wpAnyH_take (i := 39) (oi := { dst := some 144, op := _, type := _, pos := _, after := _, guard := _ }) (v := .bool true) rfl (by kernel_rfl) (by kernel_rfl) (by kernel_rfl) (fun _ _ _ h => h) (Or.inl ⟨by rfl, ?_⟩) (by assumption) ?_
            · intro w' hSw
              go_simp
            simp only [Act.put, List.setIfInBounds_toArray, List.set_cons_zero, List.set_cons_succ]
            refine wpAnyH_take (i := 40) (oi := { dst := some 145, op := _, type := _, pos := _, after := _, guard := _ }) (v := .agg #[.int .u64 D.t, .int .u64 D.cm, .bool D.so, .slice a1 16 c1, .slice a2 D.ys.length c2, .int .i64 D.ir]) rfl (by kernel_rfl) (by kernel_rfl) (by kernel_rfl) (fun _ _ _ h => h) (Or.inl ⟨by rfl, ?_⟩) (by assumption) ?_
            · intro w' hSw
              go_simp
            simp only [Act.put, List.setIfInBounds_toArray, List.set_cons_zero, List.set_cons_succ]
            refine wpAnyH_take (i := 42) (oi := { dst := some 147, op := _, type := _, pos := _, after := _, guard := _ }) (v := .agg #[.int .u64 D.t, .int .u64 D.cm, .bool D.so, .slice a1 16 c1, .slice a2 D.ys.length c2, .int .i64 D.ir]) rfl (by kernel_rfl) (by kernel_rfl) (by kernel_rfl) (fun _ _ _ h => h) (Or.inl ⟨by rfl, ?_⟩) (by assumption) ?_
            · intro w' hSw
              go_simp
            simp only [Act.put, List.setIfInBounds_toArray, List.set_cons_zero, List.set_cons_succ]
            refine wpAnyH_ready (rs := [41]) (by kernel_rfl) (by simp) ?_
            refine AllReadyH.cons (o := { dst := some 146, op := _, type := _, pos := _, after := _, guard := _ }) rfl (fun K hK => ?_) AllReadyH.nil
            go_simp
            refine (HLI3.out _ (p12)).mono ?_
            rintro e w12 ⟨rfl, p13⟩
            refine hK.out _ _ (KS.out _ p13) (fun hHeld => ?_)
            clear hK
            refine wpAnyH_ready (rs := [43]) (by kernel_rfl) (by simp) ?_
            refine AllReadyH.cons (o := { dst := some 148, op := _, type := _, pos := _, after := _, guard := _ }) rfl (fun K hK => ?_) AllReadyH.nil
            go_simp
            refine (HLM3.out _ (p13)).mono ?_
            rintro e w13 ⟨rfl, p14⟩
            refine hK.out _ _ (KS.out _ p14) (fun hHeld => ?_)
            clear hK
            refine wpAnyH_take (i := 44) (oi := { dst := some 149, op := _, type := _, pos := _, after := _, guard := _ }) (v := .bool true) rfl (by kernel_rfl) (by kernel_rfl) (by kernel_rfl) (fun _ _ _ h => h) (Or.inl ⟨by rfl, ?_⟩) (by assumption) ?_
            · intro w' hSw
              go_simp
            simp only [Act.put, List.setIfInBounds_toArray, List.set_cons_zero, List.set_cons_succ]
            refine wpAnyH_take (i := 45) (oi := { dst := some 150, op := _, type := _, pos := _, after := _, guard := _ }) (v := .bool true) rfl (by kernel_rfl) (by kernel_rfl) (by kernel_rfl) (fun _ _ _ h => h) (Or.inl ⟨by rfl, ?_⟩) (by assumption) ?_
            · intro w' hSw
              go_simp
            simp only [Act.put, List.setIfInBounds_toArray, List.set_cons_zero, List.set_cons_succ]
            refine wpAnyH_take (i := 46) (oi := { dst := some 2, op := _, type := _, pos := _, after := _, guard := _ }) (v := .bool true) rfl (by kernel_rfl) (by kernel_rfl) (by kernel_rfl) (fun _ _ _ h => h) (Or.inl ⟨by rfl, ?_⟩) (by assumption) ?_
            · intro w' hSw
              go_simp
            simp only [Act.put, List.setIfInBounds_toArray, List.set_cons_zero, List.set_cons_succ]
            refine wpAnyH_done (by kernel_rfl) ?_ _
            go_wp2_with fail
            go_ret
            exact ⟨rfl, (PE.out _ (PE2.out _ p14).1).2⟩
        · have d5 : decide (pk ≤ 5) = false := by simpa using h5
          obtain rfl : lv = 2048 := by rw [HLV.out, if_neg h5]
          clear h5 HLV
          by_cases hl : D.xs.length < 16
          · have e16 : ((D.xs.length : Int) == 16) = false := by simp; omega
            have hzx : Z.xs = D.xs ++ [b] := by rw [HIN.out, if_pos hl]
            have hst : strOfNums Z.xs = strOfNums D.xs ++ strOfNums [b] := by rw [hzx, str_app]
            have KS2 : Hid (∀ w', P2 w' → w'.cell? ⟨w9.heap.size, 3, none⟩ = some (.slice o1 Z.xs.length q1) ∧ (w'.cell? ⟨w2.heap.size, 0, none⟩ = some (.int .u64 D.t) ∧ w'.cell? ⟨w2.heap.size, 1, none⟩ = some (.int .u64 D.cm) ∧ w'.cell? ⟨w2.heap.size, 2, none⟩ = some (.bool D.so) ∧ w'.cell? ⟨w2.heap.size, 3, none⟩ = some (.slice a1 D.xs.length c1) ∧ w'.cell? ⟨w2.heap.size, 4, none⟩ = some (.slice a2 D.ys.length c2) ∧ w'.cell? ⟨w2.heap.size, 5, none⟩ = some (.int .i64 D.ir)) ∧ (convert 22 9 (.slice o1 Z.xs.length q1)).run Try.prog w' = .ok (.string (strOfNums D.xs ++ strOfNums [b])) w' ∧ (convert 22 9 (.slice a1 D.xs.length c1)).run Try.prog w' = .ok (.string (strOfNums D.xs)) w' ∧ P2 w') := fun w' h => ⟨(KS.out w' h).1, (KS.out w' h).2.1, by rw [← hst]; exact CVZ.out w' h, CVD.out w' h, h⟩
            clear hst hzx hl HIN KS CVD CVZ h16 HZ16
            have hsum : (strOfNums D.xs).size + (strOfNums [b]).size ≤ 9223372036854775807 := by rw [strOfNums_size, strOfNums_size]; have := HN.out.1; simp; omega
            generalize strOfNums D.xs = sx at *
            generalize strOfNums [b] = sb at *
            go_wp2_with fail
            refine wp_region_held_drew (S := (fun w' => w'.cell? ⟨w9.heap.size, 3, none⟩ = some (.slice o1 Z.xs.length q1) ∧ (w'.cell? ⟨w2.heap.size, 0, none⟩ = some (.int .u64 D.t) ∧ w'.cell? ⟨w2.heap.size, 1, none⟩ = some (.int .u64 D.cm) ∧ w'.cell? ⟨w2.heap.size, 2, none⟩ = some (.bool D.so) ∧ w'.cell? ⟨w2.heap.size, 3, none⟩ = some (.slice a1 D.xs.length c1) ∧ w'.cell? ⟨w2.heap.size, 4, none⟩ = some (.slice a2 D.ys.length c2) ∧ w'.cell? ⟨w2.heap.size, 5, none⟩ = some (.int .i64 D.ir)) ∧ (convert 22 9 (.slice o1 Z.xs.length q1)).run Try.prog w' = .ok (.string (sx ++ sb)) w' ∧ (convert 22 9 (.slice a1 D.xs.length c1)).run Try.prog w' = .ok (.string sx) w' ∧ P2 w')) (by kernel_rfl) (KS2.out _ (PD2.out _ p11)) (fun hHeld => ?_)
            refine wpAnyH_take (i := 0) (oi := { dst := some 105, op := _, type := _, pos := _, after := _, guard := _ }) (v := .pointer (some ⟨w9.heap.size, 3, none⟩)) rfl (by kernel_rfl) (by kernel_rfl) (by kernel_rfl) (fun _ _ _ h => h) (Or.inl ⟨by rfl, ?_⟩) (by assumption) ?_
            · intro w' hSw
              go_simp
            simp only [Act.put, List.setIfInBounds_toArray, List.set_cons_zero, List.set_cons_succ]
            refine wpAnyH_take (i := 1) (oi := { dst := some 106, op := _, type := _, pos := _, after := _, guard := _ }) (v := .slice o1 Z.xs.length q1) rfl (by kernel_rfl) (by kernel_rfl) (by kernel_rfl) (fun _ _ _ h => h) (Or.inl ⟨by rfl, ?_⟩) (by assumption) ?_
            · intro w' hSw
              go_simp
            simp only [Act.put, List.setIfInBounds_toArray, List.set_cons_zero, List.set_cons_succ]
            refine wpAnyH_take (i := 2) (oi := { dst := some 107, op := _, type := _, pos := _, after := _, guard := _ }) (v := .int .i64 (Z.xs.length : Int)) rfl (by kernel_rfl) (by kernel_rfl) (by kernel_rfl) (fun _ _ _ h => h) (Or.inl ⟨by rfl, ?_⟩) (by assumption) ?_
            · intro w' hSw
              go_simp
            simp only [Act.put, List.setIfInBounds_toArray, List.set_cons_zero, List.set_cons_succ]
            refine wpAnyH_take (i := 3) (oi := { dst := some 108, op := _, type := _, pos := _, after := _, guard := _ }) (v := .bool true) rfl (by kernel_rfl) (by kernel_rfl) (by kernel_rfl) (fun _ _ _ h => h) (Or.inl ⟨by rfl, ?_⟩) (by assumption) ?_
            · intro w' hSw
              go_simp
            simp only [Act.put, List.setIfInBounds_toArray, List.set_cons_zero, List.set_cons_succ]
            refine wpAnyH_take (i := 4) (oi := { dst := some 109, op := _, type := _, pos := _, after := _, guard := _ }) (v := .bool true) rfl (by kernel_rfl) (by kernel_rfl) (by kernel_rfl) (fun _ _ _ h => h) (Or.inl ⟨by rfl, ?_⟩) (by assumption) ?_
            · intro w' hSw
              go_simp
            simp only [Act.put, List.setIfInBounds_toArray, List.set_cons_zero, List.set_cons_succ]
            refine wpAnyH_take (i := 5) (oi := { dst := some 110, op := _, type := _, pos := _, after := _, guard := _ }) (v := .pointer (some ⟨w2.heap.size, 3, none⟩)) rfl (by kernel_rfl) (by kernel_rfl) (by kernel_rfl) (fun _ _ _ h => h) (Or.inl ⟨by rfl, ?_⟩) (by assumption) ?_
            · intro w' hSw
              go_simp
            simp only [Act.put, List.setIfInBounds_toArray, List.set_cons_zero, List.set_cons_succ]
            refine wpAnyH_take (i := 6) (oi := { dst := some 111, op := _, type := _, pos := _, after := _, guard := _ }) (v := .slice a1 D.xs.length c1) rfl (by kernel_rfl) (by kernel_rfl) (by kernel_rfl) (fun _ _ _ h => h) (Or.inl ⟨by rfl, ?_⟩) (by assumption) ?_
            · intro w' hSw
              go_simp
            simp only [Act.put, List.setIfInBounds_toArray, List.set_cons_zero, List.set_cons_succ]
            refine wpAnyH_take (i := 7) (oi := { dst := some 112, op := _, type := _, pos := _, after := _, guard := _ }) (v := .int .i64 (D.xs.length : Int)) rfl (by kernel_rfl) (by kernel_rfl) (by kernel_rfl) (fun _ _ _ h => h) (Or.inl ⟨by rfl, ?_⟩) (by assumption) ?_
            · intro w' hSw
              go_simp
            simp only [Act.put, List.setIfInBounds_toArray, List.set_cons_zero, List.set_cons_succ]
            refine wpAnyH_take (i := 8) (oi := { dst := some 113, op := _, type := _, pos := _, after := _, guard := _ }) (v := .bool false) rfl (by kernel_rfl) (by kernel_rfl) (by kernel_rfl) (fun _ _ _ h => h) (Or.inl ⟨by rfl, ?_⟩) (by assumption) ?_
            · intro w' hSw
              go_simp
            simp only [Act.put, List.setIfInBounds_toArray, List.set_cons_zero, List.set_cons_succ]
            refine wpAnyH_take (i := 9) (oi := { dst := some 114, op := _, type := _, pos := _, after := _, guard := _ }) (v := .bool false) rfl (by kernel_rfl) (by kernel_rfl) (by kernel_rfl) (fun _ _ _ h => h) (Or.inl ⟨by rfl, ?_⟩) (by assumption) ?_
            · intro w' hSw
              go_simp
            simp only [Act.put, List.setIfInBounds_toArray, List.set_cons_zero, List.set_cons_succ]
            refine wpAnyH_take (i := 10) (oi := { dst := some 115, op := _, type := _, pos := _, after := _, guard := _ }) (v := .pointer (some ⟨w9.heap.size, 3, none⟩)) rfl (by kernel_rfl) (by kernel_rfl) (by kernel_rfl) (fun _ _ _ h => h) (Or.inl ⟨by rfl, ?_⟩) (by assumption) ?_
            · intro w' hSw
              go_simp
            simp only [Act.put, List.setIfInBounds_toArray, List.set_cons_zero, List.set_cons_succ]
            refine wpAnyH_take (i := 11) (oi := { dst := some 116, op := _, type := _, pos := _, after := _, guard := _ }) (v := .slice o1 Z.xs.length q1) rfl (by kernel_rfl) (by kernel_rfl) (by kernel_rfl) (fun _ _ _ h => h) (Or.inl ⟨by rfl, ?_⟩) (by assumption) ?_
            · intro w' hSw
              go_simp
            simp only [Act.put, List.setIfInBounds_toArray, List.set_cons_zero, List.set_cons_succ]
            refine wpAnyH_take (i := 12) (oi := { dst := some 117, op := _, type := _, pos := _, after := _, guard := _ }) (v := .string (sx ++ sb)) rfl (by kernel_rfl) (by kernel_rfl) (by kernel_rfl) (fun _ _ _ h => h) (Or.inl ⟨by rfl, ?_⟩) (by assumption) ?_
            · intro w' hSw
              go_simp
            simp only [Act.put, List.setIfInBounds_toArray, List.set_cons_zero, List.set_cons_succ]
            refine wpAnyH_take (i := 13) (oi := { dst := some 118, op := _, type := _, pos := _, after := _, guard := _ }) (v := .pointer (some ⟨w2.heap.size, 3, none⟩)) rfl (by kernel_rfl) (by kernel_rfl) (by kernel_rfl) (fun _ _ _ h => h) (Or.inl ⟨by rfl, ?_⟩) (by assumption) ?_
            · intro w' hSw
              go_simp
            simp only [Act.put, List.setIfInBounds_toArray, List.set_cons_zero, List.set_cons_succ]
            refine wpAnyH_take (i := 14) (oi := { dst := some 119, op := _, type := _, pos := _, after := _, guard := _ }) (v := .slice a1 D.xs.length c1) rfl (by kernel_rfl) (by kernel_rfl) (by kernel_rfl) (fun _ _ _ h => h) (Or.inl ⟨by rfl, ?_⟩) (by assumption) ?_
            · intro w' hSw
              go_simp
            simp only [Act.put, List.setIfInBounds_toArray, List.set_cons_zero, List.set_cons_succ]
            refine wpAnyH_take (i := 15) (oi := { dst := some 120, op := _, type := _, pos := _, after := _, guard := _ }) (v := .string sx) rfl (by kernel_rfl) (by kernel_rfl) (by kernel_rfl) (fun _ _ _ h => h) (Or.inl ⟨by rfl, ?_⟩) (by assumption) ?_
            · intro w' hSw
              go_simp
            simp only [Act.put, List.setIfInBounds_toArray, List.set_cons_zero, List.set_cons_succ]
            refine wpAnyH_take (i := 16) (oi := { dst := some 121, op := _, type := _, pos := _, after := _, guard := _ }) (v := .int .u8 b) rfl (by kernel_rfl) (by kernel_rfl) (by kernel_rfl) (fun _ _ _ h => h) (Or.inl ⟨by rfl, ?_⟩) (by assumption) ?_
            · intro w' hSw
              go_simp
            simp only [Act.put, List.setIfInBounds_toArray, List.set_cons_zero, List.set_cons_succ]
            refine wpAnyH_ready (rs := [17]) (by kernel_rfl) (by simp) ?_
            refine AllReadyH.cons (o := { dst := some 122, op := _, type := _, pos := _, after := _, guard := _ }) rfl (fun K hK => ?_) AllReadyH.nil
            go_simp
            refine hK.out _ _ (KS2.out _ (PD2.out _ (PA2.out _ _ p11))) (fun hHeld => ?_)
            clear hK
            refine wpAnyH_ready (rs := [18]) (by kernel_rfl) (by simp) ?_
            refine AllReadyH.cons (o := { dst := some 123, op := _, type := _, pos := _, after := _, guard := _ }) rfl (fun K hK => ?_) AllReadyH.nil
            go_simp
            refine hK.out _ _ (KS2.out _ (PD2.out _ (PA2.out _ _ p11))) (fun hHeld => ?_)
            clear hK
            refine wpAnyH_take (i := 19) (oi := { dst := some 124, op := _, type := _, pos := _, after := _, guard := _ }) (v := .string (sx ++ sb)) rfl (by kernel_rfl) (by kernel_rfl) (by kernel_rfl) (fun _ _ _ h => h) (Or.inl ⟨by rfl, ?_⟩) (by assumption) ?_
            · intro w' hSw
              go_simp
            simp only [Act.put, List.setIfInBounds_toArray, List.set_cons_zero, List.set_cons_succ]
            refine wpAnyH_take (i := 20) (oi := { dst := some 125, op := _, type := _, pos := _, after := _, guard := _ }) (v := .bool true) rfl (by kernel_rfl) (by kernel_rfl) (by kernel_rfl) (fun _ _ _ h => h) (Or.inl ⟨by rfl, ?_⟩) (by assumption) ?_
            · intro w' hSw
              go_simp
            simp only [Act.put, List.setIfInBounds_toArray, List.set_cons_zero, List.set_cons_succ]
            refine wpAnyH_take (i := 21) (oi := { dst := some 126, op := _, type := _, pos := _, after := _, guard := _ }) (v := .bool true) rfl (by kernel_rfl) (by kernel_rfl) (by kernel_rfl) (fun _ _ _ h => h) (Or.inl ⟨by rfl, ?_⟩) (by assumption) ?_
            · intro w' hSw
              go_simp
            simp only [Act.put, List.setIfInBounds_toArray, List.set_cons_zero, List.set_cons_succ]
            refine wpAnyH_take (i := 22) (oi := { dst := some 127, op := _, type := _, pos := _, after := _, guard := _ }) (v := .bool true) rfl (by kernel_rfl) (by kernel_rfl) (by kernel_rfl) (fun _ _ _ h => h) (Or.inl ⟨by rfl, ?_⟩) (by assumption) ?_
            · intro w' hSw
              go_simp
            simp only [Act.put, List.setIfInBounds_toArray, List.set_cons_zero, List.set_cons_succ]
            refine wpAnyH_take (i := 23) (oi := { dst := some 128, op := _, type := _, pos := _, after := _, guard := _ }) (v := .bool true) rfl (by kernel_rfl) (by kernel_rfl) (by kernel_rfl) (fun _ _ _ h => h) (Or.inl ⟨by rfl, ?_⟩) (by assumption) ?_
            · intro w' hSw
              go_simp
            simp only [Act.put, List.setIfInBounds_toArray, List.set_cons_zero, List.set_cons_succ]
            refine wpAnyH_take (i := 24) (oi := { dst := some 129, op := _, type := _, pos := _, after := _, guard := _ }) (v := .int .u64 2048) rfl (by kernel_rfl) (by kernel_rfl) (by kernel_rfl) (fun _ _ _ h => h) (Or.inl ⟨by rfl, ?_⟩) (by assumption) ?_
            · intro w' hSw
              go_simp
            simp only [Act.put, List.setIfInBounds_toArray, List.set_cons_zero, List.set_cons_succ]
            refine wpAnyH_take (i := 25) (oi := { dst := some 130, op := _, type := _, pos := _, after := _, guard := _ }) (v := .int .u64 1) rfl (by kernel_rfl) (by kernel_rfl) (by kernel_rfl) (fun _ _ _ h => h) (Or.inl ⟨by rfl, ?_⟩) (by assumption) ?_
            · intro w' hSw
              go_simp
            simp only [Act.put, List.setIfInBounds_toArray, List.set_cons_zero, List.set_cons_succ]
            refine wpAnyH_take (i := 26) (oi := { dst := some 131, op := _, type := _, pos := _, after := _, guard := _ }) (v := .int .u64 1) rfl (by kernel_rfl) (by kernel_rfl) (by kernel_rfl) (fun _ _ _ h => h) (Or.inl ⟨by rfl, ?_⟩) (by assumption) ?_
            · intro w' hSw
              go_simp
            simp only [Act.put, List.setIfInBounds_toArray, List.set_cons_zero, List.set_cons_succ]
            refine wpAnyH_take (i := 27) (oi := { dst := some 132, op := _, type := _, pos := _, after := _, guard := _ }) (v := .bool true) rfl (by kernel_rfl) (by kernel_rfl) (by kernel_rfl) (fun _ _ _ h => h) (Or.inl ⟨by rfl, ?_⟩) (by assumption) ?_
            · intro w' hSw
              go_simp
            simp only [Act.put, List.setIfInBounds_toArray, List.set_cons_zero, List.set_cons_succ]
            refine wpAnyH_take (i := 28) (oi := { dst := some 133, op := _, type := _, pos := _, after := _, guard := _ }) (v := .bool true) rfl (by kernel_rfl) (by kernel_rfl) (by kernel_rfl) (fun _ _ _ h => h) (Or.inl ⟨by rfl, ?_⟩) (by assumption) ?_
            · intro w' hSw
              go_simp
            simp only [Act.put, List.setIfInBounds_toArray, List.set_cons_zero, List.set_cons_succ]
            refine wpAnyH_take (i := 29) (oi := { dst := some 134, op := _, type := _, pos := _, after := _, guard := _ }) (v := .bool true) rfl (by kernel_rfl) (by kernel_rfl) (by kernel_rfl) (fun _ _ _ h => h) (Or.inl ⟨by rfl, ?_⟩) (by assumption) ?_
            · intro w' hSw
              go_simp
            simp only [Act.put, List.setIfInBounds_toArray, List.set_cons_zero, List.set_cons_succ]
            refine wpAnyH_take (i := 30) (oi := { dst := some 135, op := _, type := _, pos := _, after := _, guard := _ }) (v := .int .u64 2048) rfl (by kernel_rfl) (by kernel_rfl) (by kernel_rfl) (fun _ _ _ h => h) (Or.inl ⟨by rfl, ?_⟩) (by assumption) ?_
            · intro w' hSw
              go_simp
            simp only [Act.put, List.setIfInBounds_toArray, List.set_cons_zero, List.set_cons_succ]
            refine wpAnyH_take (i := 31) (oi := { dst := some 136, op := _, type := _, pos := _, after := _, guard := _ }) (v := .int .u64 16) rfl (by kernel_rfl) (by kernel_rfl) (by kernel_rfl) (fun _ _ _ h => h) (Or.inl ⟨by rfl, ?_⟩) (by assumption) ?_
            · intro w' hSw
              go_simp
            simp only [Act.put, List.setIfInBounds_toArray, List.set_cons_zero, List.set_cons_succ]
            refine wpAnyH_take (i := 32) (oi := { dst := some 137, op := _, type := _, pos := _, after := _, guard := _ }) (v := .int .u64 0) rfl (by kernel_rfl) (by kernel_rfl) (by kernel_rfl) (fun _ _ _ h => h) (Or.inl ⟨by rfl, ?_⟩) (by assumption) ?_
            · intro w' hSw
              go_simp
            simp only [Act.put, List.setIfInBounds_toArray, List.set_cons_zero, List.set_cons_succ]
            refine wpAnyH_take (i := 33) (oi := { dst := some 138, op := _, type := _, pos := _, after := _, guard := _ }) (v := .bool false) rfl (by kernel_rfl) (by kernel_rfl) (by kernel_rfl) (fun _ _ _ h => h) (Or.inl ⟨by rfl, ?_⟩) (by assumption) ?_
            · intro w' hSw
              go_simp
            simp only [Act.put, List.setIfInBounds_toArray, List.set_cons_zero, List.set_cons_succ]
            refine wpAnyH_take (i := 34) (oi := { dst := some 139, op := _, type := _, pos := _, after := _, guard := _ }) (v := .slice a0 len0 cap0) rfl (by kernel_rfl) (by kernel_rfl) (by kernel_rfl) (fun _ _ _ h => h) (Or.inl ⟨by rfl, ?_⟩) (by assumption) ?_
            · intro w' hSw
              go_simp
            simp only [Act.put, List.setIfInBounds_toArray, List.set_cons_zero, List.set_cons_succ]
            refine wpAnyH_ready (rs := [35]) (by kernel_rfl) (by simp) ?_
            refine AllReadyH.cons (o := { dst := some 140, op := _, type := _, pos := _, after := _, guard := _ }) rfl (fun K hK => ?_) AllReadyH.nil
            go_simp
            refine (HPK3.out _ (PD2.out _ (PA2.out _ _ p11))).mono ?_
            rintro e w11 ⟨rfl, p12⟩
            refine hK.out _ _ (KS2.out _ p12) (fun hHeld => ?_)
            clear hK
            refine wpAnyH_take (i := 36) (oi := { dst := some 141, op := _, type := _, pos := _, after := _, guard := _ }) (v := .bool false) rfl (by kernel_rfl) (by kernel_rfl) (by kernel_rfl) (fun _ _ _ h => h) (Or.inl ⟨by rfl, ?_⟩) (by assumption) ?_
            · intro w' hSw
              go_simp
            simp only [Act.put, List.setIfInBounds_toArray, List.set_cons_zero, List.set_cons_succ]
            refine wpAnyH_take (i := 37) (oi := { dst := some 142, op := _, type := _, pos := _, after := _, guard := _ }) (v := .bool true) rfl (by kernel_rfl) (by kernel_rfl) (by kernel_rfl) (fun _ _ _ h => h) (Or.inl ⟨by rfl, ?_⟩) (by assumption) ?_
            · intro w' hSw
              go_simp
            simp only [Act.put, List.setIfInBounds_toArray, List.set_cons_zero, List.set_cons_succ]
            refine wpAnyH_take (i := 38) (oi := { dst := some 143, op := _, type := _, pos := _, after := _, guard := _ }) (v := .bool true) rfl (by kernel_rfl) (by kernel_rfl) (by kernel_rfl) (fun _ _ _ h => h) (Or.inl ⟨by rfl, ?_⟩) (by assumption) ?_
            · intro w' hSw
              go_simp
            simp only [Act.put, List.setIfInBounds_toArray, List.set_cons_zero, List.set_cons_succ]
            refine wpAnyH_take (i := 39) (oi := { dst := some 144, op := _, type := _, pos := _, after := _, guard := _ }) (v := .bool true) rfl (by kernel_rfl) (by kernel_rfl) (by kernel_rfl) (fun _ _ _ h => h) (Or.inl ⟨by rfl, ?_⟩) (by assumption) ?_
            · intro w' hSw
              go_simp
            simp only [Act.put, List.setIfInBounds_toArray, List.set_cons_zero, List.set_cons_succ]
            refine wpAnyH_take (i := 40) (oi := { dst := some 145, op := _, type := _, pos := _, after := _, guard := _ }) (v := .agg #[.int .u64 D.t, .int .u64 D.cm, .bool D.so, .slice a1 D.xs.length c1, .slice a2 D.ys.length c2, .int .i64 D.ir]) rfl (by kernel_rfl) (by kernel_rfl) (by kernel_rfl) (fun _ _ _ h => h) (Or.inl ⟨by rfl, ?_⟩) (by assumption) ?_
            · intro w' hSw
              go_simp
            simp only [Act.put, List.setIfInBounds_toArray, List.set_cons_zero, List.set_cons_succ]
            refine wpAnyH_take (i := 42) (oi := { dst := some 147, op := _, type := _, pos := _, after := _, guard := _ }) (v := .agg #[.int .u64 D.t, .int .u64 D.cm, .bool D.so, .slice a1 D.xs.length c1, .slice a2 D.ys.length c2, .int .i64 D.ir]) rfl (by kernel_rfl) (by kernel_rfl) (by kernel_rfl) (fun _ _ _ h => h) (Or.inl ⟨by rfl, ?_⟩) (by assumption) ?_
            · intro w' hSw
              go_simp
            simp only [Act.put, List.setIfInBounds_toArray, List.set_cons_zero, List.set_cons_succ]
            refine wpAnyH_ready (rs := [41]) (by kernel_rfl) (by simp) ?_
            refine AllReadyH.cons (o := { dst := some 146, op := _, type := _, pos := _, after := _, guard := _ }) rfl (fun K hK => ?_) AllReadyH.nil
            go_simp
            refine (HLI3.out _ (p12)).mono ?_
            rintro e w12 ⟨rfl, p13⟩
            refine hK.out _ _ (KS2.out _ p13) (fun hHeld => ?_)
            clear hK
            refine wpAnyH_ready (rs := [43]) (by kernel_rfl) (by simp) ?_
            refine AllReadyH.cons (o := { dst := some 148, op := _, type := _, pos := _, after := _, guard := _ }) rfl (fun K hK => ?_) AllReadyH.nil
            go_simp
            refine (HLM3.out _ (p13)).mono ?_
            rintro e w13 ⟨rfl, p14⟩
            refine hK.out _ _ (KS2.out _ p14) (fun hHeld => ?_)
            clear hK
            refine wpAnyH_take (i := 44) (oi := { dst := some 149, op := _, type := _, pos := _, after := _, guard := _ }) (v := .bool true) rfl (by kernel_rfl) (by kernel_rfl) (by kernel_rfl) (fun _ _ _ h => h) (Or.inl ⟨by rfl, ?_⟩) (by assumption) ?_
            · intro w' hSw
              go_simp
            simp only [Act.put, List.setIfInBounds_toArray, List.set_cons_zero, List.set_cons_succ]
            refine wpAnyH_take (i := 45) (oi := { dst := some 150, op := _, type := _, pos := _, after := _, guard := _ }) (v := .bool true) rfl (by kernel_rfl) (by kernel_rfl) (by kernel_rfl) (fun _ _ _ h => h) (Or.inl ⟨by rfl, ?_⟩) (by assumption) ?_
            · intro w' hSw
              go_simp
            simp only [Act.put, List.setIfInBounds_toArray, List.set_cons_zero, List.set_cons_succ]
            refine wpAnyH_take (i := 46) (oi := { dst := some 2, op := _, type := _, pos := _, after := _, guard := _ }) (v := .bool true) rfl (by kernel_rfl) (by kernel_rfl) (by kernel_rfl) (fun _ _ _ h => h) (Or.inl ⟨by rfl, ?_⟩) (by assumption) ?_
            · intro w' hSw
              go_simp
            simp only [Act.put, List.setIfInBounds_toArray, List.set_cons_zero, List.set_cons_succ]
            refine wpAnyH_done (by kernel_rfl) ?_ _
            go_wp2_with fail
            go_ret
            exact ⟨rfl, (PE.out _ (PE2.out _ p14).1).2⟩
          · clear HIN CVD CVZ HZ16 cvb cvc
            generalize D.xs.length = n1 at *
            obtain rfl : n1 = 16 := by omega
            clear hl h16
            go_wp2_with fail
            refine wp_region_held_drew (S := (fun w' => w'.cell? ⟨w9.heap.size, 3, none⟩ = some (.slice o1 Z.xs.length q1) ∧ (w'.cell? ⟨w2.heap.size, 0, none⟩ = some (.int .u64 D.t) ∧ w'.cell? ⟨w2.heap.size, 1, none⟩ = some (.int .u64 D.cm) ∧ w'.cell? ⟨w2.heap.size, 2, none⟩ = some (.bool D.so) ∧ w'.cell? ⟨w2.heap.size, 3, none⟩ = some (.slice a1 16 c1) ∧ w'.cell? ⟨w2.heap.size, 4, none⟩ = some (.slice a2 D.ys.length c2) ∧ w'.cell? ⟨w2.heap.size, 5, none⟩ = some (.int .i64 D.ir)) ∧ P2 w')) (by kernel_rfl) (KS.out _ (PD2.out _ p11)) (fun hHeld => ?_)
            refine wpAnyH_take (i := 0) (oi := { dst := some 105, op := _, type := _, pos := _, after := _, guard := _ }) (v := .pointer (some ⟨w9.heap.size, 3, none⟩)) rfl (by kernel_rfl) (by kernel_rfl) (by kernel_rfl) (fun _ _ _ h => h) (Or.inl ⟨by rfl, ?_⟩) (by assumption) ?_
            · intro w' hSw
              go_simp
            simp only [Act.put, List.setIfInBounds_toArray, List.set_cons_zero, List.set_cons_succ]
            refine wpAnyH_take (i := 1) (oi := { dst := some 106, op := _, type := _, pos := _, after := _, guard := _ }) (v := .slice o1 Z.xs.length q1) rfl (by kernel_rfl) (by kernel_rfl) (by kernel_rfl) (fun _ _ _ h => h) (Or.inl ⟨by rfl, ?_⟩) (by assumption) ?_
            · intro w' hSw
              go_simp
            simp only [Act.put, List.setIfInBounds_toArray, List.set_cons_zero, List.set_cons_succ]
            refine wpAnyH_take (i := 2) (oi := { dst := some 107, op := _, type := _, pos := _, after := _, guard := _ }) (v := .int .i64 (Z.xs.length : Int)) rfl (by kernel_rfl) (by kernel_rfl) (by kernel_rfl) (fun _ _ _ h => h) (Or.inl ⟨by rfl, ?_⟩) (by assumption) ?_
            · intro w' hSw
              go_simp
            simp only [Act.put, List.setIfInBounds_toArray, List.set_cons_zero, List.set_cons_succ]
            refine wpAnyH_take (i := 3) (oi := { dst := some 108, op := _, type := _, pos := _, after := _, guard := _ }) (v := .bool true) rfl (by kernel_rfl) (by kernel_rfl) (by kernel_rfl) (fun _ _ _ h => h) (Or.inl ⟨by rfl, ?_⟩) (by assumption) ?_
            · intro w' hSw
              go_simp
            simp only [Act.put, List.setIfInBounds_toArray, List.set_cons_zero, List.set_cons_succ]
            refine wpAnyH_take (i := 4) (oi := { dst := some 109, op := _, type := _, pos := _, after := _, guard := _ }) (v := .bool true) rfl (by kernel_rfl) (by kernel_rfl) (by kernel_rfl) (fun _ _ _ h => h) (Or.inl ⟨by rfl, ?_⟩) (by assumption) ?_
            · intro w' hSw
              go_simp
            simp only [Act.put, List.setIfInBounds_toArray, List.set_cons_zero, List.set_cons_succ]
            refine wpAnyH_take (i := 5) (oi := { dst := some 110, op := _, type := _, pos := _, after := _, guard := _ }) (v := .pointer (some ⟨w2.heap.size, 3, none⟩)) rfl (by kernel_rfl) (by kernel_rfl) (by kernel_rfl) (fun _ _ _ h => h) (Or.inl ⟨by rfl, ?_⟩) (by assumption) ?_
            · intro w' hSw
              go_simp
            simp only [Act.put, List.setIfInBounds_toArray, List.set_cons_zero, List.set_cons_succ]
            refine wpAnyH_take (i := 6) (oi := { dst := some 111, op := _, type := _, pos := _, after := _, guard := _ }) (v := .slice a1 16 c1) rfl (by kernel_rfl) (by kernel_rfl) (by kernel_rfl) (fun _ _ _ h => h) (Or.inl ⟨by rfl, ?_⟩) (by assumption) ?_
            · intro w' hSw
              go_simp
            simp only [Act.put, List.setIfInBounds_toArray, List.set_cons_zero, List.set_cons_succ]
            refine wpAnyH_take (i := 7) (oi := { dst := some 112, op := _, type := _, pos := _, after := _, guard := _ }) (v := .int .i64 16) rfl (by kernel_rfl) (by kernel_rfl) (by kernel_rfl) (fun _ _ _ h => h) (Or.inl ⟨by rfl, ?_⟩) (by assumption) ?_
            · intro w' hSw
              go_simp
            simp only [Act.put, List.setIfInBounds_toArray, List.set_cons_zero, List.set_cons_succ]
            refine wpAnyH_take (i := 8) (oi := { dst := some 113, op := _, type := _, pos := _, after := _, guard := _ }) (v := .bool true) rfl (by kernel_rfl) (by kernel_rfl) (by kernel_rfl) (fun _ _ _ h => h) (Or.inl ⟨by rfl, ?_⟩) (by assumption) ?_
            · intro w' hSw
              go_simp
            simp only [Act.put, List.setIfInBounds_toArray, List.set_cons_zero, List.set_cons_succ]
            refine wpAnyH_take (i := 9) (oi := { dst := some 114, op := _, type := _, pos := _, after := _, guard := _ }) (v := .bool true) rfl (by kernel_rfl) (by kernel_rfl) (by kernel_rfl) (fun _ _ _ h => h) (Or.inl ⟨by rfl, ?_⟩) (by assumption) ?_
            · intro w' hSw
              go_simp
            simp only [Act.put, List.setIfInBounds_toArray, List.set_cons_zero, List.set_cons_succ]
            refine wpAnyH_take (i := 10) (oi := { dst := some 115, op := _, type := _, pos := _, after := _, guard := _ }) (v := undef) rfl (by kernel_rfl) (by kernel_rfl) (by kernel_rfl) (fun _ _ _ h => h) (Or.inr ⟨by rfl, rfl⟩) (by assumption) ?_
            simp only [Act.put, List.setIfInBounds_toArray, List.set_cons_zero, List.set_cons_succ]
            refine wpAnyH_take (i := 11) (oi := { dst := some 116, op := _, type := _, pos := _, after := _, guard := _ }) (v := undef) rfl (by kernel_rfl) (by kernel_rfl) (by kernel_rfl) (fun _ _ _ h => h) (Or.inr ⟨by rfl, rfl⟩) (by assumption) ?_
            simp only [Act.put, List.setIfInBounds_toArray, List.set_cons_zero, List.set_cons_succ]
            refine wpAnyH_take (i := 12) (oi := { dst := some 117, op := _, type := _, pos := _, after := _, guard := _ }) (v := undef) rfl (by kernel_rfl) (by kernel_rfl) (by kernel_rfl) (fun _ _ _ h => h) (Or.inr ⟨by rfl, rfl⟩) (by assumption) ?_
            simp only [Act.put, List.setIfInBounds_toArray, List.set_cons_zero, List.set_cons_succ]
            refine wpAnyH_take (i := 13) (oi := { dst := some 118, op := _, type := _, pos := _, after := _, guard := _ }) (v := undef) rfl (by kernel_rfl) (by kernel_rfl) (by kernel_rfl) (fun _ _ _ h => h) (Or.inr ⟨by rfl, rfl⟩) (by assumption) ?_
            simp only [Act.put, List.setIfInBounds_toArray, List.set_cons_zero, List.set_cons_succ]
            refine wpAnyH_take (i := 14) (oi := { dst := some 119, op := _, type := _, pos := _, after := _, guard := _ }) (v := undef) rfl (by kernel_rfl) (by kernel_rfl) (by kernel_rfl) (fun _ _ _ h => h) (Or.inr ⟨by rfl, rfl⟩) (by assumption) ?_
            simp only [Act.put, List.setIfInBounds_toArray, List.set_cons_zero, List.set_cons_succ]
            refine wpAnyH_take (i := 15) (oi := { dst := some 120, op := _, type := _, pos := _, after := _, guard := _ }) (v := undef) rfl (by kernel_rfl) (by kernel_rfl) (by kernel_rfl) (fun _ _ _ h => h) (Or.inr ⟨by rfl, rfl⟩) (by assumption) ?_
            simp only [Act.put, List.setIfInBounds_toArray, List.set_cons_zero, List.set_cons_succ]
            refine wpAnyH_take (i := 16) (oi := { dst := some 121, op := _, type := _, pos := _, after := _, guard := _ }) (v := undef) rfl (by kernel_rfl) (by kernel_rfl) (by kernel_rfl) (fun _ _ _ h => h) (Or.inr ⟨by rfl, rfl⟩) (by assumption) ?_
            simp only [Act.put, List.setIfInBounds_toArray, List.set_cons_zero, List.set_cons_succ]
            refine wpAnyH_take (i := 17) (oi := { dst := some 122, op := _, type := _, pos := _, after := _, guard := _ }) (v := undef) rfl (by kernel_rfl) (by kernel_rfl) (by kernel_rfl) (fun _ _ _ h => h) (Or.inr ⟨by rfl, rfl⟩) (by assumption) ?_
            simp only [Act.put, List.setIfInBounds_toArray, List.set_cons_zero, List.set_cons_succ]
            refine wpAnyH_take (i := 18) (oi := { dst := some 123, op := _, type := _, pos := _, after := _, guard := _ }) (v := undef) rfl (by kernel_rfl) (by kernel_rfl) (by kernel_rfl) (fun _ _ _ h => h) (Or.inr ⟨by rfl, rfl⟩) (by assumption) ?_
            simp only [Act.put, List.setIfInBounds_toArray, List.set_cons_zero, List.set_cons_succ]
            refine wpAnyH_take (i := 19) (oi := { dst := some 124, op := _, type := _, pos := _, after := _, guard := _ }) (v := undef) rfl (by kernel_rfl) (by kernel_rfl) (by kernel_rfl) (fun _ _ _ h => h) (Or.inr ⟨by rfl, rfl⟩) (by assumption) ?_
            simp only [Act.put, List.setIfInBounds_toArray, List.set_cons_zero, List.set_cons_succ]
            refine wpAnyH_take (i := 20) (oi := { dst := some 125, op := _, type := _, pos := _, after := _, guard := _ }) (v := undef) rfl (by kernel_rfl) (by kernel_rfl) (by kernel_rfl) (fun _ _ _ h => h) (Or.inr ⟨by rfl, rfl⟩) (by assumption) ?_
            simp only [Act.put, List.setIfInBounds_toArray, List.set_cons_zero, List.set_cons_succ]
            refine wpAnyH_take (i := 21) (oi := { dst := some 126, op := _, type := _, pos := _, after := _, guard := _ }) (v := .bool true) rfl (by kernel_rfl) (by kernel_rfl) (by kernel_rfl) (fun _ _ _ h => h) (Or.inl ⟨by rfl, ?_⟩) (by assumption) ?_
            · intro w' hSw
              go_simp
            simp only [Act.put, List.setIfInBounds_toArray, List.set_cons_zero, List.set_cons_succ]
            refine wpAnyH_take (i := 22) (oi := { dst := some 127, op := _, type := _, pos := _, after := _, guard := _ }) (v := .bool true) rfl (by kernel_rfl) (by kernel_rfl) (by kernel_rfl) (fun _ _ _ h => h) (Or.inl ⟨by rfl, ?_⟩) (by assumption) ?_
            · intro w' hSw
              go_simp
            simp only [Act.put, List.setIfInBounds_toArray, List.set_cons_zero, List.set_cons_succ]
            refine wpAnyH_take (i := 23) (oi := { dst := some 128, op := _, type := _, pos := _, after := _, guard := _ }) (v := .bool true) rfl (by kernel_rfl) (by kernel_rfl) (by kernel_rfl) (fun _ _ _ h => h) (Or.inl ⟨by rfl, ?_⟩) (by assumption) ?_
            · intro w' hSw
              go_simp
            simp only [Act.put, List.setIfInBounds_toArray, List.set_cons_zero, List.set_cons_succ]
            refine wpAnyH_take (i := 24) (oi := { dst := some 129, op := _, type := _, pos := _, after := _, guard := _ }) (v := .int .u64 2048) rfl (by kernel_rfl) (by kernel_rfl) (by kernel_rfl) (fun _ _ _ h => h) (Or.inl ⟨by rfl, ?_⟩) (by assumption) ?_
            · intro w' hSw
              go_simp
            simp only [Act.put, List.setIfInBounds_toArray, List.set_cons_zero, List.set_cons_succ]
            refine wpAnyH_take (i := 25) (oi := { dst := some 130, op := _, type := _, pos := _, after := _, guard := _ }) (v := .int .u64 1) rfl (by kernel_rfl) (by kernel_rfl) (by kernel_rfl) (fun _ _ _ h => h) (Or.inl ⟨by rfl, ?_⟩) (by assumption) ?_
            · intro w' hSw
              go_simp
            simp only [Act.put, List.setIfInBounds_toArray, List.set_cons_zero, List.set_cons_succ]
            refine wpAnyH_take (i := 26) (oi := { dst := some 131, op := _, type := _, pos := _, after := _, guard := _ }) (v := .int .u64 1) rfl (by kernel_rfl) (by kernel_rfl) (by kernel_rfl) (fun _ _ _ h => h) (Or.inl ⟨by rfl, ?_⟩) (by assumption) ?_
            · intro w' hSw
              go_simp
            simp only [Act.put, List.setIfInBounds_toArray, List.set_cons_zero, List.set_cons_succ]
            refine wpAnyH_take (i := 27) (oi := { dst := some 132, op := _, type := _, pos := _, after := _, guard := _ }) (v := .bool true) rfl (by kernel_rfl) (by kernel_rfl) (by kernel_rfl) (fun _ _ _ h => h) (Or.inl ⟨by rfl, ?_⟩) (by assumption) ?_
            · intro w' hSw
              go_simp
            simp only [Act.put, List.setIfInBounds_toArray, List.set_cons_zero, List.set_cons_succ]
            refine wpAnyH_take (i := 28) (oi := { dst := some 133, op := _, type := _, pos := _, after := _, guard := _ }) (v := .bool true) rfl (by kernel_rfl) (by kernel_rfl) (by kernel_rfl) (fun _ _ _ h => h) (Or.inl ⟨by rfl, ?_⟩) (by assumption) ?_
            · intro w' hSw
              go_simp
            simp only [Act.put, List.setIfInBounds_toArray, List.set_cons_zero, List.set_cons_succ]
            refine wpAnyH_take (i := 29) (oi := { dst := some 134, op := _, type := _, pos := _, after := _, guard := _ }) (v := .bool true) rfl (by kernel_rfl) (by kernel_rfl) (by kernel_rfl) (fun _ _ _ h => h) (Or.inl ⟨by rfl, ?_⟩) (by assumption) ?_
            · intro w' hSw
              go_simp
            simp only [Act.put, List.setIfInBounds_toArray, List.set_cons_zero, List.set_cons_succ]
            refine wpAnyH_take (i := 30) (oi := { dst := some 135, op := _, type := _, pos := _, after := _, guard := _ }) (v := .int .u64 2048) rfl (by kernel_rfl) (by kernel_rfl) (by kernel_rfl) (fun _ _ _ h => h) (Or.inl ⟨by rfl, ?_⟩) (by assumption) ?_
            · intro w' hSw
              go_simp
            simp only [Act.put, List.setIfInBounds_toArray, List.set_cons_zero, List.set_cons_succ]
            refine wpAnyH_take (i := 31) (oi := { dst := some 136, op := _, type := _, pos := _, after := _, guard := _ }) (v := .int .u64 16) rfl (by kernel_rfl) (by kernel_rfl) (by kernel_rfl) (fun _ _ _ h => h) (Or.inl ⟨by rfl, ?_⟩) (by assumption) ?_
            · intro w' hSw
              go_simp
            simp only [Act.put, List.setIfInBounds_toArray, List.set_cons_zero, List.set_cons_succ]
            refine wpAnyH_take (i := 32) (oi := { dst := some 137, op := _, type := _, pos := _, after := _, guard := _ }) (v := .int .u64 0) rfl (by kernel_rfl) (by kernel_rfl) (by kernel_rfl) (fun _ _ _ h => h) (Or.inl ⟨by rfl, ?_⟩) (by assumption) ?_
            · intro w' hSw
              go_simp
            simp only [Act.put, List.setIfInBounds_toArray, List.set_cons_zero, List.set_cons_succ]
            refine wpAnyH_take (i := 33) (oi := { dst := some 138, op := _, type := _, pos := _, after := _, guard := _ }) (v := .bool false) rfl (by kernel_rfl) (by kernel_rfl) (by kernel_rfl) (fun _ _ _ h => h) (Or.inl ⟨by rfl, ?_⟩) (by assumption) ?_
            · intro w' hSw
              go_simp
            simp only [Act.put, List.setIfInBounds_toArray, List.set_cons_zero, List.set_cons_succ]
            refine wpAnyH_take (i := 34) (oi := { dst := some 139, op := _, type := _, pos := _, after := _, guard := _ }) (v := .slice a0 len0 cap0) rfl (by kernel_rfl) (by kernel_rfl) (by kernel_rfl) (fun _ _ _ h => h) (Or.inl ⟨by rfl, ?_⟩) (by assumption) ?_
            · intro w' hSw
              go_simp
            simp only [Act.put, List.setIfInBounds_toArray, List.set_cons_zero, List.set_cons_succ]
            refine wpAnyH_ready (rs := [35]) (by kernel_rfl) (by simp) ?_
            refine AllReadyH.cons (o := { dst := some 140, op := _, type := _, pos := _, after := _, guard := _ }) rfl (fun K hK => ?_) AllReadyH.nil
            go_simp
            refine (HPK3.out _ (PD2.out _ p11)).mono ?_
            rintro e w11 ⟨rfl, p12⟩
            refine hK.out _ _ (KS.out _ p12) (fun hHeld => ?_)
            clear hK
            refine wpAnyH_take (i := 36) (oi := { dst := some 141, op := _, type := _, pos := _, after := _, guard := _ }) (v := .bool false) rfl (by kernel_rfl) (by kernel_rfl) (by kernel_rfl) (fun _ _ _ h => h) (Or.inl ⟨by rfl, ?_⟩) (by assumption) ?_
            · intro w' hSw
              go_simp
            simp only [Act.put, List.setIfInBounds_toArray, List.set_cons_zero, List.set_cons_succ]
            refine wpAnyH_take (i := 37) (oi := { dst := some 142, op := _, type := _, pos := _, after := _, guard := _ }) (v := .bool true) rfl (by kernel_rfl) (by kernel_rfl) (by kernel_rfl) (fun _ _ _ h => h) (Or.inl ⟨by rfl, ?_⟩) (by assumption) ?_
            · intro w' hSw
              go_simp
            simp only [Act.put, List.setIfInBounds_toArray, List.set_cons_zero, List.set_cons_succ]
            refine wpAnyH_take (i := 38) (oi := { dst := some 143, op := _, type := _, pos := _, after := _, guard := _ }) (v := .bool true) rfl (by kernel_rfl) (by kernel_rfl) (by kernel_rfl) (fun _ _ _ h => h) (Or.inl ⟨by rfl, ?_⟩) (by assumption) ?_
            · intro w' hSw
              go_simp
            simp only [Act.put, List.setIfInBounds_toArray, List.set_cons_zero, List.set_cons_succ]
            refine wpAnyH_take (i := 39) (oi := { dst := some 144, op := _, type := _, pos := _, after := _, guard := _ }) (v := .bool true) rfl (by kernel_rfl) (by kernel_rfl) (by kernel_rfl) (fun _ _ _ h => h) (Or.inl ⟨by rfl, ?_⟩) (by assumption) ?_
            · intro w' hSw
              go_simp
            simp only [Act.put, List.setIfInBounds_toArray, List.set_cons_zero, List.set_cons_succ]
            refine wpAnyH_take (i := 40) (oi := { dst := some 145, op := _, type := _, pos := _, after := _, guard := _ }) (v := .agg #[.int .u64 D.t, .int .u64 D.cm, .bool D.so, .slice a1 16 c1, .slice a2 D.ys.length c2, .int .i64 D.ir]) rfl (by kernel_rfl) (by kernel_rfl) (by kernel_rfl) (fun _ _ _ h => h) (Or.inl ⟨by rfl, ?_⟩) (by assumption) ?_
            · intro w' hSw
              go_simp
            simp only [Act.put, List.setIfInBounds_toArray, List.set_cons_zero, List.set_cons_succ]
            refine wpAnyH_take (i := 42) (oi := { dst := some 147, op := _, type := _, pos := _, after := _, guard := _ }) (v := .agg #[.int .u64 D.t, .int .u64 D.cm, .bool D.so, .slice a1 16 c1, .slice a2 D.ys.length c2, .int .i64 D.ir]) rfl (by kernel_rfl) (by kernel_rfl) (by kernel_rfl) (fun _ _ _ h => h) (Or.inl ⟨by rfl, ?_⟩) (by assumption) ?_
            · intro w' hSw
              go_simp
            simp only [Act.put, List.setIfInBounds_toArray, List.set_cons_zero, List.set_cons_succ]
            refine wpAnyH_ready (rs := [41]) (by kernel_rfl) (by simp) ?_
            refine AllReadyH.cons (o := { dst := some 146, op := _, type := _, pos := _, after := _, guard := _ }) rfl (fun K hK => ?_) AllReadyH.nil
            go_simp
            refine (HLI3.out _ (p12)).mono ?_
            rintro e w12 ⟨rfl, p13⟩
            refine hK.out _ _ (KS.out _ p13) (fun hHeld => ?_)
            clear hK
            refine wpAnyH_ready (rs := [43]) (by kernel_rfl) (by simp) ?_
            refine AllReadyH.cons (o := { dst := some 148, op := _, type := _, pos := _, after := _, guard := _ }) rfl (fun K hK => ?_) AllReadyH.nil
            go_simp
            refine (HLM3.out _ (p13)).mono ?_
            rintro e w13 ⟨rfl, p14⟩
            refine hK.out _ _ (KS.out _ p14) (fun hHeld => ?_)
            clear hK
            refine wpAnyH_take (i := 44) (oi := { dst := some 149, op := _, type := _, pos := _, after := _, guard := _ }) (v := .bool true) rfl (by kernel_rfl) (by kernel_rfl) (by kernel_rfl) (fun _ _ _ h => h) (Or.inl ⟨by rfl, ?_⟩) (by assumption) ?_
            · intro w' hSw
              go_simp
            simp only [Act.put, List.setIfInBounds_toArray, List.set_cons_zero, List.set_cons_succ]
            refine wpAnyH_take (i := 45) (oi := { dst := some 150, op := _, type := _, pos := _, after := _, guard := _ }) (v := .bool true) rfl (by kernel_rfl) (by kernel_rfl) (by kernel_rfl) (fun _ _ _ h => h) (Or.inl ⟨by rfl, ?_⟩) (by assumption) ?_
            · intro w' hSw
              go_simp
            simp only [Act.put, List.setIfInBounds_toArray, List.set_cons_zero, List.set_cons_succ]
            refine wpAnyH_take (i := 46) (oi := { dst := some 2, op := _, type := _, pos := _, after := _, guard := _ }) (v := .bool true) rfl (by kernel_rfl) (by kernel_rfl) (by kernel_rfl) (fun _ _ _ h => h) (Or.inl ⟨by rfl, ?_⟩) (by assumption) ?_
            · intro w' hSw
              go_simp
            simp only [Act.put, List.setIfInBounds_toArray, List.set_cons_zero, List.set_cons_succ]
            refine wpAnyH_done (by kernel_rfl) ?_ _
            go_wp2_with fail
            go_ret
            exact ⟨rfl, (PE.out _ (PE2.out _ p14).1).2⟩

end Go.Proofs.Ytbkddoibefgplaa.fnDevices
