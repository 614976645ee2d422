/- The walk of laws.FnTicked: it returns true at every code, and writes nothing that was there. -/
import Derived.Test.YtbkddoibefgplaaDevG
import Derived.Test.YtbkddoibefgplaaDevK
import Derived.Test.YtbkddoibefgplaaDevL
import Derived.Test.YtbkddoibefgplaaDevM
import Derived.Test.YtbkddoibefgplaaPickC
import Derived.Test.YtbkddoibefgplaaLawC
import Derived.Deep.RegionHeld3
namespace Go.Proofs.Ytbkddoibefgplaa.fnTicked
open Go.RowKit
set_option linter.unusedVariables false

/-- A device in a variable of the law's: its block, its lists. -/
structure Va (W : World) (b : Nat) (D : DV) (a1 : Option Addr) (c1 : Nat) (a2 : Option Addr) (c2 : Nat) : Prop where
  row : W.heap[b]? = some (.cells #[.int .u64 D.t, .int .u64 D.cm, .bool D.so, .slice a1 D.xs.length c1, .slice a2 D.ys.length c2, .int .i64 D.ir] 26 (0, 0))
  s1 : Sl .u8 W a1 D.xs
  s2 : Sl .u8 W a2 D.ys

theorem Va.below {W W' : World} {b : Nat} {D : DV} {a1 : Option Addr} {c1 : Nat} {a2 : Option Addr} {c2 : Nat} (h : Va W b D a1 c1 a2 c2) (hb : Below W.heap.size W W') : Va W' b D a1 c1 a2 c2 := ⟨dstays hb h.row, h.s1.below hb, h.s2.below hb⟩

theorem Va.new {W : World} {D : DV} {a1 a2 : Option Addr} (h1 : Sl .u8 W a1 D.xs) (h2 : Sl .u8 W a2 D.ys) (c1 c2 : Nat) : Va (W.alloc (.cells #[.int .u64 D.t, .int .u64 D.cm, .bool D.so, .slice a1 D.xs.length c1, .slice a2 D.ys.length c2, .int .i64 D.ir] 26)) W.heap.size D a1 c1 a2 c2 :=
  ⟨heap_alloc_new _ _, h1.below ((Below.refl _ _).alloc (Nat.le_refl _) _), h2.below ((Below.refl _ _).alloc (Nat.le_refl _) _)⟩

theorem bz : bytesOk zeroD := ⟨fun y hy => (nomatch hy), fun y hy => (nomatch hy)⟩

set_option maxRecDepth 100000 in
set_option maxHeartbeats 6400000 in
theorem walk (a0 : Option Addr) (len0 cap0 : Nat) (z0 : List Int) (w : World) (w0 : IsRow .u8 w a0 len0 cap0 z0) :
    Calls Try.prog 4 #[.slice a0 len0 cap0] w fun e w' => e = .returned (.bool true) ∧ Below w.heap.size w w' := by
  by_cases hbig : 4096 < len0
  · have hb : decide (4096 < len0) = true := by simpa using hbig
    go_enter Try.func4, Try.ntmps4
    go_wp2_with fail
    refine (big_any a0 len0 cap0 _).mono ?_
    rintro e w1 ⟨rfl, hw1⟩
    subst hw1
    rw [hb]
    go_wp2_with fail
    go_ret
    exact ⟨rfl, Below.refl _ _⟩
  · have hb : decide (4096 < len0) = false := by simpa using hbig
    obtain ⟨zs, hcd⟩ := code_of w0 (by omega)
    have HD : Hid (Code w a0 len0 zs) := hcd
    clear hcd w0 hbig
    go_enter Try.func4, Try.ntmps4
    go_wp2_with fail
    refine (big_any a0 len0 cap0 _).mono ?_
    rintro e w1 ⟨rfl, hw1⟩
    have hw1' := hw1.symm
    subst hw1'
    rw [hb]
    clear hb
    go_wp2_with fail
    refine (DrawTick_c cap0 _ HD.out).mono ?_
    rintro e w2 ⟨D, a1, c1, a2, c2, x, rfl, HX, hd⟩
    have hn1 : D.xs.length ≤ 1048576 := by have := hd.out.fits.l1; omega
    have hn2 : D.ys.length ≤ 1048576 := by have := hd.out.fits.l2; omega
    have hby := hd.out.fits.by_
    have VD := dhid (Va.new hd.out.s1 hd.out.s2 c1 c2)
    have B2 := dhid (hd.out.below.alloc hd.out.below.size (.cells #[.int .u64 D.t, .int .u64 D.cm, .bool D.so, .slice a1 D.xs.length c1, .slice a2 D.ys.length c2, .int .i64 D.ir] 26))
    have HT : Hid (∀ (W : World) (y : Int) (b : Nat), Va W b D a1 c1 a2 c2 → Calls Try.prog 21 #[.agg #[.int .u64 D.t, .int .u64 D.cm, .bool D.so, .slice a1 D.xs.length c1, .slice a2 D.ys.length c2, .int .i64 D.ir], .int .i64 y] W fun e w' => ∃ (b1 : Option Addr) (d1 : Nat) (b2 : Option Addr) (d2 : Nat), e = .returned (.agg (dvc (tickD D y) b1 d1 b2 d2)) ∧ Hid (Sl .u8 w' b1 (tickD D y).xs ∧ Sl .u8 w' b2 (tickD D y).ys) ∧ Hid (Below W.heap.size W w')) := fun W y b hv => (implTick_any D a1 c1 a2 c2 y W hn1 hn2 hby hv.s1 hv.s2).mono fun e w' ⟨b1, d1, b2, d2, h1, h2, h3⟩ => ⟨b1, d1, b2, d2, h1, ⟨h2.in_, h2.out_⟩, h3⟩
    have HS : Hid (∀ (W : World) (y : Int) (b : Nat), Va W b D a1 c1 a2 c2 → Calls Try.prog 22 #[.agg #[.int .u64 D.t, .int .u64 D.cm, .bool D.so, .slice a1 D.xs.length c1, .slice a2 D.ys.length c2, .int .i64 D.ir], .int .i64 y] W fun e w' => ∃ (b1 : Option Addr) (d1 : Nat) (b2 : Option Addr) (d2 : Nat), e = .returned (.agg (dvc (tickD D y) b1 d1 b2 d2)) ∧ Hid (Sl .u8 w' b1 (tickD D y).xs ∧ Sl .u8 w' b2 (tickD D y).ys) ∧ Hid (Below W.heap.size W w')) := fun W y b hv => (specTick_any D a1 c1 a2 c2 y W hn1 hn2 hv.s1 hv.s2).mono fun e w' ⟨b1, d1, b2, d2, h1, h2, h3⟩ => ⟨b1, d1, b2, d2, h1, ⟨h2.in_, h2.out_⟩, h3⟩
    have HO : Hid (∀ (W : World) (b : Nat), Va W b D a1 c1 a2 c2 → Calls Try.prog 23 #[.agg #[.int .u64 D.t, .int .u64 D.cm, .bool D.so, .slice a1 D.xs.length c1, .slice a2 D.ys.length c2, .int .i64 D.ir]] W fun e w' => e = .returned (.bool (okD D.xs.length D.ys.length D.ir)) ∧ Hid (Below W.heap.size W w')) := fun W b hv => specDevOk_any _ _ _ _ _ _ _ _ _ _ W hn1 hn2
    obtain ⟨T, hTD⟩ : ∃ T, T = tickD D x := ⟨_, rfl⟩
    have HTX := HT.out
    have HT1 : Hid (∀ (W : World) (b : Nat), Va W b D a1 c1 a2 c2 → Calls Try.prog 21 #[.agg #[.int .u64 D.t, .int .u64 D.cm, .bool D.so, .slice a1 D.xs.length c1, .slice a2 D.ys.length c2, .int .i64 D.ir], .int .i64 x] W fun e w' => ∃ (b1 : Option Addr) (d1 : Nat) (b2 : Option Addr) (d2 : Nat), e = .returned (.agg (dvc T b1 d1 b2 d2)) ∧ Hid (Sl .u8 w' b1 T.xs ∧ Sl .u8 w' b2 T.ys) ∧ Hid (Below W.heap.size W w')) := fun W b hv => by rw [hTD]; exact HT.out W x b hv
    have HS1 : Hid (∀ (W : World) (b : Nat), Va W b D a1 c1 a2 c2 → Calls Try.prog 22 #[.agg #[.int .u64 D.t, .int .u64 D.cm, .bool D.so, .slice a1 D.xs.length c1, .slice a2 D.ys.length c2, .int .i64 D.ir], .int .i64 x] W fun e w' => ∃ (b1 : Option Addr) (d1 : Nat) (b2 : Option Addr) (d2 : Nat), e = .returned (.agg (dvc T b1 d1 b2 d2)) ∧ Hid (Sl .u8 w' b1 T.xs ∧ Sl .u8 w' b2 T.ys) ∧ Hid (Below W.heap.size W w')) := fun W b hv => by rw [hTD]; exact HS.out W x b hv
    have HTD := dhid hTD
    have HBY := dhid hby
    have HN := dhid (And.intro hn1 hn2)
    clear HTX HS hTD hby hn1 hn2 hd
    dsimp only [dvc] at HT HT1 HS1 HTD ⊢
    go_wp2_with fail
    refine (HT1.out _ _ VD.out).mono ?_
    rintro e w3 ⟨b1, d1, b2, d2, rfl, hs3, hb3⟩
    have VD3 := dhid ((VD.out.below hb3.out).below ((Below.refl _ _).alloc (Nat.le_refl _) (.cells #[.int .u64 T.t, .int .u64 T.cm, .bool T.so, .slice b1 T.xs.length d1, .slice b2 T.ys.length d2, .int .i64 T.ir] 26)))
    have VT := dhid (Va.new hs3.out.1 hs3.out.2 d1 d2)
    have B3 := dhid (below_trans B2.out hb3.out)
    have B3' := dhid (B3.out.alloc B3.out.size (.cells #[.int .u64 T.t, .int .u64 T.cm, .bool T.so, .slice b1 T.xs.length d1, .slice b2 T.ys.length d2, .int .i64 T.ir] 26))
    clear hs3 hb3 VD B2 B3
    obtain ⟨P, hP⟩ : ∃ P : World → Prop, P = fun W => Va W w2.heap.size D a1 c1 a2 c2 ∧ Va W w3.heap.size T b1 d1 b2 d2 ∧ Below w.heap.size w W := ⟨_, rfl⟩
    have PB : Hid (∀ W W', P W → Below W.heap.size W W' → P W') := by rw [hP]; exact fun W W' h hb => ⟨h.1.below hb, h.2.1.below hb, below_trans h.2.2 hb⟩
    have PD : Hid (∀ W, P W → P W.drew) := fun W h => PB.out W W.drew h (Below.refl _ _).drew
    have PE : Hid (∀ W, P W → Va W w2.heap.size D a1 c1 a2 c2 ∧ Va W w3.heap.size T b1 d1 b2 d2 ∧ Below w.heap.size w W) := by rw [hP]; exact fun W h => h
    have p3 : P (w3.alloc (.cells #[.int .u64 T.t, .int .u64 T.cm, .bool T.so, .slice b1 T.xs.length d1, .slice b2 T.ys.length d2, .int .i64 T.ir] 26)) := by rw [hP]; exact ⟨VD3.out, VT.out, B3'.out⟩
    clear hP VD3 VT B3'
    go_wp2_with fail
    generalize w3.alloc (.cells #[.int .u64 T.t, .int .u64 T.cm, .bool T.so, .slice b1 T.xs.length d1, .slice b2 T.ys.length d2, .int .i64 T.ir] 26) = W3 at *
    have KS : Hid (∀ w', P w' → (w'.cell? ⟨w2.heap.size, 0, none⟩ = some (.int .u64 D.t) ∧ w'.cell? ⟨w2.heap.size, 1, none⟩ = some (.int .u64 D.cm) ∧ w'.cell? ⟨w2.heap.size, 2, none⟩ = some (.bool D.so) ∧ w'.cell? ⟨w2.heap.size, 3, none⟩ = some (.slice a1 D.xs.length c1) ∧ w'.cell? ⟨w2.heap.size, 4, none⟩ = some (.slice a2 D.ys.length c2) ∧ w'.cell? ⟨w2.heap.size, 5, none⟩ = some (.int .i64 D.ir)) ∧ (w'.cell? ⟨w3.heap.size, 0, none⟩ = some (.int .u64 T.t) ∧ w'.cell? ⟨w3.heap.size, 1, none⟩ = some (.int .u64 T.cm) ∧ w'.cell? ⟨w3.heap.size, 2, none⟩ = some (.bool T.so) ∧ w'.cell? ⟨w3.heap.size, 3, none⟩ = some (.slice b1 T.xs.length d1) ∧ w'.cell? ⟨w3.heap.size, 4, none⟩ = some (.slice b2 T.ys.length d2) ∧ w'.cell? ⟨w3.heap.size, 5, none⟩ = some (.int .i64 T.ir)) ∧ P w') := fun w' h => ⟨cells6 (PE.out w' h).1.row, cells6 (PE.out w' h).2.1.row, h⟩
    have HS2 : Hid (∀ w', P w' → Calls Try.prog 22 #[.agg #[.int .u64 D.t, .int .u64 D.cm, .bool D.so, .slice a1 D.xs.length c1, .slice a2 D.ys.length c2, .int .i64 D.ir], .int .i64 x] w' fun e w'' => ∃ (f1 : Option Addr) (g1 : Nat) (f2 : Option Addr) (g2 : Nat), e = .returned (.agg #[.int .u64 T.t, .int .u64 T.cm, .bool T.so, .slice f1 T.xs.length g1, .slice f2 T.ys.length g2, .int .i64 T.ir]) ∧ Hid (Sl .u8 w'' f1 T.xs ∧ Sl .u8 w'' f2 T.ys) ∧ P w'') := fun w' h => (HS1.out w' _ (PE.out w' h).1).mono fun e w'' ⟨f1, g1, f2, g2, h1, h2, h3⟩ => ⟨f1, g1, f2, g2, h1, h2, PB.out _ _ h h3.out⟩
    have HL : Hid (∀ w' f1 g1 f2 g2, P w' → Hid (Sl .u8 w' f1 T.xs ∧ Sl .u8 w' f2 T.ys) → Calls Try.prog 13 #[.agg #[.int .u64 T.t, .int .u64 T.cm, .bool T.so, .slice b1 T.xs.length d1, .slice b2 T.ys.length d2, .int .i64 T.ir], .agg #[.int .u64 T.t, .int .u64 T.cm, .bool T.so, .slice f1 T.xs.length g1, .slice f2 T.ys.length g2, .int .i64 T.ir]] w' fun e w'' => e = .returned (.bool true) ∧ P w'') := fun w' f1 g1 f2 g2 h hs => (likeDev_same T b1 d1 b2 d2 f1 g1 f2 g2 w' (PE.out w' h).2.1.s1 (PE.out w' h).2.1.s2 hs.out.1 hs.out.2).mono fun e w'' ⟨h1, h2⟩ => ⟨h1, PB.out _ _ h h2⟩
    clear HS1 HT1
    go_region_held3 (fun w' => (w'.cell? ⟨w2.heap.size, 0, none⟩ = some (.int .u64 D.t) ∧ w'.cell? ⟨w2.heap.size, 1, none⟩ = some (.int .u64 D.cm) ∧ w'.cell? ⟨w2.heap.size, 2, none⟩ = some (.bool D.so) ∧ w'.cell? ⟨w2.heap.size, 3, none⟩ = some (.slice a1 D.xs.length c1) ∧ w'.cell? ⟨w2.heap.size, 4, none⟩ = some (.slice a2 D.ys.length c2) ∧ w'.cell? ⟨w2.heap.size, 5, none⟩ = some (.int .i64 D.ir)) ∧ (w'.cell? ⟨w3.heap.size, 0, none⟩ = some (.int .u64 T.t) ∧ w'.cell? ⟨w3.heap.size, 1, none⟩ = some (.int .u64 T.cm) ∧ w'.cell? ⟨w3.heap.size, 2, none⟩ = some (.bool T.so) ∧ w'.cell? ⟨w3.heap.size, 3, none⟩ = some (.slice b1 T.xs.length d1) ∧ w'.cell? ⟨w3.heap.size, 4, none⟩ = some (.slice b2 T.ys.length d2) ∧ w'.cell? ⟨w3.heap.size, 5, none⟩ = some (.int .i64 T.ir)) ∧ P w') (first | exact KS.out _ (PD.out _ (by assumption)) | exact KS.out _ (by assumption)) (first | (go_at_call 22; with_reducible refine (HS2.out _ ?_).mono ?_; (first | assumption | (exact PD.out _ (by assumption))); rintro e w4 ⟨f1, g1, f2, g2, rfl, hs4, p4⟩) | (go_at_call 13; with_reducible refine (HL.out _ f1 g1 f2 g2 ?_ ?_).mono ?_; (first | assumption | (exact PD.out _ (by assumption))); (first | assumption | (exact hs4)); rintro e w5 ⟨rfl, p5⟩))
    clear HS2 HL hs4 p4 p3
    cases hneg : decide (x < 0) with
    | true =>
      have eT : T = zeroD := by rw [HTD.out]; unfold tickD; rw [hneg]; simp
      have HLZ : Hid (∀ w', P w' → Calls Try.prog 13 #[.agg #[.int .u64 T.t, .int .u64 T.cm, .bool T.so, .slice b1 T.xs.length d1, .slice b2 T.ys.length d2, .int .i64 T.ir], .agg #[.int .u64 0, .int .u64 0, .bool false, .slice none 0 0, .slice none 0 0, .int .i64 0]] w' fun e w'' => e = .returned (.bool true) ∧ P w'') := by
        intro w' h
        obtain ⟨-, vt, -⟩ := PE.out w' h
        have h1 := vt.s1
        have h2 := vt.s2
        have hq := PB.out w'
        clear vt PE KS HTD
        subst eT
        exact (likeDev_same zeroD b1 d1 b2 d2 none 0 none 0 w' h1 h2 (fun i hi => absurd hi (Nat.not_lt_zero _)) (fun i hi => absurd hi (Nat.not_lt_zero _))).mono fun e w'' ⟨k1, k2⟩ => ⟨k1, hq _ h k2⟩
      clear eT
      obtain ⟨⟨s0, s1, s2, s3, s4, s5⟩, ⟨t0, t1, t2, t3, t4, t5⟩, -⟩ := KS.out _ p5
      go_wp2_with fail
      refine (HLZ.out _ p5).mono ?_
      rintro e w7 ⟨rfl, p7⟩
      go_wp2_with fail
      go_ret
      exact ⟨rfl, (PE.out _ p7).2.2⟩
    | false =>
      cases hok : okD D.xs.length D.ys.length D.ir with
      | false =>
        have eT : T = zeroD := by rw [HTD.out]; unfold tickD; rw [hok]; simp
        rw [hok] at HO
        have HLZ : Hid (∀ w', P w' → Calls Try.prog 13 #[.agg #[.int .u64 T.t, .int .u64 T.cm, .bool T.so, .slice b1 T.xs.length d1, .slice b2 T.ys.length d2, .int .i64 T.ir], .agg #[.int .u64 0, .int .u64 0, .bool false, .slice none 0 0, .slice none 0 0, .int .i64 0]] w' fun e w'' => e = .returned (.bool true) ∧ P w'') := by
          intro w' h
          obtain ⟨-, vt, -⟩ := PE.out w' h
          have h1 := vt.s1
          have h2 := vt.s2
          have hq := PB.out w'
          clear vt PE KS HTD
          subst eT
          exact (likeDev_same zeroD b1 d1 b2 d2 none 0 none 0 w' h1 h2 (fun i hi => absurd hi (Nat.not_lt_zero _)) (fun i hi => absurd hi (Nat.not_lt_zero _))).mono fun e w'' ⟨k1, k2⟩ => ⟨k1, hq _ h k2⟩
        clear eT
        obtain ⟨⟨s0, s1, s2, s3, s4, s5⟩, -⟩ := KS.out _ p5
        go_wp2_with fail
        refine (HO.out _ _ (PE.out _ p5).1).mono ?_
        rintro e w6 ⟨rfl, hb6⟩
        have p6 := PB.out _ _ p5 hb6.out
        obtain ⟨-, ⟨t0, t1, t2, t3, t4, t5⟩, -⟩ := KS.out _ p6
        clear hb6 s0 s1 s2 s3 s4 s5
        go_wp2_with fail
        refine (HLZ.out _ p6).mono ?_
        rintro e w7 ⟨rfl, p7⟩
        go_wp2_with fail
        go_ret
        exact ⟨rfl, (PE.out _ p7).2.2⟩
      | true =>
        rw [hok] at HO
        have HPK : Hid (∀ W, P W → Calls Try.prog 16 #[.slice a0 len0 cap0, .int .i64 1000] W fun e w' => ∃ k : Int, e = .returned (.int .i64 k) ∧ Hid (0 ≤ k) ∧ w' = W) := fun W h => (pick_any a0 len0 cap0 zs 1000 W HD.out.len (by have := HD.out.few; omega) (HD.out.sl.below (PE.out W h).2.2) HD.out.bd (by omega) (by omega)).mono fun e w' ⟨k, h1, h2, h3⟩ => ⟨k, h1, h2.1, h3⟩
        have HA : Hid (∀ W (k : Int), P W → 0 ≤ k → Calls Try.prog 21 #[.agg #[.int .u64 D.t, .int .u64 D.cm, .bool D.so, .slice a1 D.xs.length c1, .slice a2 D.ys.length c2, .int .i64 D.ir], .int .i64 k] W fun e w' => ∃ (e1 : Option Addr) (g1 : Nat) (e2 : Option Addr) (g2 : Nat), e = .returned (.agg #[.int .u64 (IntKind.u64.wrap (D.t + IntKind.u64.wrap k)), .int .u64 D.cm, .bool D.so, .slice e1 D.xs.length g1, .slice e2 D.ys.length g2, .int .i64 D.ir]) ∧ Hid (Sl .u8 w' e1 D.xs ∧ Sl .u8 w' e2 D.ys) ∧ P w') := by
          intro W k h hk
          have ek : tickD D k = ⟨IntKind.u64.wrap (D.t + IntKind.u64.wrap k), D.cm, D.so, D.xs, D.ys, D.ir⟩ := by unfold tickD; rw [hok, decide_eq_false (by omega)]; rfl
          have h2 := HT.out W k _ (PE.out W h).1
          rw [ek] at h2
          exact h2.mono fun e w' ⟨e1, g1, e2, g2, k1, k2, k3⟩ => ⟨e1, g1, e2, g2, k1, k2, PB.out _ _ h k3.out⟩
        have HB : Hid (∀ W (K : Int) (e1 : Option Addr) (g1 : Nat) (e2 : Option Addr) (g2 : Nat), P W → Hid (Sl .u8 W e1 D.xs ∧ Sl .u8 W e2 D.ys) → Calls Try.prog 21 #[.agg #[.int .u64 K, .int .u64 D.cm, .bool D.so, .slice e1 D.xs.length g1, .slice e2 D.ys.length g2, .int .i64 D.ir], .int .i64 x] W fun e w' => ∃ (f1 : Option Addr) (h1 : Nat) (f2 : Option Addr) (h2 : Nat), e = .returned (.agg #[.int .u64 (IntKind.u64.wrap (K + IntKind.u64.wrap x)), .int .u64 D.cm, .bool D.so, .slice f1 D.xs.length h1, .slice f2 D.ys.length h2, .int .i64 D.ir]) ∧ Hid (Sl .u8 w' f1 D.xs ∧ Sl .u8 w' f2 D.ys) ∧ P w') := by
          intro W K e1 g1 e2 g2 h hs
          have ek : tickD ⟨K, D.cm, D.so, D.xs, D.ys, D.ir⟩ x = ⟨IntKind.u64.wrap (K + IntKind.u64.wrap x), D.cm, D.so, D.xs, D.ys, D.ir⟩ := by unfold tickD; dsimp only; rw [hok, hneg]; rfl
          have h2 := implTick_any ⟨K, D.cm, D.so, D.xs, D.ys, D.ir⟩ e1 g1 e2 g2 x W HN.out.1 HN.out.2 HBY.out hs.out.1 hs.out.2
          rw [ek] at h2
          exact h2.mono fun e w' ⟨f1, h1, f2, h2, k1, k2, k3⟩ => ⟨f1, h1, f2, h2, k1, ⟨k2.in_, k2.out_⟩, PB.out _ _ h k3⟩
        clear HT hok HTD
        obtain ⟨⟨s0, s1, s2, s3, s4, s5⟩, -⟩ := KS.out _ p5
        go_wp2_with fail
        refine (HO.out _ _ (PE.out _ p5).1).mono ?_
        rintro e w6 ⟨rfl, hb6⟩
        have p6 := PB.out _ _ p5 hb6.out
        clear hb6 s0 s1 s2 s3 s4 s5
        go_wp2_with fail
        refine (HPK.out _ p6).mono ?_
        rintro e v6 ⟨k, rfl, hk, hv6⟩
        have hq6 := hv6.symm
        subst hq6
        obtain ⟨⟨s0, s1, s2, s3, s4, s5⟩, -⟩ := KS.out _ p6
        go_wp2_with fail
        refine (HA.out _ k p6 hk.out).mono ?_
        rintro e w7 ⟨e1, g1, e2, g2, rfl, hs7, p7⟩
        clear s0 s1 s2 s3 s4 s5
        go_wp2_with fail
        refine (HB.out _ _ e1 g1 e2 g2 p7 hs7).mono ?_
        rintro e w8 ⟨f1, h1, f2, h2, rfl, hs8, p8⟩
        have hal : Below w8.heap.size w8 (w8.alloc (.cells #[.int .u64 (IntKind.u64.wrap (IntKind.u64.wrap (D.t + IntKind.u64.wrap k) + IntKind.u64.wrap x)), .int .u64 D.cm, .bool D.so, .slice f1 D.xs.length h1, .slice f2 D.ys.length h2, .int .i64 D.ir] 26)) := (Below.refl _ _).alloc (Nat.le_refl _) _
        have p9 := PB.out _ _ p8 hal
        have cv1 := conv_sl f1 D.xs.length h1 D.xs _ rfl (hs8.out.1.below hal)
        have cv2 := conv_sl a1 D.xs.length c1 D.xs _ rfl (PE.out _ p9).1.s1
        obtain ⟨⟨s0, s1, s2, s3, s4, s5⟩, -⟩ := KS.out _ p9
        have FIN := dhid (PE.out _ p9).2.2
        clear hal p9 hs7 hs8
        generalize strOfNums D.xs = sx at *
        go_wp2_with fail
        go_ret
        exact ⟨rfl, FIN.out⟩

end Go.Proofs.Ytbkddoibefgplaa.fnTicked
