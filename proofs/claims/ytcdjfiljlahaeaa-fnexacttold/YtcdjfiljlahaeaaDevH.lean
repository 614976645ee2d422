/- The program's devices: what is right, what is where, copies. -/
import Derived.Test.YtcdjfiljlahaeaaChanI
import Derived.Test.YtcdjfiljlahaeaaDevS
import Derived.Laws.Cover3
namespace Go.Proofs.Ytcdjfiljlahaeaa
open Go.RowKit
set_option linter.unusedVariables false

set_option maxRecDepth 100000 in
set_option maxHeartbeats 1600000 in
theorem implDevOk_any (t cm : Int) (so : Bool) (a1 : Option Addr) (n1 c1 : Nat) (a2 : Option Addr) (n2 c2 : Nat) (ir : Int) (w : World) (hn1 : n1 ≤ 1048576) (hn2 : n2 ≤ 1048576) :
    Calls Try.prog 36 #[.agg #[.int .u64 t, .int .u64 cm, .bool so, .slice a1 n1 c1, .slice a2 n2 c2, .int .i64 ir]] w fun e w' => e = .returned (.bool (okD n1 n2 ir)) ∧ Below w.heap.size w w' := by
  have hB : ∀ o, Below w.heap.size w (w.alloc o) := fun o => (Below.refl _ _).alloc (Nat.le_refl _) o
  have F : okD n1 n2 ir = (decide (n1 ≤ 16) && decide (n2 ≤ 4096) && decide (0 ≤ ir ∧ ir ≤ 1)) := rfl
  by_cases h1 : n1 ≤ 16
  · have d1 : decide ((n1 : Int) ≤ 16) = true := by simp; omega
    by_cases h2 : n2 ≤ 4096
    · have d2 : decide ((n2 : Int) ≤ 4096) = true := by simp; omega
      by_cases h3 : ir = 0
      · have F2 : Hid (okD n1 n2 ir = true) := by show _ = _; rw [F, decide_eq_true h1, decide_eq_true h2, h3]; rfl
        subst h3
        generalize okD n1 n2 0 = v at *
        clear F h1 h2 hn1 hn2
        go_enter Try.func36, Try.ntmps36
        go_wp2_with fail
        go_ret
        exact ⟨by rw [F2.out]; rfl, hB _⟩
      · by_cases h4 : ir = 1
        · have F2 : Hid (okD n1 n2 ir = true) := by show _ = _; rw [F, decide_eq_true h1, decide_eq_true h2, h4]; rfl
          subst h4
          generalize okD n1 n2 1 = v at *
          clear F h1 h2 h3 hn1 hn2
          go_enter Try.func36, Try.ntmps36
          go_wp2_with fail
          go_ret
          exact ⟨by rw [F2.out]; rfl, hB _⟩
        · have F2 : Hid (okD n1 n2 ir = false) := by show _ = _; rw [F, decide_eq_true h1, decide_eq_true h2, decide_eq_false (by omega)]; rfl
          have d3 : (ir == 0) = false := by simpa using h3
          have d4 : (ir == 1) = false := by simpa using h4
          generalize okD n1 n2 ir = v at *
          clear F h1 h2 h3 h4 hn1 hn2
          go_enter Try.func36, Try.ntmps36
          go_wp2_with fail
          go_ret
          exact ⟨by rw [F2.out]; rfl, hB _⟩
    · have d2 : decide ((n2 : Int) ≤ 4096) = false := by simp; omega
      have F2 : Hid (okD n1 n2 ir = false) := by show _ = _; rw [F, decide_eq_true h1, decide_eq_false h2]; rfl
      generalize okD n1 n2 ir = v at *
      clear F h1 h2 hn1 hn2
      go_enter Try.func36, Try.ntmps36
      go_wp2_with fail
      go_ret
      exact ⟨by rw [F2.out]; rfl, hB _⟩
  · have d1 : decide ((n1 : Int) ≤ 16) = false := by simp; omega
    have F2 : Hid (okD n1 n2 ir = false) := by show _ = _; rw [F, decide_eq_false h1]; rfl
    generalize okD n1 n2 ir = v at *
    clear F h1 hn1 hn2
    go_enter Try.func36, Try.ntmps36
    go_wp2_with fail
    go_ret
    exact ⟨by rw [F2.out]; rfl, hB _⟩

theorem implBit_8 (x : Int) (w : World) : Calls Try.prog 33 #[.int .u64 x, .int .i64 0, .int .i64 1] w fun e w' => e = .returned (.int .u64 (bits .and .u64 x 1)) ∧ w' = w.drew := by
  go_enter Try.func33, Try.ntmps33
  go_wp2_with fail
  go_region
  all_goals go_wp2_with fail
  all_goals go_ret
  all_goals exact ⟨rfl, rfl⟩

theorem eql_nil8 (a : Option Addr) (n c : Nat) (w : World) : (binOp .eql 22 (.slice a n c) (.slice none 0 0)).run Try.prog w = .ok (.bool a.isNone) w := by
  simp only [binOp]
  simp [run_equal_slice_nil w 22 5 a n c Try.underlying22]

set_option maxRecDepth 100000 in
set_option maxHeartbeats 1600000 in
theorem clone_any (a : Option Addr) (n c : Nat) (zs : List Int) (w : World) (hz : zs.length = n) (hn : n ≤ 1048576) (hsl : Sl .u8 w a zs) :
    Calls Try.prog 22 #[.slice a n c] w fun e w' => ∃ (a' : Option Addr) (c' : Nat), e = .returned (.slice a' n c') ∧ w'.ownsRow w.heap.size 5 1 (.slice a' n c') n (zs.map (Value.int .u8)) ∧ Below w.heap.size w w' := by
  cases a with
  | none =>
    have h0 : zs = [] := by
      cases zs with
      | nil => rfl
      | cons z zs => obtain ⟨b, off, e, _⟩ := hsl 0 (by simp); cases e
    subst h0
    simp only [List.length_nil] at hz
    subst hz
    clear hsl hn
    have hnil := eql_nil8 none 0 c
    simp only [Option.isNone] at hnil
    go_enter Try.func22, Try.ntmps22
    go_wp2_with fail
    go_ret
    exact ⟨none, 0, rfl, ⟨rfl, .inl ⟨rfl, rfl⟩⟩, Below.refl _ _⟩
  | some p =>
    have hE := own_empty8 w w.heap.size (Nat.le_refl _) (.cells #[] 5 (0, 0)) rfl
    have HS : Hid (Sl .u8 (w.alloc (.cells #[] 5 (0, 0))) (some p) zs) := hsl.below ((Below.refl _ _).alloc (Nat.le_refl _) _)
    have HX : Hid (zs.length = n ∧ n ≤ 1048576) := ⟨hz, hn⟩
    clear hsl hz hn
    have hnil := eql_nil8 (some p) n c
    simp only [Option.isNone] at hnil
    go_enter Try.func22, Try.ntmps22
    go_wp2_with (first
      | (at_builtin; refine wpList_app8 rfl (.tmp 5) (.tmp 6) rfl w.heap.size _ rfl hE (some p) n c zs rfl HX.out.1 HX.out.2 HS.out (by simp) ?_; intro b1 d1 w1 ow1 gr1; have B1 := dhid (app1 gr1 rfl); have OW := dhid ow1; clear ow1 gr1))
    go_ret
    exact ⟨b1, d1, rfl, OW.out, B1.out⟩

set_option maxRecDepth 100000 in
set_option maxHeartbeats 1600000 in
theorem copied_any (t cm : Int) (so : Bool) (a1 : Option Addr) (n1 c1 : Nat) (a2 : Option Addr) (n2 c2 : Nat) (ir : Int) (xs ys : List Int) (w : World) (hx : xs.length = n1) (hy : ys.length = n2) (hn1 : n1 ≤ 1048576) (hn2 : n2 ≤ 1048576) (hs1 : Sl .u8 w a1 xs) (hs2 : Sl .u8 w a2 ys) :
    Calls Try.prog 57 #[.agg #[.int .u64 t, .int .u64 cm, .bool so, .slice a1 n1 c1, .slice a2 n2 c2, .int .i64 ir]] w fun e w' => ∃ (b1 : Option Addr) (d1 : Nat) (b2 : Option Addr) (d2 : Nat), e = .returned (.agg #[.int .u64 t, .int .u64 cm, .bool so, .slice b1 n1 d1, .slice b2 n2 d2, .int .i64 ir]) ∧
      Fam w.heap.size w'.heap.size w' (devF b1 n1 d1 xs b2 n2 d2 ys) ∧ Below w.heap.size w w' := by
  have HC1 : Hid (∀ w', Below w.heap.size w w' → Calls Try.prog 22 #[.slice a1 n1 c1] w' fun e w'' => ∃ (a' : Option Addr) (c' : Nat), e = .returned (.slice a' n1 c') ∧ w''.ownsRow w'.heap.size 5 1 (.slice a' n1 c') n1 (xs.map (Value.int .u8)) ∧ Below w'.heap.size w' w'') := fun w' hb => clone_any _ _ _ xs w' hx hn1 (hs1.below hb)
  have HC2 : Hid (∀ w', Below w.heap.size w w' → Calls Try.prog 22 #[.slice a2 n2 c2] w' fun e w'' => ∃ (a' : Option Addr) (c' : Nat), e = .returned (.slice a' n2 c') ∧ w''.ownsRow w'.heap.size 5 1 (.slice a' n2 c') n2 (ys.map (Value.int .u8)) ∧ Below w'.heap.size w' w'') := fun w' hb => clone_any _ _ _ ys w' hy hn2 (hs2.below hb)
  have hB2 : ∀ o1 o2, Below w.heap.size w ((w.alloc o1).alloc o2) := fun o1 o2 => ((Below.refl _ _).alloc (Nat.le_refl _) o1).alloc (by simp) o2
  clear hs1 hs2 hx hy hn1 hn2
  go_enter Try.func57, Try.ntmps57
  go_wp2_with fail
  refine (HC1.out _ (hB2 _ _)).mono ?_
  rintro e w1 ⟨b1, d1, rfl, ow1, hb1⟩
  obtain ⟨r0, r1⟩ := rows2 hb1
  have R0 := dhid r0
  have R1 := dhid r1
  have B1 := dhid (below_trans (hB2 _ _) hb1)
  have z1 := hb1.size
  simp only [World.size_alloc] at z1 ow1
  have Z1 := dhid z1
  have A1 := dhid ((Fam.nil (w.heap.size + 1 + 1) (w.heap.size + 1 + 1) w1).snoc (bRow b1 n1 d1 xs) _ w1.heap.size ow1 (Nat.le_refl _) (Nat.le_refl _) (Nat.le_refl _) (by omega))
  obtain ⟨p0, p1, p2, p3, p4, p5⟩ := cells6 r0
  have f3 := froz r0 3
  have R0' : (w1.setCell ⟨w.heap.size, 3, none⟩ (.slice b1 n1 d1)).heap[w.heap.size]? = some (.cells #[.int .u64 t, .int .u64 cm, .bool so, .slice b1 n1 d1, .slice a2 n2 c2, .int .i64 ir] 28 (0, 0)) := row_set R0.out 3 (.slice b1 n1 d1)
  have p4' := (cells6 R0').2.2.2.2.1
  have BS := dhid (B1.out.setCell (p := ⟨w.heap.size, 3, none⟩) (Nat.le_refl _) (.slice b1 n1 d1))
  clear r0 r1 hb1 z1 ow1 R0'
  go_wp2_with fail
  refine (HC2.out _ BS.out).mono ?_
  rintro e w2 ⟨b2, d2, rfl, ow2, hb2⟩
  have z2 := hb2.size
  rw [size_set] at z2 ow2
  have S0 : Hid (w2.heap[w.heap.size]? = some (.cells #[.int .u64 t, .int .u64 cm, .bool so, .slice b1 n1 d1, .slice a2 n2 c2, .int .i64 ir] 28 (0, 0))) := dstays hb2 (row_set R0.out 3 (.slice b1 n1 d1))
  have S1 := dhid (dstays hb2 (row_far R1.out ⟨w.heap.size, 3, none⟩ (.slice b1 n1 d1) (by dsimp only; omega)))
  have B2 := dhid (below_trans BS.out hb2)
  have A2 := dhid (((A1.out.set ⟨w.heap.size, 3, none⟩ (.slice b1 n1 d1) (.inl (by dsimp only; omega))).below hb2).snoc (bRow b2 n2 d2 ys) _ w2.heap.size ow2 (Nat.le_refl _) (by have := Z1.out; omega) (Nat.le_refl _) z2)
  clear p0 p1 p2 p3 p4 p5 f3 p4'
  obtain ⟨p0, p1, p2, p3, p4, p5⟩ := cells6 S0.out
  have f4 := froz S0.out 4
  obtain ⟨s0, s1, s2, s3, s4, s5⟩ := cells6 S1.out
  obtain ⟨y0, y1, y2, y3, y4, y5⟩ := froz6 S1.out
  clear ow2 hb2 z2
  go_wp2_with fail
  have T1 := row_far S1.out ⟨w.heap.size, 4, none⟩ (.slice b2 n2 d2) (by dsimp only; omega)
  have A3 := (A2.out.set ⟨w.heap.size, 4, none⟩ (.slice b2 n2 d2) (.inl (by dsimp only; omega))).put6 (w.heap.size + 1) (.inl (by omega)) (.int .u64 t) (.int .u64 cm) (.bool so) (.slice b1 n1 d1) (.slice b2 n2 d2) (.int .i64 ir)
  have B3 := below_put6 (B2.out.setCell (p := ⟨w.heap.size, 4, none⟩) (Nat.le_refl _) (.slice b2 n2 d2)) (g := w.heap.size + 1) (by omega) (.int .u64 t) (.int .u64 cm) (.bool so) (.slice b1 n1 d1) (.slice b2 n2 d2) (.int .i64 ir)
  exact bodyPost_ret (results_cell_row Try.results57 _ _ _ _ _ _ _ rfl (row_put6 T1 _ _ _ _ _ _) Try.underlying28 rfl dev_size) rfl ⟨b1, d1, b2, d2, rfl, A3.low (by omega) (by simp only [size_set]; exact Nat.le_refl _), B3⟩

theorem belowi {w : World} {o1 o2 : Obj} : Below w.heap.size w ((w.alloc o1).alloc o2) := ((Below.refl _ _).alloc (Nat.le_refl _) o1).alloc (by simp) o2

theorem okD_bdi {n1 n2 : Nat} {ir : Int} (h : okD n1 n2 ir = true) : n1 ≤ 16 ∧ n2 ≤ 4096 ∧ 0 ≤ ir ∧ ir ≤ 1 := by
  unfold okD at h
  simp only [Bool.and_eq_true, decide_eq_true_eq] at h
  exact ⟨h.1.1, h.1.2, h.2.1, h.2.2⟩

theorem byte_u64 (v : Int) (h0 : 0 ≤ v) (h1 : v ≤ 255) : IntKind.u64.wrap v = v := by
  simp [IntKind.wrap, IntKind.signed, IntKind.bits]
  omega

theorem row_drew8 {W : World} {g : Nat} {o : Obj} (h : W.heap[g]? = some o) : W.drew.heap[g]? = some o := h

theorem size_drew8 (W : World) : W.drew.heap.size = W.heap.size := rfl

/-- A row of one's own stays where another block is written. -/
theorem own_setNe {w : World} {B n : Nat} {t : TypeId} {v : Value} {xs : List Value} (h : w.ownsRow B t 1 v n xs) (p : Addr) (x : Value) (hp : p.block < B) : (w.setCell p x).ownsRow B t 1 v n xs :=
  fown_of h (fun k e => Below.heap_setCell w p x k (by have := (h.lt k e).1; omega))

end Go.Proofs.Ytcdjfiljlahaeaa
