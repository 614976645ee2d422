/- The program's devices: what is right, what is where, copies. -/
import Derived.Test.YtdcihpbggknhgaaRChanI
import Derived.Test.YtdcihpbggknhgaaRDevS
import Derived.Laws.Cover3
namespace Go.Proofs.YtdcihpbggknhgaaR
open Go.RowKit
set_option linter.unusedVariables false

set_option maxRecDepth 100000 in
set_option maxHeartbeats 1600000 in
theorem implDevOk_any (t cm : Int) (so : Bool) (a1 : Option Addr) (n1 c1 : Nat) (a2 : Option Addr) (n2 c2 : Nat) (ir : Int) (w : World) (hn1 : n1 ≤ 1048576) (hn2 : n2 ≤ 1048576) :
    Calls Try.prog 43 #[.agg #[.int .u64 t, .int .u64 cm, .bool so, .slice a1 n1 c1, .slice a2 n2 c2, .int .i64 ir]] w fun e w' => e = .returned (.bool (okD n1 n2 ir)) ∧ Below w.heap.size w w' := by
  have hB : ∀ o, Below w.heap.size w (w.alloc o) := fun o => (Below.refl _ _).alloc (Nat.le_refl _) o
  have F : okD n1 n2 ir = (decide (n1 ≤ 16) && decide (n2 ≤ 4096) && decide (0 ≤ ir ∧ ir ≤ 1)) := rfl
  by_cases h1 : n1 ≤ 16
  · have d1 : decide ((n1 : Int) ≤ 16) = true := by simp; omega
    by_cases h2 : n2 ≤ 4096
    · have d2 : decide ((n2 : Int) ≤ 4096) = true := by simp; omega
      by_cases h3 : ir = 0
      · have F2 : Hid (okD n1 n2 ir = true) := by show _ = _; rw [F, decide_eq_true h1, decide_eq_true h2, h3]; rfl
        subst h3
        generalize okD n1 n2 0 = v at *
        clear F h1 h2 hn1 hn2
        go_enter Try.func43, Try.ntmps43
        go_wp2_with fail
        go_ret
        exact ⟨by rw [F2.out]; rfl, hB _⟩
      · by_cases h4 : ir = 1
        · have F2 : Hid (okD n1 n2 ir = true) := by show _ = _; rw [F, decide_eq_true h1, decide_eq_true h2, h4]; rfl
          subst h4
          generalize okD n1 n2 1 = v at *
          clear F h1 h2 h3 hn1 hn2
          go_enter Try.func43, Try.ntmps43
          go_wp2_with fail
          go_ret
          exact ⟨by rw [F2.out]; rfl, hB _⟩
        · have F2 : Hid (okD n1 n2 ir = false) := by show _ = _; rw [F, decide_eq_true h1, decide_eq_true h2, decide_eq_false (by omega)]; rfl
          have d3 : (ir == 0) = false := by simpa using h3
          have d4 : (ir == 1) = false := by simpa using h4
          generalize okD n1 n2 ir = v at *
          clear F h1 h2 h3 h4 hn1 hn2
          go_enter Try.func43, Try.ntmps43
          go_wp2_with fail
          go_ret
          exact ⟨by rw [F2.out]; rfl, hB _⟩
    · have d2 : decide ((n2 : Int) ≤ 4096) = false := by simp; omega
      have F2 : Hid (okD n1 n2 ir = false) := by show _ = _; rw [F, decide_eq_true h1, decide_eq_false h2]; rfl
      generalize okD n1 n2 ir = v at *
      clear F h1 h2 hn1 hn2
      go_enter Try.func43, Try.ntmps43
      go_wp2_with fail
      go_ret
      exact ⟨by rw [F2.out]; rfl, hB _⟩
  · have d1 : decide ((n1 : Int) ≤ 16) = false := by simp; omega
    have F2 : Hid (okD n1 n2 ir = false) := by show _ = _; rw [F, decide_eq_false h1]; rfl
    generalize okD n1 n2 ir = v at *
    clear F h1 hn1 hn2
    go_enter Try.func43, Try.ntmps43
    go_wp2_with fail
    go_ret
    exact ⟨by rw [F2.out]; rfl, hB _⟩

theorem implBit_8 (x : Int) (w : World) : Calls Try.prog 39 #[.int .u64 x, .int .i64 0, .int .i64 1] w fun e w' => e = .returned (.int .u64 (bits .and .u64 x 1)) ∧ w' = w.drew := by
  go_enter Try.func39, Try.ntmps39
  go_wp2_with fail
  go_region
  all_goals go_wp2_with fail
  all_goals go_ret
  all_goals exact ⟨rfl, rfl⟩

theorem eql_nil8 (a : Option Addr) (n c : Nat) (w : World) : (binOp .eql 24 (.slice a n c) (.slice none 0 0)).run Try.prog w = .ok (.bool a.isNone) w := by
  simp only [binOp]
  simp [run_equal_slice_nil w 24 5 a n c Try.underlying24]

set_option maxRecDepth 100000 in
set_option maxHeartbeats 1600000 in
theorem clone_any (a : Option Addr) (n c : Nat) (zs : List Int) (w : World) (hz : zs.length = n) (hn : n ≤ 1048576) (hsl : Sl .u8 w a zs) :
    Calls Try.prog 31 #[.slice a n c] w fun e w' => ∃ (a' : Option Addr) (c' : Nat), e = .returned (.slice a' n c') ∧ w'.ownsRow w.heap.size 5 1 (.slice a' n c') n (zs.map (Value.int .u8)) ∧ Below w.heap.size w w' := by
  cases a with
  | none =>
    have h0 : zs = [] := by
      cases zs with
      | nil => rfl
      | cons z zs => obtain ⟨b, off, e, _⟩ := hsl 0 (by simp); cases e
    subst h0
    simp only [List.length_nil] at hz
    subst hz
    clear hsl hn
    have hnil := eql_nil8 none 0 c
    simp only [Option.isNone] at hnil
    go_enter Try.func31, Try.ntmps31
    go_wp2_with fail
    go_ret
    exact ⟨none, 0, rfl, ⟨rfl, .inl ⟨rfl, rfl⟩⟩, Below.refl _ _⟩
  | some p =>
    have hE := own_empty8 w w.heap.size (Nat.le_refl _) (.cells #[] 5 (0, 0)) rfl
    have HS : Hid (Sl .u8 (w.alloc (.cells #[] 5 (0, 0))) (some p) zs) := hsl.below ((Below.refl _ _).alloc (Nat.le_refl _) _)
    have HX : Hid (zs.length = n ∧ n ≤ 1048576) := ⟨hz, hn⟩
    clear hsl hz hn
    have hnil := eql_nil8 (some p) n c
    simp only [Option.isNone] at hnil
    go_enter Try.func31, Try.ntmps31
    go_wp2_with (first
      | (at_builtin; refine wpList_app8 rfl (.tmp 5) (.tmp 6) rfl w.heap.size _ rfl hE (some p) n c zs rfl HX.out.1 HX.out.2 HS.out (by simp) ?_; intro b1 d1 w1 ow1 gr1; have B1 := dhid (app1 gr1 rfl); have OW := dhid ow1; clear ow1 gr1))
    go_ret
    exact ⟨b1, d1, rfl, OW.out, B1.out⟩

theorem belowi {w : World} {o1 o2 : Obj} : Below w.heap.size w ((w.alloc o1).alloc o2) := ((Below.refl _ _).alloc (Nat.le_refl _) o1).alloc (by simp) o2

theorem okD_bdi {n1 n2 : Nat} {ir : Int} (h : okD n1 n2 ir = true) : n1 ≤ 16 ∧ n2 ≤ 4096 ∧ 0 ≤ ir ∧ ir ≤ 1 := by
  unfold okD at h
  simp only [Bool.and_eq_true, decide_eq_true_eq] at h
  exact ⟨h.1.1, h.1.2, h.2.1, h.2.2⟩

theorem byte_u64 (v : Int) (h0 : 0 ≤ v) (h1 : v ≤ 255) : IntKind.u64.wrap v = v := by
  simp [IntKind.wrap, IntKind.signed, IntKind.bits]
  omega

theorem row_drew8 {W : World} {g : Nat} {o : Obj} (h : W.heap[g]? = some o) : W.drew.heap[g]? = some o := h

theorem size_drew8 (W : World) : W.drew.heap.size = W.heap.size := rfl

/-- A row of one's own stays where another block is written. -/
theorem own_setNe {w : World} {B n : Nat} {t : TypeId} {v : Value} {xs : List Value} (h : w.ownsRow B t 1 v n xs) (p : Addr) (x : Value) (hp : p.block < B) : (w.setCell p x).ownsRow B t 1 v n xs :=
  fown_of h (fun k e => Below.heap_setCell w p x k (by have := (h.lt k e).1; omega))

end Go.Proofs.YtdcihpbggknhgaaR
