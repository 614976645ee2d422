/- The model's Leave and Enter. -/
import Derived.Test.YtgcbdlfljplkbabTrapS
import Derived.Test.YtgcbdlfljplkbabCsrY
import Derived.BigQuiet
namespace Go.Proofs.Ytgcbdlfljplkbab
open Go.RowKit
set_option linter.unusedVariables false

theorem results_t4 {fn : Func} {t u v x : Tmp} (h : fn.results = #[.tmp t, .tmp u, .tmp v, .tmp x]) (tmps : Array Value) (P : Program) (w : World) :
    (results fn tmps).run P w = .ok (.tuple #[tmps.getD t undef, tmps.getD u undef, tmps.getD v undef, tmps.getD x undef]) w := by
  simp [results, h]

/-- mret and sret: the privilege, the status, the pc. -/
def leaveP (s : Int) (m : Bool) : Int := match m with | true => wrap64 (bits .and .u64 (s / 2048) 3) | false => wrap64 (bitAt s 8)

def leaveM (s : Int) : Int := bits .or .u64 (bits .or .u64 (bits .andNot .u64 s 6152) (IntKind.u64.wrap (bitAt s 7 * 8))) 128

def leaveS (s : Int) (m : Bool) : Int := match m with
  | true => if (leaveP s true != 3) = true then bits .andNot .u64 (leaveM s) 131072 else leaveM s
  | false => bits .or .u64 (bits .or .u64 (bits .andNot .u64 s 131330) (IntKind.u64.wrap (bitAt s 5 * 2))) 32

def leaveAt (l : List Int) (m : Bool) : Int := match m with | true => l.getD 6 0 | false => l.getD 12 0

set_option maxRecDepth 100000 in
set_option maxHeartbeats 3200000 in
theorem l5Leave_any (base g cap : Nat) (l : List Int) (m : Bool) (w : World) (h : Own w base g cap l) :
    Calls Try.prog 65 #[.slice (some ⟨g, 0, none⟩) 22 cap, .bool m] w fun e w' =>
      e = .returned (.tuple #[.int .i64 (leaveP (l.getD 0 0) m), .int .u64 (leaveAt l m)]) ∧ Own w' base g cap (l.set 0 (leaveS (l.getD 0 0) m)) ∧ w.grownBy w' (some g) := by
  have H : Hid (Own w base g cap l) := h
  have c0 := h.cell 0 (by omega)
  clear h
  cases m with
  | true =>
    have L6 : Hid (l.getD 6 0 = leaveAt l true) := (rfl : l.getD 6 0 = leaveAt l true)
    generalize leaveAt l true = l6 at *
    have hs0 : leaveS (l.getD 0 0) true = if (leaveP (l.getD 0 0) true != 3) = true then bits .andNot .u64 (leaveM (l.getD 0 0)) 131072 else leaveM (l.getD 0 0) := rfl
    have hm0 : leaveM (l.getD 0 0) = bits .or .u64 (bits .or .u64 (bits .andNot .u64 (l.getD 0 0) 6152) (IntKind.u64.wrap (bitAt (l.getD 0 0) 7 * 8))) 128 := rfl
    have hp0 : wrap64 (bits .and .u64 (l.getD 0 0 / 2048) 3) = leaveP (l.getD 0 0) true := rfl
    rw [hm0] at hs0
    clear hm0
    generalize leaveP (l.getD 0 0) true = pv at *
    generalize leaveS (l.getD 0 0) true = sv at *
    obtain ⟨s, hs⟩ : ∃ y, l.getD 0 0 = y := ⟨_, rfl⟩
    rw [hs] at c0 hs0 hp0
    clear hs
    cases hc : (pv != 3) with
    | true =>
      rw [if_pos hc] at hs0
      have F : Hid (sv = bits .andNot .u64 (bits .or .u64 (bits .or .u64 (bits .andNot .u64 s 6152) (IntKind.u64.wrap (bitAt s 7 * 8))) 128) 131072) := hs0
      clear hs0
      go_enter Try.func65, Try.ntmps65
      go_wp2_with (first | (refine wpList_put rfl (.tmp 30) (.tmp 29) rfl rfl H.out 0 (by omega) _ rfl rfl ?_; intro w1 h1 g1; have H1 : Hid (Own w1 _ _ _ _) := h1; have G1 : Hid (w.grownBy w1 (some g)) := g1; clear h1 g1; have c : w1.cell? ⟨g, 6, none⟩ = some (.int .u64 l6) := by (have e := H1.out.cell 6 (by omega); rw [set_get _ _ _ _ (by omega), L6.out] at e; exact e)) | (go_at_call 92; with_reducible refine (l5Bit7 _ _).mono ?_; rintro e wx ⟨rfl, hwx⟩; have hwy := hwx.symm; subst hwy))
      go_quiet (fail)
      go_wp2_with fail
      go_ret2
      exact ⟨rfl, by rw [F.out]; exact H1.out.below ⟨rfl, rfl, rfl, Nat.le_refl _, fun _ _ => rfl⟩, grown_trans G1.out ⟨rfl, rfl, rfl, Nat.le_refl _, fun _ _ _ => rfl⟩⟩
    | false =>
      rw [if_neg (by rw [hc]; decide)] at hs0
      have F : Hid (sv = bits .or .u64 (bits .or .u64 (bits .andNot .u64 s 6152) (IntKind.u64.wrap (bitAt s 7 * 8))) 128) := hs0
      clear hs0
      go_enter Try.func65, Try.ntmps65
      go_wp2_with (first | (refine wpList_put rfl (.tmp 30) (.tmp 29) rfl rfl H.out 0 (by omega) _ rfl rfl ?_; intro w1 h1 g1; have H1 : Hid (Own w1 _ _ _ _) := h1; have G1 : Hid (w.grownBy w1 (some g)) := g1; clear h1 g1; have c : w1.cell? ⟨g, 6, none⟩ = some (.int .u64 l6) := by (have e := H1.out.cell 6 (by omega); rw [set_get _ _ _ _ (by omega), L6.out] at e; exact e)) | (go_at_call 92; with_reducible refine (l5Bit7 _ _).mono ?_; rintro e wx ⟨rfl, hwx⟩; have hwy := hwx.symm; subst hwy))
      go_quiet (fail)
      go_wp2_with fail
      go_ret2
      exact ⟨rfl, by rw [F.out]; exact H1.out.below ⟨rfl, rfl, rfl, Nat.le_refl _, fun _ _ => rfl⟩, grown_trans G1.out ⟨rfl, rfl, rfl, Nat.le_refl _, fun _ _ _ => rfl⟩⟩
  | false =>
    have L12 : Hid (l.getD 12 0 = leaveAt l false) := (rfl : l.getD 12 0 = leaveAt l false)
    generalize leaveAt l false = l12 at *
    have F0 : leaveS (l.getD 0 0) false = bits .or .u64 (bits .or .u64 (bits .andNot .u64 (l.getD 0 0) 131330) (IntKind.u64.wrap (bitAt (l.getD 0 0) 5 * 2))) 32 := rfl
    have hp0 : leaveP (l.getD 0 0) false = wrap64 (bitAt (l.getD 0 0) 8) := rfl
    rw [hp0]
    clear hp0
    generalize leaveS (l.getD 0 0) false = sv at *
    obtain ⟨s, hs⟩ : ∃ y, l.getD 0 0 = y := ⟨_, rfl⟩
    rw [hs] at c0 F0 ⊢
    have F : Hid (sv = bits .or .u64 (bits .or .u64 (bits .andNot .u64 s 131330) (IntKind.u64.wrap (bitAt s 5 * 2))) 32) := F0
    clear F0 hs
    go_enter Try.func65, Try.ntmps65
    go_wp2_with (first | (refine wpList_put rfl (.tmp 46) (.tmp 45) rfl rfl H.out 0 (by omega) _ rfl rfl ?_; intro w1 h1 g1; have H1 : Hid (Own w1 _ _ _ _) := h1; have G1 : Hid (w.grownBy w1 (some g)) := g1; clear h1 g1; have c : w1.cell? ⟨g, 12, none⟩ = some (.int .u64 l12) := by (have e := H1.out.cell 12 (by omega); rw [set_get _ _ _ _ (by omega), L12.out] at e; exact e)) | (go_at_call 92; with_reducible refine (l5Bit8 _ _).mono ?_; rintro e wx ⟨rfl, hwx⟩; have hwy := hwx.symm; subst hwy) | (go_at_call 92; with_reducible refine (l5Bit5 _ _).mono ?_; rintro e wx ⟨rfl, hwx⟩; have hwy := hwx.symm; subst hwy))
    go_quiet (fail)
    go_wp2_with fail
    go_ret2
    exact ⟨rfl, by rw [F.out]; exact H1.out.below ⟨rfl, rfl, rfl, Nat.le_refl _, fun _ _ => rfl⟩, grown_trans G1.out ⟨rfl, rfl, rfl, Nat.le_refl _, fun _ _ _ => rfl⟩⟩

end Go.Proofs.Ytgcbdlfljplkbab
