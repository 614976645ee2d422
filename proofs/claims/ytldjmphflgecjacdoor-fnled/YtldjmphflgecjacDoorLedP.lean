/- A table of one great leaf, in plain numbers. -/
import Derived.Test.YtldjmphflgecjacDoorWalkG
namespace Go.Proofs.YtldjmphflgecjacDoor
open Go.RowKit
set_option linter.unusedVariables false

/-- Registers whose table is the memory's first page, all of it open to all. -/
def ledL : List Int := [0, 0, 0, 0, 0, 0, 0, 0, 0, 0, 0, 0, 0, 0, 0, 9223372036855300096, 31, 18014398509481983, 0, 0, 0, 0]

theorem ledL_U : ∀ j, U (ledL.getD j 0) := by
  intro j
  by_cases h : j < 22
  · have : ∀ j, j < 22 → (0 ≤ ledL.getD j 0 ∧ ledL.getD j 0 < 18446744073709551616) := by decide +kernel
    exact this j h
  · rw [List.getD_eq_getElem?_getD, List.getElem?_eq_none (by show 22 ≤ j; omega)]
    exact ⟨by decide, by decide⟩

theorem ledL_ok : csrsOk 22 ledL = true := by decide +kernel

theorem led_perm (p : Int) : permRest ledL 1 2147483656 (lastOf 2147483656 8) 2 4 0 = true ∧ permRest ledL 1 2147483656 (lastOf 2147483656 8) 3 4 0 = true ∧ permRest ledL 1 2147483648 (lastOf 2147483648 8) 2 4 0 = true ∧ topT ledL = 2147483648 ∧ (ledL.getD 15 0 / 1152921504606846976 == 0) = false ∧ bitAt (ledL.getD 0 0) 18 = 0 := by decide +kernel

/-- The entry of frame y * 2^18 with the bits b. -/
theorem led_entry : ∀ y, y < 9 → ∀ b, b < 256 → (entryV ((y : Nat) * 262144) ((b : Nat) : Int) = y * 268435456 + b ∧ bits .and .u64 ((y : Int) * 268435456 + (b : Nat)) 1 = bits .and .i64 ((b : Nat) : Int) 1 ∧ frameV ((y : Int) * 268435456 + b) = y * 262144 ∧ offB ((y : Int) * 268435456 + b) 2 = false ∧
    bitAt ((y : Int) * 268435456 + b) 4 = bits .and .i64 (((b : Nat) : Int) / 16) 1) := by decide +kernel

theorem leaf_code (l : List Int) (p va kind e x : Int) (lv : Nat) : (leafV l p va kind e x lv).code = 0 ∨ (leafV l p va kind e x lv).code = pageC kind ∨ (leafV l p va kind e x lv).code = faultC kind := by
  unfold leafV
  split
  · exact .inr (.inl rfl)
  · split
    · exact .inr (.inl rfl)
    · split
      · exact .inr (.inl rfl)
      · split
        · split
          · exact .inl rfl
          · exact .inr (.inr rfl)
        · exact .inl rfl

theorem one_bit : ∀ b : Nat, b < 256 → (bits .and .i64 (b : Int) 1 = 0 ∨ bits .and .i64 (b : Int) 1 = 1) ∧ (bits .and .i64 ((b : Int) / 16) 1 = 0 ∨ bits .and .i64 ((b : Int) / 16) 1 = 1) := by decide +kernel

theorem led_lead : ∀ y : Nat, y < 9 → bits .andNot .u64 (IntKind.u64.wrap ((y : Int) * 262144 * 4096)) (lowM 30) = IntKind.u64.wrap ((y : Int) * 262144 * 4096) ∧ lowM 30 = 1073741823 := by decide +kernel

theorem led_mask : bits .and .u64 1 511 = 1 ∧ bits .and .u64 512 511 = 0 ∧ badB 0 = true ∧ okB 4096 2147483656 8 = true ∧ okB 4096 2147483648 8 = true := by decide +kernel

theorem zero_le8 : ∀ g m, le (List.replicate 4096 (0 : Int)) g m = 0 := by
  have hz : ∀ j, (List.replicate 4096 (0 : Int)).getD j 0 = 0 := by
    intro j
    rw [List.getD_eq_getElem?_getD, List.getElem?_replicate]
    split <;> rfl
  intro g m
  induction m generalizing g with
  | zero => rfl
  | succ m ih =>
    show (List.replicate 4096 (0 : Int)).getD g 0 + 256 * le (List.replicate 4096 (0 : Int)) (g + 1) m = 0
    rw [hz, ih]
    rfl

theorem led_va (x : Int) (h0 : 0 ≤ x) (h1 : x < 1048576) : widen 39 (1073741824 + x) = 1073741824 + x := by
  unfold widen wrap64
  rw [show (64 - 39 : Nat) = 25 from rfl, show ((2 : Int) ^ 25) = 33554432 from rfl]
  rw [IntKind.wrap_u64, IntKind.wrap_u64]
  omega

/-- Where a table of one great leaf leads, and by what bits. -/
theorem led_walk (y b : Nat) (hy : y < 9) (hb : b < 256) (p kind x : Int) (hp : p = 0 ∨ p = 1) (hx0 : 0 ≤ x) (hx1 : x < 1048576) (zs : List Int) (hzs : zs = put (List.replicate 4096 0) 8 ((y : Int) * 268435456 + b) 8) :
    ((walkV zs 4096 ledL p (1073741824 + x) kind).code = 0 ∧ (walkV zs 4096 ledL p (1073741824 + x) kind).addr = bits .or .u64 (IntKind.u64.wrap ((y : Int) * 262144 * 4096)) (bits .and .u64 (1073741824 + x) 1073741823) ∧ (bits .and .i64 (b : Int) 1 == 1) = true ∧ ((bits .and .i64 ((b : Int) / 16) 1 == 1) == (p == 0)) = true) ∨
    ((walkV zs 4096 ledL p (1073741824 + x) kind).code ≠ 0 ∧ ((walkV zs 4096 ledL p (1073741824 + x) kind).code = pageC kind ∨ (walkV zs 4096 ledL p (1073741824 + x) kind).code = faultC kind)) := by
  obtain ⟨p2, p3, p0, hT, hmode, hm18⟩ := led_perm p
  obtain ⟨k1, k2, k3, k4, k5⟩ := led_mask
  obtain ⟨ee, e1, efr, eoff, e4⟩ := led_entry y hy b hb
  have hU : U ((y : Int) * 268435456 + b) := ⟨by omega, by omega⟩
  have page : ∀ f : Fd, f = pageF kind → f.code ≠ 0 ∧ (f.code = pageC kind ∨ f.code = faultC kind) := fun f h => by rw [h]; exact ⟨pageC_ne kind, .inl rfl⟩
  have fault : ∀ f : Fd, f = faultF kind → f.code ≠ 0 ∧ (f.code = pageC kind ∨ f.code = faultC kind) := fun f h => by rw [h]; exact ⟨faultC_ne kind, .inr rfl⟩
  have hp3 : (p == 3) = false := by rcases hp with rfl | rfl <;> rfl
  have hw : (widen 39 (1073741824 + x) != 1073741824 + x) = false := by rw [led_va x hx0 hx1]; simp
  have EV : walkV zs 4096 ledL p (1073741824 + x) kind = walkL zs 4096 ledL p (1073741824 + x) kind 2 2147483648 := by
    unfold walkV
    rw [hp3, hmode, Bool.or_false, if_neg (by decide), hw, if_neg (by decide), hT]
  have hX : pteAt 2147483648 (1073741824 + x) 2 = 2147483656 := by
    unfold pteAt
    have : (1073741824 + x) / 2 ^ (12 + 9 * 2) = 1 := by rw [show ((2 : Int) ^ (12 + 9 * 2)) = 1073741824 from rfl]; omega
    rw [this, k1]
    decide
  have hlen : (List.replicate 4096 (0 : Int)).length = 4096 := List.length_replicate
  have hE : pteV zs 2147483656 = (y : Int) * 268435456 + b := by
    rw [hzs]
    exact pte_back (List.replicate 4096 0) 4096 hlen 2147483656 _ k4 hU
  have STEP := walkL_step zs 4096 ledL p (1073741824 + x) kind 2 2147483648
  rw [hX, k4, if_pos rfl, p2, if_pos rfl, hE] at STEP
  rw [EV]
  cases hbad : badB ((y : Int) * 268435456 + b) with
  | true => rw [hbad, if_pos rfl] at STEP; exact .inr (page _ STEP)
  | false =>
    rw [hbad, if_neg (by decide)] at STEP
    cases hptr : ptrB ((y : Int) * 268435456 + b) with
    | true =>
      rw [hptr, if_pos rfl] at STEP
      cases hst : stopB ((y : Int) * 268435456 + b) 2 with
      | true => rw [hst, if_pos rfl] at STEP; exact .inr (page _ STEP)
      | false =>
        rw [hst, if_neg (by decide), efr] at STEP
        have hX1 : pteAt (IntKind.u64.wrap ((y : Int) * 262144 * 4096)) (1073741824 + x) 1 = (y : Int) * 1073741824 := by
          unfold pteAt
          have : (1073741824 + x) / 2 ^ (12 + 9 * 1) = 512 := by rw [show ((2 : Int) ^ (12 + 9 * 1)) = 2097152 from rfl]; omega
          rw [this, k2, IntKind.wrap_u64, IntKind.wrap_u64, IntKind.wrap_u64]
          omega
        have STEP1 := walkL_step zs 4096 ledL p (1073741824 + x) kind 1 (IntKind.u64.wrap ((y : Int) * 262144 * 4096))
        rw [hX1] at STEP1
        right
        rw [STEP]
        by_cases hy2 : y = 2
        · subst hy2
          have h31 : ((2 : Nat) : Int) * 1073741824 = 2147483648 := by decide
          have hE1 : pteV zs 2147483648 = 0 := by
            rw [hzs]
            unfold pteV
            exact (le_put_off (List.replicate 4096 0) 8 _ 8 _ (by decide)).trans (zero_le8 _ _)
          rw [h31, k5, if_pos rfl, p0, if_pos rfl, hE1, k3, if_pos rfl] at STEP1
          exact page _ STEP1
        · have hno : okB 4096 ((y : Int) * 1073741824) 8 = false := by
            cases h : okB 4096 ((y : Int) * 1073741824) 8 with
            | false => rfl
            | true => have := okB_at h; omega
          rw [hno, if_neg (by decide)] at STEP1
          exact fault _ STEP1
    | false =>
      rw [hptr, if_neg (by decide)] at STEP
      rw [STEP]
      by_cases hc : (leafV ledL p (1073741824 + x) kind ((y : Int) * 268435456 + b) 2147483656 2).code = 0
      · obtain ⟨_, _, hpriv, hL⟩ := leaf_led _ _ _ _ _ _ _ hc
        obtain ⟨o1, o4⟩ := one_bit b hb
        refine .inl ⟨hc, ?_, ?_, ?_⟩
        · have ha : (leafV ledL p (1073741824 + x) kind ((y : Int) * 268435456 + b) 2147483656 2).addr = leadV ((y : Int) * 268435456 + b) (1073741824 + x) 2 := by
            rcases hL with ⟨_, _, h⟩ | ⟨_, h⟩ <;> rw [h]
          rw [ha]
          unfold leadV
          rw [efr, show 12 + 9 * 2 = 30 from rfl, (led_lead y hy).1, (led_lead y hy).2]
        · unfold badB at hbad
          simp only [Bool.or_eq_false_iff] at hbad
          have h0 := hbad.1.1
          rw [e1] at h0
          rcases o1 with h | h
          · rw [h] at h0; cases h0
          · rw [h]; rfl
        · unfold noPriv at hpriv
          rw [hm18, e4] at hpriv
          rcases hp with rfl | rfl
          · rcases o4 with h | h
            · rw [h] at hpriv; cases hpriv
            · rw [h]; rfl
          · rcases o4 with h | h
            · rw [h]; rfl
            · rw [h] at hpriv
              simp at hpriv
      · refine .inr ⟨hc, ?_⟩
        rcases leaf_code ledL p (1073741824 + x) kind ((y : Int) * 268435456 + b) 2147483656 2 with h | h
        · exact absurd h hc
        · exact h

end Go.Proofs.YtldjmphflgecjacDoor
