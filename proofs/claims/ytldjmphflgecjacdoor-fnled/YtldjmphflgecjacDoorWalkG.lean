/- A walk that leads leads again, and marks nothing more: in plain numbers. -/
import Derived.Test.YtldjmphflgecjacDoorWalkW
import Derived.Test.YtldjmphflgecjacDoorPutP
import Derived.Test.YtldjmphflgecjacDoorRegH
namespace Go.Proofs.YtldjmphflgecjacDoor
open Go.RowKit
set_option linter.unusedVariables false

theorem bitAt_bt (x : Int) (h : U x) (i : Nat) : bitAt x i = if bt x i = true then 1 else 0 := by
  have e1 : ∀ i, i < 64 → ∀ (p o : Bool), ((if i = 0 then p else o) && bt 1 i) = bt (if p = true then 1 else 0) i := by decide +kernel
  unfold bitAt
  have e : ∀ y : Int, bits .and .u64 y 1 = if bt y 0 = true then 1 else 0 := by
    intro y
    refine bt_ext _ _ (U_bits _ _ _) (by split <;> (constructor <;> decide)) fun j hj => ?_
    rw [bt_and, ← e1 j hj (bt y 0) (bt y j)]
    by_cases h0 : j = 0
    · subst h0; rfl
    · rw [if_neg h0]
  rw [e, bt_div x h, Nat.zero_add]

theorem lit64 : ∀ i, i < 64 → bt 64 i = decide (i = 6) := by decide +kernel

theorem lit128 : ∀ i, i < 64 → bt 128 i = decide (i = 7) := by decide +kernel

theorem want_bt (e kind : Int) (i : Nat) (hi : i < 64) : bt (wantV e kind) i = (bt e i || decide (i = 6) || ((kind == 3) && decide (i = 7))) := by
  unfold wantV
  cases (kind == 3) with
  | true => rw [if_pos rfl, bt_or, bt_or, lit64 i hi, lit128 i hi, Bool.true_and]
  | false => rw [if_neg (by decide), bt_or, lit64 i hi, Bool.false_and, Bool.or_false]

theorem want_bit (e kind : Int) (h : U e) (i : Nat) (hi : i < 64) (h6 : i ≠ 6) (h7 : i ≠ 7) : bitAt (wantV e kind) i = bitAt e i := by
  rw [bitAt_bt _ (U_want e kind), bitAt_bt _ h, want_bt e kind i hi]
  simp [h6, h7]

theorem want_div (e kind : Int) (h : U e) (k : Nat) (hk : 8 ≤ k) : wantV e kind / 2 ^ k = e / 2 ^ k := by
  refine bt_ext _ _ (U_div _ (U_want e kind) k) (U_div _ h k) fun i hi => ?_
  rw [bt_div _ (U_want e kind), bt_div _ h]
  by_cases h64 : i + k < 64
  · rw [want_bt e kind _ h64]
    have h6 : ¬ i + k = 6 := by omega
    have h7 : ¬ i + k = 7 := by omega
    simp [h6, h7]
  · rw [bt_high _ _ (by omega), bt_high _ _ (by omega)]

theorem want_want (e kind : Int) (h : U e) : wantV (wantV e kind) kind = wantV e kind := by
  refine bt_ext _ _ (U_want _ _) (U_want _ _) fun i hi => ?_
  rw [want_bt _ kind i hi, want_bt e kind i hi]
  cases bt e i <;> cases decide (i = 6) <;> cases ((kind == 3) && decide (i = 7)) <;> rfl

theorem low_bit (e : Int) (h : U e) : bits .and .u64 e 1 = bitAt e 0 := by
  unfold bitAt
  rw [Int.pow_zero, Int.ediv_one]

theorem want_bad (e kind : Int) (h : U e) : badB (wantV e kind) = badB e := by
  unfold badB
  rw [low_bit _ (U_want e kind), low_bit _ h, want_bit e kind h 0 (by omega) (by omega) (by omega), want_bit e kind h 1 (by omega) (by omega) (by omega), want_bit e kind h 2 (by omega) (by omega) (by omega)]
  have := want_div e kind h 54 (by omega)
  rw [show ((2 : Int) ^ 54) = 18014398509481984 from rfl] at this
  rw [this]

theorem want_ptr (e kind : Int) (h : U e) : ptrB (wantV e kind) = ptrB e := by
  unfold ptrB
  rw [want_bit e kind h 1 (by omega) (by omega) (by omega), want_bit e kind h 3 (by omega) (by omega) (by omega)]

theorem want_frame (e kind : Int) (h : U e) : frameV (wantV e kind) = frameV e := by
  unfold frameV
  have := want_div e kind h 10 (by omega)
  rw [show ((2 : Int) ^ 10) = 1024 from rfl] at this
  rw [this]

theorem pageC_ne (k : Int) : pageC k ≠ 0 := by unfold pageC; split <;> (try split) <;> decide

theorem faultC_ne (k : Int) : faultC k ≠ 0 := by unfold faultC; split <;> (try split) <;> decide

/-- A leaf that leads: what it comes to. -/
theorem leaf_led (l : List Int) (p va kind e x : Int) (lv : Nat) (h : (leafV l p va kind e x lv).code = 0) :
    offB e lv = false ∧ noKind l kind e = false ∧ noPriv l p kind e = false ∧ (((wantV e kind != e) = true ∧ permRest l 1 x (lastOf x 8) 3 4 0 = true ∧ leafV l p va kind e x lv = ⟨leadV e va lv, 0, true, x, wantV e kind⟩) ∨ ((wantV e kind != e) = false ∧ leafV l p va kind e x lv = ⟨leadV e va lv, 0, false, 0, 0⟩)) := by
  unfold leafV at h ⊢
  cases h1 : offB e lv with
  | true => rw [h1, if_pos rfl] at h; exact absurd h (pageC_ne kind)
  | false =>
    rw [h1, if_neg (by decide)] at h
    cases h2 : noKind l kind e with
    | true => rw [h2, if_pos rfl] at h; exact absurd h (pageC_ne kind)
    | false =>
      rw [h2, if_neg (by decide)] at h
      cases h3 : noPriv l p kind e with
      | true => rw [h3, if_pos rfl] at h; exact absurd h (pageC_ne kind)
      | false =>
        rw [h3, if_neg (by decide)] at h
        refine ⟨rfl, rfl, rfl, ?_⟩
        cases h4 : (wantV e kind != e) with
        | true =>
          rw [h4, if_pos rfl] at h
          cases h5 : permRest l 1 x (lastOf x 8) 3 4 0 with
          | true => exact .inl ⟨rfl, rfl, rfl⟩
          | false => rw [h5, if_neg (by decide)] at h; exact absurd h (faultC_ne kind)
        | false => exact .inr ⟨rfl, rfl⟩

/-- .. and what its marked entry comes to. -/
theorem leaf_again (l : List Int) (p va kind e x : Int) (lv : Nat) (he : U e) (h : (leafV l p va kind e x lv).code = 0) : leafV l p va kind (wantV e kind) x lv = ⟨leadV e va lv, 0, false, 0, 0⟩ := by
  obtain ⟨h1, h2, h3, _⟩ := leaf_led l p va kind e x lv h
  have e1 : offB (wantV e kind) lv = false := by unfold offB at h1 ⊢; rw [want_frame e kind he]; exact h1
  have e2 : noKind l kind (wantV e kind) = false := by
    unfold noKind at h2 ⊢
    rw [want_bit e kind he 1 (by omega) (by omega) (by omega), want_bit e kind he 2 (by omega) (by omega) (by omega), want_bit e kind he 3 (by omega) (by omega) (by omega)]
    exact h2
  have e3 : noPriv l p kind (wantV e kind) = false := by
    unfold noPriv at h3 ⊢
    rw [want_bit e kind he 4 (by omega) (by omega) (by omega)]
    exact h3
  have e4 : (wantV (wantV e kind) kind != wantV e kind) = false := by rw [want_want e kind he]; simp
  have e5 : leadV (wantV e kind) va lv = leadV e va lv := by unfold leadV; rw [want_frame e kind he]
  unfold leafV
  rw [e1, e2, e3, e4, e5]
  rfl

theorem pteU (zs : List Int) (hz : ∀ i, 0 ≤ zs.getD i 0 ∧ zs.getD i 0 ≤ 255) (x : Int) : U (pteV zs x) := le_bd8 zs hz 8 _ (by omega)

theorem pte8 (T va : Int) (lv : Nat) (hT : T % 8 = 0) : pteAt T va lv % 8 = 0 := by
  unfold pteAt
  generalize bits .and .u64 (va / 2 ^ (12 + 9 * lv)) 511 = z
  rw [IntKind.wrap_u64, IntKind.wrap_u64]
  omega

theorem table8 (z : Int) : IntKind.u64.wrap (z * 4096) % 8 = 0 := by rw [IntKind.wrap_u64]; omega

theorem pte_back (zs : List Int) (n : Nat) (hz : zs.length = n) (x v : Int) (hx : okB n x 8 = true) (hv : U v) : pteV (put zs (x - 2147483648).toNat v 8) x = v := by
  have h := okB_at hx
  unfold pteV
  rw [le_put zs _ 8 v (by omega)]
  have := hv.1
  have := hv.2
  omega

theorem pte_off (zs : List Int) (n : Nat) (x y v : Int) (hx : okB n x 8 = true) (hy : okB n y 8 = true) (hx8 : x % 8 = 0) (hy8 : y % 8 = 0) (hne : x ≠ y) : pteV (put zs (x - 2147483648).toNat v 8) y = pteV zs y := by
  have h := okB_at hx
  have h2 := okB_at hy
  unfold pteV
  exact le_put_off zs _ _ 8 v (by omega)

/-- A walk that leads and marks: its entry lies in the memory, and over the memory that it leaves it leads to the same place and marks nothing. -/
theorem walkL_hit (zs : List Int) (n : Nat) (hz : zs.length = n) (hb : ∀ i, 0 ≤ zs.getD i 0 ∧ zs.getD i 0 ≤ 255) (l : List Int) (p va kind : Int) : ∀ lv T, T % 8 = 0 → (walkL zs n l p va kind lv T).code = 0 → (walkL zs n l p va kind lv T).marked = true →
    okB n (walkL zs n l p va kind lv T).at_ 8 = true ∧ (walkL zs n l p va kind lv T).at_ % 8 = 0 ∧ ptrB (pteV zs (walkL zs n l p va kind lv T).at_) = false ∧
    walkL (put zs ((walkL zs n l p va kind lv T).at_ - 2147483648).toNat (walkL zs n l p va kind lv T).entry 8) n l p va kind lv T = ⟨(walkL zs n l p va kind lv T).addr, 0, false, 0, 0⟩ := by
  intro lv
  induction lv with
  | zero =>
    intro T hT hc hm
    have E := walkL_step zs n l p va kind 0 T
    have hX8 := pte8 T va 0 hT
    have hU := pteU zs hb (pteAt T va 0)
    generalize hW : walkL zs n l p va kind 0 T = W at *
    cases h1 : okB n (pteAt T va 0) 8 with
    | false => rw [h1, if_neg (by decide)] at E; subst E; exact absurd hc (faultC_ne kind)
    | true =>
      rw [h1, if_pos rfl] at E
      cases h2 : permRest l 1 (pteAt T va 0) (lastOf (pteAt T va 0) 8) 2 4 0 with
      | false => rw [h2, if_neg (by decide)] at E; subst E; exact absurd hc (faultC_ne kind)
      | true =>
        rw [h2, if_pos rfl] at E
        cases h3 : badB (pteV zs (pteAt T va 0)) with
        | true => rw [h3, if_pos rfl] at E; subst E; exact absurd hc (pageC_ne kind)
        | false =>
          rw [h3, if_neg (by decide)] at E
          cases h4 : ptrB (pteV zs (pteAt T va 0)) with
          | true =>
            have hst : stopB (pteV zs (pteAt T va 0)) 0 = true := rfl
            rw [h4, if_pos rfl, hst, if_pos rfl] at E; subst E; exact absurd hc (pageC_ne kind)
          | false =>
            rw [h4, if_neg (by decide)] at E
            rw [E] at hc hm
            obtain ⟨_, _, _, ⟨_, _, hL⟩ | ⟨_, hL⟩⟩ := leaf_led _ _ _ _ _ _ _ hc
            · rw [E, hL]
              refine ⟨h1, hX8, h4, ?_⟩
              rw [walkL_step, h1, if_pos rfl, h2, if_pos rfl, pte_back zs n hz _ _ h1 (U_want _ _), want_bad _ kind hU, h3, if_neg (by decide), want_ptr _ kind hU, h4, if_neg (by decide)]
              exact leaf_again _ _ _ _ _ _ _ hU hc
            · rw [hL] at hm; cases hm
  | succ lv ih =>
    intro T hT hc hm
    have E := walkL_step zs n l p va kind (lv + 1) T
    have hX8 := pte8 T va (lv + 1) hT
    have hU := pteU zs hb (pteAt T va (lv + 1))
    rw [show lv + 1 - 1 = lv from rfl] at E
    generalize hW : walkL zs n l p va kind (lv + 1) T = W at *
    cases h1 : okB n (pteAt T va (lv + 1)) 8 with
    | false => rw [h1, if_neg (by decide)] at E; subst E; exact absurd hc (faultC_ne kind)
    | true =>
      rw [h1, if_pos rfl] at E
      cases h2 : permRest l 1 (pteAt T va (lv + 1)) (lastOf (pteAt T va (lv + 1)) 8) 2 4 0 with
      | false => rw [h2, if_neg (by decide)] at E; subst E; exact absurd hc (faultC_ne kind)
      | true =>
        rw [h2, if_pos rfl] at E
        cases h3 : badB (pteV zs (pteAt T va (lv + 1))) with
        | true => rw [h3, if_pos rfl] at E; subst E; exact absurd hc (pageC_ne kind)
        | false =>
          rw [h3, if_neg (by decide)] at E
          cases h4 : ptrB (pteV zs (pteAt T va (lv + 1))) with
          | true =>
            rw [h4, if_pos rfl] at E
            cases h5 : stopB (pteV zs (pteAt T va (lv + 1))) (lv + 1) with
            | true => rw [h5, if_pos rfl] at E; subst E; exact absurd hc (pageC_ne kind)
            | false =>
              rw [h5, if_neg (by decide)] at E
              rw [E] at hc hm
              obtain ⟨i1, i2, i3, i4⟩ := ih _ (table8 _) hc hm
              rw [E]
              refine ⟨i1, i2, i3, ?_⟩
              have hne : (walkL zs n l p va kind lv (IntKind.u64.wrap (frameV (pteV zs (pteAt T va (lv + 1))) * 4096))).at_ ≠ pteAt T va (lv + 1) := by
                intro e
                rw [e, h4] at i3
                cases i3
              rw [walkL_step _ _ _ _ _ _ (lv + 1), h1, if_pos rfl, h2, if_pos rfl, pte_off zs n _ _ _ i1 h1 i2 hX8 hne, h3, if_neg (by decide), h4, if_pos rfl, h5, if_neg (by decide)]
              exact i4
          | false =>
            rw [h4, if_neg (by decide)] at E
            rw [E] at hc hm
            obtain ⟨_, _, _, ⟨_, _, hL⟩ | ⟨_, hL⟩⟩ := leaf_led _ _ _ _ _ _ _ hc
            · rw [E, hL]
              refine ⟨h1, hX8, h4, ?_⟩
              rw [walkL_step, h1, if_pos rfl, h2, if_pos rfl, pte_back zs n hz _ _ h1 (U_want _ _), want_bad _ kind hU, h3, if_neg (by decide), want_ptr _ kind hU, h4, if_neg (by decide)]
              exact leaf_again _ _ _ _ _ _ _ hU hc
            · rw [hL] at hm; cases hm

theorem pageF_no (k : Int) : (pageF k).addr = 0 ∧ (pageF k).marked = false := ⟨rfl, rfl⟩

/-- What a walk comes to: it leads by an entry, or faults and marks nothing. -/
theorem walkL_ends (zs : List Int) (n : Nat) (l : List Int) (p va kind : Int) : ∀ lv T, lv ≤ 2 →
    ((walkL zs n l p va kind lv T).code = 0 ∧ (∃ e k, k ≤ 2 ∧ (walkL zs n l p va kind lv T).addr = leadV e va k) ∧ ((walkL zs n l p va kind lv T).marked = false → walkL zs n l p va kind lv T = ⟨(walkL zs n l p va kind lv T).addr, 0, false, 0, 0⟩)) ∨
    ((walkL zs n l p va kind lv T).code ≠ 0 ∧ (walkL zs n l p va kind lv T).addr = 0 ∧ (walkL zs n l p va kind lv T).marked = false) := by
  have leaf : ∀ e x k, k ≤ 2 → ((leafV l p va kind e x k).code = 0 ∧ (∃ e' k', k' ≤ 2 ∧ (leafV l p va kind e x k).addr = leadV e' va k') ∧ ((leafV l p va kind e x k).marked = false → leafV l p va kind e x k = ⟨(leafV l p va kind e x k).addr, 0, false, 0, 0⟩)) ∨ ((leafV l p va kind e x k).code ≠ 0 ∧ (leafV l p va kind e x k).addr = 0 ∧ (leafV l p va kind e x k).marked = false) := by
    intro e x k hk
    by_cases hc : (leafV l p va kind e x k).code = 0
    · obtain ⟨_, _, _, ⟨_, _, hL⟩ | ⟨_, hL⟩⟩ := leaf_led _ _ _ _ _ _ _ hc
      · rw [hL]; exact .inl ⟨rfl, ⟨e, k, hk, rfl⟩, fun h => by cases h⟩
      · rw [hL]; exact .inl ⟨rfl, ⟨e, k, hk, rfl⟩, fun _ => rfl⟩
    · refine .inr ⟨hc, ?_⟩
      unfold leafV at hc ⊢
      split
      · exact ⟨rfl, rfl⟩
      · rename_i h1
        rw [if_neg h1] at hc
        split
        · exact ⟨rfl, rfl⟩
        · rename_i h2
          rw [if_neg h2] at hc
          split
          · exact ⟨rfl, rfl⟩
          · rename_i h3
            rw [if_neg h3] at hc
            split
            · rename_i h4
              rw [if_pos h4] at hc
              split
              · rename_i h5
                rw [if_pos h5] at hc
                exact absurd rfl hc
              · exact ⟨rfl, rfl⟩
            · rename_i h4
              rw [if_neg h4] at hc
              exact absurd rfl hc
  intro lv
  induction lv with
  | zero =>
    intro T _
    rw [walkL]
    split
    · split
      · split
        · exact .inr ⟨pageC_ne kind, rfl, rfl⟩
        · split
          · exact .inr ⟨pageC_ne kind, rfl, rfl⟩
          · exact leaf _ _ _ (by omega)
      · exact .inr ⟨faultC_ne kind, rfl, rfl⟩
    · exact .inr ⟨faultC_ne kind, rfl, rfl⟩
  | succ lv ih =>
    intro T hlv
    rw [walkL]
    split
    · split
      · split
        · exact .inr ⟨pageC_ne kind, rfl, rfl⟩
        · split
          · split
            · exact .inr ⟨pageC_ne kind, rfl, rfl⟩
            · exact ih _ (by omega)
          · exact leaf _ _ _ (by omega)
      · exact .inr ⟨faultC_ne kind, rfl, rfl⟩
    · exact .inr ⟨faultC_ne kind, rfl, rfl⟩

theorem lit4095 : ∀ i, i < 64 → bt 4095 i = decide (i < 12) := by decide +kernel

theorem lead_low (e va : Int) (k : Nat) (hk : k ≤ 2) : bits .and .u64 (leadV e va k) 4095 = bits .and .u64 va 4095 := by
  refine bt_ext _ _ (U_bits _ _ _) (U_bits _ _ _) fun i hi => ?_
  unfold leadV lowM
  rw [bt_and, bt_and, bt_or, bt_andNot _ _ _ hi, bt_and, bt_mask _ (by omega) i hi, lit4095 i hi]
  by_cases h : i < 12
  · have h2 : i < 12 + 9 * k := by omega
    simp [h, h2]
  · simp [h]

/-- A walk that leads leads again, to the same place, and marks nothing more; one that faults marks nothing. -/
theorem walk_again (zs : List Int) (n : Nat) (hz : zs.length = n) (hb : ∀ i, 0 ≤ zs.getD i 0 ∧ zs.getD i 0 ≤ 255) (l : List Int) (p va kind : Int) :
    ((walkV zs n l p va kind).code = 0 ∧ walkV (markB zs (walkV zs n l p va kind)) n l p va kind = ⟨(walkV zs n l p va kind).addr, 0, false, 0, 0⟩ ∧ bits .and .u64 (walkV zs n l p va kind).addr 4095 = bits .and .u64 va 4095) ∨
    ((walkV zs n l p va kind).code ≠ 0 ∧ (walkV zs n l p va kind).addr = 0 ∧ (walkV zs n l p va kind).marked = false) := by
  have E : ∀ ys, walkV ys n l p va kind = if ((p == 3) || (l.getD 15 0 / 1152921504606846976 == 0)) = true then ⟨va, 0, false, 0, 0⟩ else if (widen 39 va != va) = true then pageF kind else walkL ys n l p va kind 2 (topT l) := fun ys => rfl
  rw [E zs]
  cases h1 : ((p == 3) || (l.getD 15 0 / 1152921504606846976 == 0)) with
  | true =>
    rw [if_pos rfl]
    refine .inl ⟨rfl, ?_, rfl⟩
    rw [E, h1, if_pos rfl]
  | false =>
    rw [if_neg (by decide)]
    cases h2 : (widen 39 va != va) with
    | true => rw [if_pos rfl]; exact .inr ⟨pageC_ne kind, rfl, rfl⟩
    | false =>
      rw [if_neg (by decide)]
      rcases walkL_ends zs n l p va kind 2 (topT l) (by omega) with ⟨c0, ⟨e, k, hk, ha⟩, hpl⟩ | h
      · refine .inl ⟨c0, ?_, by rw [ha]; exact lead_low e va k hk⟩
        rw [E, h1, if_neg (by decide), h2, if_neg (by decide)]
        cases hm : (walkL zs n l p va kind 2 (topT l)).marked with
        | true =>
          have hT : topT l % 8 = 0 := table8 _
          obtain ⟨_, _, _, i4⟩ := walkL_hit zs n hz hb l p va kind 2 (topT l) hT c0 hm
          unfold markB
          rw [hm, if_pos rfl]
          exact i4
        | false =>
          unfold markB
          rw [hm, if_neg (by decide)]
          exact hpl hm
      · exact .inr h

end Go.Proofs.YtldjmphflgecjacDoor
