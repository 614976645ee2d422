/- Contracts of the helpers that the laws call: toByteS lays a copy in new memory, eqByteS says whether two lists of bytes are the same. -/
import Derived.Test.YtembleeoilbeaafProg
import Derived.Test.YtembleeoilbeaafPlain
import Derived.WalkKit
namespace Go.Proofs.Ytembleeoilbeaaf
open Go.RowKit
set_option linter.unusedVariables false

/-- The cells that a slice value leads to hold these numbers, in memory that was there at w. -/
def Sl (k : IntKind) (w : World) (a : Option Addr) (zs : List Int) : Prop :=
  ∀ i, i < zs.length → ∃ b off, a = some ⟨b, off, none⟩ ∧ b < w.heap.size ∧ w.cell? ⟨b, off + i, none⟩ = some (.int k (zs.getD i 0))

theorem Sl.below {k : IntKind} {w w' : World} {a : Option Addr} {zs : List Int} (h : Sl k w a zs) (hb : Below w.heap.size w w') : Sl k w' a zs := by
  intro i hi
  obtain ⟨b, off, e, hlt, hc⟩ := h i hi
  exact ⟨b, off, e, Nat.lt_of_lt_of_le hlt hb.size, (hb.cell (by exact hlt)).trans hc⟩

/-- What a copying loop has laid by round k. -/
def Lk (k : IntKind) (zs : List Int) (n j : Nat) : List Value := (zs.take j).map (Value.int k) ++ List.replicate (n - j) (.int k 0)

theorem Lk_len (k : IntKind) (zs : List Int) (n j : Nat) (hz : zs.length = n) (hj : j ≤ n) : (Lk k zs n j).length = n := by
  simp [Lk]; omega

theorem Lk_zero (k : IntKind) (zs : List Int) (n : Nat) : Lk k zs n 0 = List.replicate n (.int k 0) := by simp [Lk]

theorem Lk_end (k : IntKind) (zs : List Int) (n : Nat) (hz : zs.length = n) : Lk k zs n n = zs.map (Value.int k) := by
  simp [Lk, ← hz]

theorem Lk_set (k : IntKind) (zs : List Int) (n j : Nat) (hz : zs.length = n) (hj : j < n) : (Lk k zs n j).set j (.int k (zs.getD j 0)) = Lk k zs n (j + 1) := by
  unfold Lk
  have h1 : zs.take (j + 1) = zs.take j ++ [zs.getD j 0] := by
    rw [List.take_succ_eq_append_getElem (by omega)]
    simp [List.getD, List.getElem?_eq_getElem (show j < zs.length by omega)]
  have h2 : n - j = (n - (j + 1)) + 1 := by omega
  rw [h1, h2, List.replicate_succ, List.set_append_right _ _ (by simp; omega)]
  have h3 : j - ((zs.take j).map (Value.int k)).length = 0 := by simp; omega
  rw [h3]
  simp

theorem Try.info5 : (Try.prog.info? 5).map (fun i => (i.zero, i.size, i.bytes)) = some (some (.int .u8 0), 1, 1) := by kernel_rfl

set_option maxHeartbeats 400000 in
theorem toByteS_any (a : Option Addr) (n cap : Nat) (zs : List Int) (w : World) (hz : zs.length = n) (hn : n ≤ 1048576) (hs : Sl .u8 w a zs) :
    Calls Try.prog 9 #[.slice a n cap] w fun e w' => e = .returned (.slice (some ⟨w.heap.size, 0, none⟩) n n) ∧
      w'.ownsRow w.heap.size 5 1 (.slice (some ⟨w.heap.size, 0, none⟩) n n) n (zs.map (Value.int .u8)) ∧ Below w.heap.size w w' := by
  obtain ⟨i0, hi, hz0, hz1, hz2⟩ := info_parts Try.info5
  have hb2 : i0.bytes * n ≤ 281474976710656 := by rw [hz2]; omega
  have hb3 : n ≤ maxLen := by unfold maxLen; omega
  have HZ : Hid (zs.length = n) := hz
  clear hz hz2
  go_enter Try.func9, Try.ntmps9
  go_wp2_with (at_make; refine wpList_make_full _ rfl (.tmp 6) (.tmp 6) 22 rfl w.heap.size 5 i0 (.int .u8 0) 1 Try.underlying22 hi hz0 hz1 .i64 .i64 _ _ n rfl rfl rfl rfl hb2 hb3 (Nat.le_refl _) ?_; intro w1 hown hgrow)
  have hown0 : w1.ownsRow w.heap.size 5 1 (.slice (some ⟨w.heap.size, 0, none⟩) n n) n (Lk .u8 zs n 0) := by
    rw [Lk_zero, ← toList_madeCells_one]; simpa [Value.cells] using hown
  have hb1 : Below w.heap.size w w1 := (Below.refl _ _).grown hgrow (Nat.le_refl _) (by intro k h; cases h)
  clear hown hgrow
  go_loopw [4] (fun i wr => ∃ k : Nat, k ≤ n ∧ i = .int .i64 k ∧ wr.ownsRow w.heap.size 5 1 (.slice (some ⟨w.heap.size, 0, none⟩) n n) n (Lk .u8 zs n k) ∧ Below w.heap.size w wr)
    (fun i _ => n - (intOf i).toNat)
  case atStart => exact ⟨0, Nat.zero_le _, rfl, hown0, hb1⟩
  case round =>
    obtain ⟨k, hk, rfl, hown, hbel⟩ := hrel
    clear hown0 hb1
    by_cases hlt : k < n
    · obtain ⟨b, off, rfl, hb, hc⟩ := hs k (by have := HZ.out; omega)
      have hcx : wr.cell? ⟨b, off + k, none⟩ = some (.int .u8 (zs.getD k 0)) := (hbel.cell (by exact hb)).trans hc
      have hfr : wr.frozen? ⟨w.heap.size, k, none⟩ = false := hown.frozenAt k
      have hst := (hown.stored k (.int .u8 (zs.getD k 0))).1
      have hstb : Below w.heap.size w (wr.setCell ⟨w.heap.size, k, none⟩ (.int .u8 (zs.getD k 0))) := hbel.setCell (Nat.le_refl _) _
      obtain ⟨v3, hv3⟩ : ∃ v, wr.cell? ⟨w.heap.size, k, none⟩ = some v := by
        rw [hown.cellAt k (by omega)]
        exact ⟨_, List.getElem?_eq_getElem (by rw [Lk_len _ _ _ _ HZ.out hk]; exact hlt)⟩
      rw [Lk_set _ _ _ _ HZ.out hlt] at hst
      clear hc hown
      go_wp2
      go_roundw
      case rel => exact ⟨k + 1, by omega, by go_num, hst, hstb⟩
      case measure => simp [intOf]; omega
    · have : k = n := by omega
      subst this
      rw [Lk_end _ _ _ HZ.out] at hown
      go_wp2
      go_ret
      exact ⟨rfl, hown, hbel⟩

theorem ownsRow_below {w w' : World} {base : Nat} {e : TypeId} {size : Nat} {v : Value} {n : Nat} {xs : List Value} (h : w.ownsRow base e size v n xs) (hb : Below w.heap.size w w') : w'.ownsRow base e size v n xs := by
  obtain ⟨h1, h2⟩ := h
  refine ⟨h1, ?_⟩
  rcases h2 with h2 | ⟨g, cap, cur, hv, hg, hh, r⟩
  · exact Or.inl h2
  · have hlt : g < w.heap.size := by
      rcases Nat.lt_or_ge g w.heap.size with h | h
      · exact h
      · rw [Array.getElem?_eq_none h] at hh; cases hh
    exact Or.inr ⟨g, cap, cur, hv, hg, by rw [hb.block g hlt]; exact hh, r⟩

theorem own_lt {w : World} {base : Nat} {e : TypeId} {size g n cap : Nat} {xs : List Value} (h : w.ownsRow base e size (.slice (some ⟨g, 0, none⟩) n cap) n xs) : g < w.heap.size := by
  obtain ⟨h1, h2⟩ := h
  rcases h2 with ⟨h2, _⟩ | ⟨g', cap', cur, hv, hg, hh, r⟩
  · cases h2
  · simp only [Value.slice.injEq, Option.some.injEq, Addr.mk.injEq, and_true, true_and] at hv
    obtain ⟨rfl, rfl⟩ := hv
    rcases Nat.lt_or_ge g w.heap.size with h | h
    · exact h
    · rw [Array.getElem?_eq_none h] at hh; cases hh

theorem own_sl {k : IntKind} {w : World} {base : Nat} {e : TypeId} {g n cap : Nat} {zs : List Int} (h : w.ownsRow base e 1 (.slice (some ⟨g, 0, none⟩) n cap) n (zs.map (Value.int k))) : Sl k w (some ⟨g, 0, none⟩) zs := by
  intro i hi
  have hl : n = zs.length := by have := h.1; simp at this; omega
  refine ⟨g, 0, rfl, own_lt h, ?_⟩
  rw [Nat.zero_add, h.cellAt i (by omega)]
  simp [List.getElem?_map, List.getElem?_eq_getElem hi, List.getD]

theorem own_sl' {k : IntKind} {w : World} {base : Nat} {e : TypeId} {a : Option Addr} {n cap : Nat} {zs : List Int} (h : w.ownsRow base e 1 (.slice a n cap) n (zs.map (Value.int k))) : Sl k w a zs := by
  rcases h.2 with ⟨h2, h3⟩ | ⟨g', cap', cur, hv, hg, hh, r⟩
  · intro i hi
    have := h.1
    simp at this
    omega
  · simp only [Value.slice.injEq, true_and] at hv
    obtain ⟨rfl, rfl⟩ := hv
    exact own_sl h

theorem take_next (xs ys : List Int) (k n : Nat) (hx : xs.length = n) (hy : ys.length = n) (hk : k < n) (h : xs.take k = ys.take k) (he : xs.getD k 0 = ys.getD k 0) : xs.take (k + 1) = ys.take (k + 1) := by
  rw [List.take_succ_eq_append_getElem (by omega), List.take_succ_eq_append_getElem (by omega), h]
  have e1 : xs.getD k 0 = xs[k] := by simp [List.getD, List.getElem?_eq_getElem (show k < xs.length by omega)]
  have e2 : ys.getD k 0 = ys[k] := by simp [List.getD, List.getElem?_eq_getElem (show k < ys.length by omega)]
  rw [← e1, ← e2, he]

set_option maxHeartbeats 400000 in
theorem eqByteS_any (a b : Option Addr) (n m ca cb : Nat) (xs ys : List Int) (w : World) (hx : xs.length = n) (hy : ys.length = m) (hn : n ≤ 1048576) (hm : m ≤ 1048576) (hs : Sl .u8 w a xs) (ht : Sl .u8 w b ys) :
    Calls Try.prog 11 #[.slice a n ca, .slice b m cb] w fun e w' => e = .returned (.bool (decide (xs = ys))) ∧ Below w.heap.size w w' := by
  by_cases hnm : n = m
  · subst hnm
    have HX : Hid (xs.length = n) := hx
    have HY : Hid (ys.length = n) := hy
    have hnn : ((n : Int) != (n : Int)) = false := by simp
    clear hx hy
    go_enter Try.func11, Try.ntmps11
    go_wp2
    go_loopw [5] (fun i wr => ∃ k : Nat, k ≤ n ∧ i = .int .i64 k ∧ Hid (xs.take k = ys.take k) ∧ Below w.heap.size w wr)
      (fun i _ => n - (intOf i).toNat)
    case atStart => exact ⟨0, Nat.zero_le _, rfl, (rfl : xs.take 0 = ys.take 0), Below.refl _ _⟩
    case round =>
      obtain ⟨k, hk, rfl, heq, hbel⟩ := hrel
      by_cases hlt : k < n
      · obtain ⟨b1, o1, rfl, hb1, hc1⟩ := hs k (by have := HX.out; omega)
        obtain ⟨b2, o2, rfl, hb2, hc2⟩ := ht k (by have := HY.out; omega)
        obtain ⟨x, hxx⟩ : ∃ x, x = xs.getD k 0 := ⟨_, rfl⟩
        obtain ⟨y, hyy⟩ : ∃ y, y = ys.getD k 0 := ⟨_, rfl⟩
        have c1 : wr.cell? ⟨b1, o1 + k, none⟩ = some (.int .u8 x) := by rw [hxx]; exact (hbel.cell (by exact hb1)).trans hc1
        have c2 : wr.cell? ⟨b2, o2 + k, none⟩ = some (.int .u8 y) := by rw [hyy]; exact (hbel.cell (by exact hb2)).trans hc2
        have XX : Hid (x = xs.getD k 0) := hxx
        have YY : Hid (y = ys.getD k 0) := hyy
        clear hc1 hc2 hxx hyy
        by_cases hxy : x = y
        · subst hxy
          have R := take_next xs ys k n HX.out HY.out hlt heq.out (XX.out.symm.trans YY.out)
          have RR : Hid (xs.take (k + 1) = ys.take (k + 1)) := R
          clear R
          have hne : (x != x) = false := by simp
          go_wp2
          go_region
          all_goals go_wp2
          all_goals go_roundw
          case rel => exact ⟨k + 1, by omega, by go_num, RR, hbel.drew⟩
          case measure => simp [intOf]; omega
        · have F : Hid (decide (xs = ys) = false) := by
            show decide (xs = ys) = false
            rw [decide_eq_false_iff_not]
            intro h; apply hxy; rw [XX.out, YY.out, h]
          have hne : (x != y) = true := by simpa using hxy
          clear hxy
          go_wp2
          go_region
          all_goals go_wp2
          all_goals go_ret
          all_goals exact ⟨by rw [F.out]; rfl, hbel.drew⟩
      · have hkn : k = n := by omega
        subst hkn
        have F : Hid (decide (xs = ys) = true) := by
          show decide (xs = ys) = true
          rw [decide_eq_true_eq]
          have h := heq.out
          rw [List.take_of_length_le (by have := HX.out; omega), List.take_of_length_le (by have := HY.out; omega)] at h
          exact h
        go_wp2
        go_ret
        exact ⟨by rw [F.out]; rfl, hbel⟩
  · have F : Hid (decide (xs = ys) = false) := by
      show decide (xs = ys) = false
      rw [decide_eq_false_iff_not]
      intro h; apply hnm; rw [← hx, ← hy, h]
    have hne : ((n : Int) != (m : Int)) = true := by simp; omega
    clear hx hy
    go_enter Try.func11, Try.ntmps11
    go_wp2
    go_ret
    exact ⟨by rw [F.out]; rfl, Below.refl _ _⟩

def IsRow (k : IntKind) (w : World) (a : Option Addr) (len cap : Nat) (zs : List Int) : Prop :=
  (a = none ∧ len = 0 ∧ cap = 0 ∧ zs = []) ∨
  ∃ x, a = some x ∧ len ≤ cap ∧ cap ≤ maxLen ∧ zs.length = cap ∧ (∀ i, i < zs.length → w.cell? (x.add i) = some (.int k (zs.getD i 0))) ∧ ∀ n ∈ zs, (Lit.int k n).wf = true

/-- Of a slice that came in: its elements, where they lie, and that each fits its kind. -/
theorem IsRow.sl {k : IntKind} {w : World} {a : Option Addr} {len cap : Nat} {zs : List Int} (h : IsRow k w a len cap zs) :
    ∃ ys : List Int, ys.length = len ∧ Sl k w a ys ∧ (∀ y ∈ ys, (Lit.int k y).wf = true) ∧ len ≤ maxLen := by
  rcases h with ⟨rfl, rfl, rfl, rfl⟩ | ⟨x, rfl, hl, hm, hz, hcell, hwz⟩
  · exact ⟨[], rfl, fun i hi => absurd hi (by simp), by simp, by unfold maxLen; omega⟩
  · refine ⟨zs.take len, by simp; omega, ?_, fun y hy => hwz y (List.mem_of_mem_take hy), by omega⟩
    intro i hi
    simp only [List.length_take] at hi
    obtain ⟨b, off, spot⟩ := x
    have hspot : spot = none := by simpa [Addr.add] using World.cell?_spot (hcell 0 (by omega))
    subst hspot
    have ha : (⟨b, off, none⟩ : Addr).add i = ⟨b, off + i, none⟩ := by
      by_cases h0 : i = 0
      · subst h0; simp [Addr.add]
      · simp [Addr.add, h0]
    have hc := hcell i (by omega)
    rw [ha] at hc
    refine ⟨b, off, rfl, World.block_lt_of_cell? _ _ hc, ?_⟩
    have e : (zs.take len).getD i 0 = zs.getD i 0 := by simp [List.getD, show i < len by omega]
    rw [e]
    exact hc

theorem below_trans {w w1 w2 : World} (h : Below w.heap.size w w1) (k : Below w1.heap.size w1 w2) : Below w.heap.size w w2 :=
  h.trans (k.mono h.size)

theorem byte_bd {zs : List Int} (h : ∀ y ∈ zs, (Lit.int .u8 y).wf = true) (k : Nat) : 0 ≤ zs.getD k 0 ∧ zs.getD k 0 ≤ 255 := by
  by_cases hk : k < zs.length
  · have := h (zs.getD k 0) (by simp [List.getD, List.getElem?_eq_getElem hk])
    simpa [Lit.wf, IntKind.min, IntKind.max, IntKind.signed, IntKind.bits] using this
  · simp [List.getD, List.getElem?_eq_none (Nat.le_of_not_lt hk)]

theorem specRamOk_any (a : Option Addr) (n cap : Nat) (w : World) (hn : n ≤ 1048576) :
    Calls Try.prog 8 #[.slice a n cap] w fun e w' => e = .returned (.bool (ramOkB n)) ∧ w' = w := by
  by_cases h1 : 4096 ≤ n
  · by_cases h2 : n ≤ 65536
    · have d2 : decide ((n : Int) ≤ 65536) = true := by simp; omega
      by_cases h3 : n % 4096 = 0
      · have F : Hid (ramOkB n = true) := by show ramOkB n = true; simp [ramOkB, h1, h2, h3]
        have d3 : ((n : Int) % 4096 == 0) = true := by simp; omega
        go_enter Try.func8, Try.ntmps8
        go_wp2
        go_ret
        exact ⟨by rw [F.out]; rfl, rfl⟩
      · have F : Hid (ramOkB n = false) := by show ramOkB n = false; simp [ramOkB, h3]
        have d3 : ((n : Int) % 4096 == 0) = false := by simp; omega
        go_enter Try.func8, Try.ntmps8
        go_wp2
        go_ret
        exact ⟨by rw [F.out]; rfl, rfl⟩
    · have F : Hid (ramOkB n = false) := by show ramOkB n = false; simp [ramOkB, h2]
      have d2 : decide ((n : Int) ≤ 65536) = false := by simp; omega
      go_enter Try.func8, Try.ntmps8
      go_wp2
      go_ret
      exact ⟨by rw [F.out]; rfl, rfl⟩
  · have F : Hid (ramOkB n = false) := by show ramOkB n = false; simp [ramOkB, h1]
    have d1 : decide ((4096 : Int) ≤ n) = false := by simp; omega
    go_enter Try.func8, Try.ntmps8
    go_wp2
    go_ret
    exact ⟨by rw [F.out]; rfl, rfl⟩

theorem implRamOk_any (a : Option Addr) (n cap : Nat) (w : World) (hn : n ≤ 1048576) :
    Calls Try.prog 10 #[.slice a n cap] w fun e w' => e = .returned (.bool (ramOkB n)) ∧ w' = w := by
  by_cases h1 : 4096 ≤ n
  · by_cases h2 : n ≤ 65536
    · have d2 : decide ((n : Int) ≤ 65536) = true := by simp; omega
      by_cases h3 : n % 4096 = 0
      · have F : Hid (ramOkB n = true) := by show ramOkB n = true; simp [ramOkB, h1, h2, h3]
        have d3 : ((n : Int) % 4096 == 0) = true := by simp; omega
        go_enter Try.func10, Try.ntmps10
        go_wp2
        go_ret
        exact ⟨by rw [F.out]; rfl, rfl⟩
      · have F : Hid (ramOkB n = false) := by show ramOkB n = false; simp [ramOkB, h3]
        have d3 : ((n : Int) % 4096 == 0) = false := by simp; omega
        go_enter Try.func10, Try.ntmps10
        go_wp2
        go_ret
        exact ⟨by rw [F.out]; rfl, rfl⟩
    · have F : Hid (ramOkB n = false) := by show ramOkB n = false; simp [ramOkB, h2]
      have d2 : decide ((n : Int) ≤ 65536) = false := by simp; omega
      go_enter Try.func10, Try.ntmps10
      go_wp2
      go_ret
      exact ⟨by rw [F.out]; rfl, rfl⟩
  · have F : Hid (ramOkB n = false) := by show ramOkB n = false; simp [ramOkB, h1]
    have d1 : decide ((4096 : Int) ≤ n) = false := by simp; omega
    go_enter Try.func10, Try.ntmps10
    go_wp2
    go_ret
    exact ⟨by rw [F.out]; rfl, rfl⟩

theorem map_set_u8 (zs : List Int) (i : Nat) (y : Int) : (zs.map (Value.int .u8)).set i (.int .u8 y) = (zs.set i y).map (Value.int .u8) := by
  rw [List.map_set]

set_option maxHeartbeats 400000 in
theorem markByteS_any (a : Option Addr) (n cap base : Nat) (k : Int) (xs : List Int) (w : World) (hn : n ≤ 1048576) (hk0 : 0 ≤ k) (hk1 : k ≤ 1099511627776)
    (hown : w.ownsRow base 5 1 (.slice a n cap) n (xs.map (Value.int .u8))) :
    Calls Try.prog 16 #[.slice a n cap, .int .i64 k] w fun e w' => e = .returned (.int .i64 (k + n)) ∧
      w'.ownsRow base 5 1 (.slice a n cap) n ((marks k n).map (Value.int .u8)) ∧ w.grownBy w' (Value.slice a n cap).ownBlock := by
  have HX : Hid (xs.length = n) := by show xs.length = n; have := hown.1; simpa using this
  rcases hown.2 with ⟨h2, h3⟩ | ⟨g, cap', cur, hv, hg, _⟩
  · simp only [Value.slice.injEq] at h2
    obtain ⟨rfl, rfl, rfl⟩ := h2
    have hx0 : xs = [] := List.eq_nil_of_length_eq_zero HX.out
    subst hx0
    go_enter Try.func16, Try.ntmps16
    go_wp2
    refine wp_loop_rounds 1 ?_
    rw [rounds_succ]
    go_wp2
    go_ret
    exact ⟨by simp, hown, ⟨rfl, rfl, rfl, Nat.le_refl _, fun _ _ _ => rfl⟩⟩
  · simp only [Value.slice.injEq, true_and] at hv
    obtain ⟨rfl, rfl⟩ := hv
    have hown0 : w.ownsRow base 5 1 (.slice (some ⟨g, 0, none⟩) n cap) n ((Mk xs k n 0).map (Value.int .u8)) := by rw [Mk_zero]; exact hown
    clear hown
    go_enter Try.func16, Try.ntmps16
    go_wp2
    go_loopw [1, 5] (fun c i wr => ∃ j : Nat, j ≤ n ∧ i = .int .i64 j ∧ c = .int .i64 (k + j) ∧ wr.ownsRow base 5 1 (.slice (some ⟨g, 0, none⟩) n cap) n ((Mk xs k n j).map (Value.int .u8)) ∧ w.grownBy wr (some g))
      (fun _ i _ => n - (intOf i).toNat)
    case atStart => exact ⟨0, Nat.zero_le _, rfl, by simp, hown0, ⟨rfl, rfl, rfl, Nat.le_refl _, fun _ _ _ => rfl⟩⟩
    case round =>
      obtain ⟨j, hj, rfl, rfl, hown, hgr⟩ := hrel
      clear hown0
      by_cases hlt : j < n
      · have hfr : wr.frozen? ⟨g, j, none⟩ = false := hown.frozenAt j
        have hst := hown.stored j (.int .u8 ((k + (j : Int)) % 256))
        obtain ⟨v3, hv3⟩ : ∃ v, wr.cell? ⟨g, j, none⟩ = some v := by
          rw [hown.cellAt j (by omega)]
          exact ⟨_, List.getElem?_eq_getElem (by rw [List.length_map, Mk_len _ _ _ _ HX.out hj]; exact hlt)⟩
        rw [map_set_u8, Mk_set _ _ _ _ HX.out hlt] at hst
        have hgr2 : w.grownBy (wr.setCell ⟨g, j, none⟩ (.int .u8 ((k + (j : Int)) % 256))) (some g) :=
          ⟨hst.2.os.trans hgr.os, hst.2.tape.trans hgr.tape, hst.2.output.trans hgr.output, Nat.le_trans hgr.size hst.2.size, fun b hb hne => (hst.2.block b (Nat.lt_of_lt_of_le hb hgr.size) hne).trans (hgr.block b hb hne)⟩
        have hst1 := hst.1
        clear hst hown
        go_wp2
        go_roundw
        case rel => exact ⟨j + 1, by omega, by go_num, by go_num, hst1, hgr2⟩
        case measure => simp [intOf]; omega
      · have : j = n := by omega
        subst this
        rw [Mk_end _ _ _ HX.out] at hown
        go_wp2
        go_ret
        exact ⟨rfl, hown, hgr⟩

/-- What was marked is held. -/
theorem heldByteS_any (a : Option Addr) (n cap : Nat) (k : Int) (w : World) (hn : n ≤ 1048576) (hk0 : 0 ≤ k) (hk1 : k ≤ 1099511627776)
    (hs : Sl .u8 w a (marks k n)) :
    Calls Try.prog 17 #[.slice a n cap, .int .i64 k] w fun e w' => e = .returned (.int .i64 (k + n)) ∧ w' = w := by
  go_enter Try.func17, Try.ntmps17
  go_wp2
  go_loop [1, 5] (fun c i => ∃ j : Nat, j ≤ n ∧ i = .int .i64 j ∧ c = .int .i64 (k + j)) (fun _ i => n - (intOf i).toNat)
  case atStart => exact ⟨0, Nat.zero_le _, rfl, by simp⟩
  case round =>
    obtain ⟨j, hj, rfl, rfl⟩ := hrel
    by_cases hlt : j < n
    · obtain ⟨b, off, rfl, hb, hc⟩ := hs j (by rw [marks_len]; exact hlt)
      rw [marks_get k n j hlt] at hc
      have hne : ((k + (j : Int)) % 256 != (k + (j : Int)) % 256) = false := by simp
      go_wp2
      go_round
      case rel => exact ⟨j + 1, by omega, by go_num, by go_num⟩
      case measure => simp [intOf]; omega
    · have : j = n := by omega
      subst this
      go_wp2
      go_ret
      exact ⟨rfl, rfl⟩

end Go.Proofs.Ytembleeoilbeaaf
