/- Memory stored into and loaded from: what the law over draws needs; strings out of bytes. -/
import Derived.Test.YtldjmphflgecjacDoorDrawM
import Derived.Test.YtldjmphflgecjacDoorPutP
import Derived.Test.YtldjmphflgecjacDoorDecC
import Derived.Laws.BytesArg
namespace Go.Proofs.YtldjmphflgecjacDoor
open Go.RowKit
set_option linter.unusedVariables false

set_option maxHeartbeats 400000 in
/-- A store that lies inside: the bytes are in memory of its own, with no room behind them. -/
theorem implStore_n (a : Option Addr) (n cap f m : Nat) (zs : List Int) (x : Int) (w : World) (hz : zs.length = n) (hn : n ≤ 1048576) (hs : Sl .u8 w a zs) (hok : okB n (2147483648 + (f : Int)) (m : Int) = true) (hx0 : 0 ≤ x) (hx1 : x ≤ 18446744073709551615) :
    Calls Tryd.prog 17 #[.slice a n cap, .int .u64 (2147483648 + (f : Int)), .int .i64 (m : Int), .int .u64 x] w fun e w' => e = .returned (.tuple #[.slice (some ⟨w.heap.size, 0, none⟩) n n, .bool true]) ∧
      w'.ownsRow w.heap.size 5 1 (.slice (some ⟨w.heap.size, 0, none⟩) n n) n ((put zs f x m).map (Value.int .u8)) ∧ Below w.heap.size w w' := by
  have HZ : Hid (zs.length = n) := hz
  obtain ⟨hr, hsz, hb1, hb2, hs1, hs2, hn1, hn2⟩ := okB_true hok
  have ha : 0 ≤ 2147483648 + (f : Int) := by omega
  have ha2 : 2147483648 + (f : Int) ≤ 18446744073709551615 := by omega
  clear hz
  have P2 : Hid (placeB n (2147483648 + (f : Int)) (m : Int) = f) := by
    show placeB n (2147483648 + (f : Int)) (m : Int) = f
    simp only [placeB, hok, if_true]
    omega
  obtain ⟨b, off, rfl, hblt, hc0⟩ := hs 0 (by have := HZ.out; omega)
  clear hc0
  obtain ⟨i0, hi, hz0, hz1, hz2⟩ := info_parts Tryd.info5
  have hsz5 : (Tryd.prog.info? 5).map (·.size) = some 1 := by rw [hi]; simp [hz1]
  have hb2' : i0.bytes * n ≤ 281474976710656 := by rw [hz2]; omega
  have hb3 : n ≤ maxLen := by unfold maxLen; omega
  go_enter Tryd.func17, Tryd.ntmps17
  go_wp2_with (first | (go_at_call 53; refine (place_any _ _ _ _ _ _ hn ha ha2).mono ?_; rw [P2.out]; rintro e w' ⟨rfl, hw'⟩; have hw2 := hw'.symm; subst hw2) | (at_make; refine wpList_make_full _ rfl (.tmp 24) (.tmp 24) 22 rfl w.heap.size 5 i0 (.int .u8 0) 1 Tryd.underlying22 hi hz0 hz1 .i64 .i64 _ _ n rfl rfl rfl rfl hb2' hb3 (Nat.le_refl _) ?_; intro w1 hown hgrow) | (refine wpList_copy_full rfl (.tmp 26) (.tmp 27) 22 rfl 5 Tryd.underlying22 hsz5 .u8 w.heap.size w.heap.size n n b off cap zs _ rfl rfl hown (hs.below ((Below.refl _ _).grown hgrow (Nat.le_refl _) (by intro k h; cases h))) HZ.out ?_; intro w2 hown2 hgrow2))
  have hbel2 : Below w.heap.size w w2 := Below.grown ((Below.refl _ _).grown hgrow (Nat.le_refl _) (by intro k h; cases h)) hgrow2 hgrow.size (by intro k h; cases h; exact Nat.le_refl _)
  clear hown hgrow hgrow2 hs
  go_loopw [30] (fun i wr => ∃ j : Nat, j ≤ m ∧ i = .int .i64 (j : Int) ∧ wr.ownsRow w.heap.size 5 1 (.slice (some ⟨w.heap.size, 0, none⟩) n n) n ((put zs f x j).map (Value.int .u8)) ∧ Below w.heap.size w wr)
    (fun i _ => m - (intOf i).toNat)
  case atStart => exact ⟨0, Nat.zero_le _, rfl, hown2, hbel2⟩
  case round =>
    obtain ⟨j, hj, rfl, hown1, hbel⟩ := hrel
    clear hown2 hbel2
    by_cases hlt : j < m
    · have hfr : wr.frozen? ⟨w.heap.size, f + j, none⟩ = false := hown1.frozenAt (f + j)
      have hst := (hown1.stored (f + j) (.int .u8 (x / 256 ^ j % 256))).1
      obtain ⟨v3, hv3⟩ : ∃ v, wr.cell? ⟨w.heap.size, f + j, none⟩ = some v := by
        rw [hown1.cellAt (f + j) (by omega)]
        exact ⟨_, List.getElem?_eq_getElem (by rw [List.length_map, put_len, HZ.out]; omega)⟩
      rw [map_set_u8] at hst
      have hst1 : (wr.setCell ⟨w.heap.size, f + j, none⟩ (.int .u8 (x / 256 ^ j % 256))).ownsRow w.heap.size 5 1 (.slice (some ⟨w.heap.size, 0, none⟩) n n) n ((put zs f x (j + 1)).map (Value.int .u8)) := hst
      have hst2 : Below w.heap.size w (wr.setCell ⟨w.heap.size, f + j, none⟩ (.int .u8 (x / 256 ^ j % 256))) := hbel.setCell (Nat.le_refl _) _
      have hy0 : 0 ≤ x / 256 ^ j := Int.ediv_nonneg hx0 (Int.le_of_lt (Int.pow_pos (by omega)))
      clear hst hown1
      rw [← pow_8] at hst1 hst2 hy0
      go_wp2
      go_roundw
      case rel => exact ⟨j + 1, by omega, by go_num, hst1, hst2⟩
      case measure => simp [intOf]; omega
    · have : j = m := by omega
      subst this
      go_wp2
      go_ret2
      exact ⟨rfl, hown1, hbel⟩

theorem widen_low (m : Nat) (h1 : 1 ≤ m) (h8 : m ≤ 8) (x : Int) : widen (8 * m) (x % 256 ^ m) = widen (8 * m) x := by
  unfold widen
  have e : IntKind.u64.wrap (x % 256 ^ m * 2 ^ (64 - 8 * m)) = IntKind.u64.wrap (x * 2 ^ (64 - 8 * m)) := by
    rw [IntKind.wrap_u64, IntKind.wrap_u64, ← pow_8]
    have e2 : (18446744073709551616 : Int) = 2 ^ (64 - 8 * m) * 2 ^ (8 * m) := by
      rw [← Int.pow_add, show (64 - 8 * m) + 8 * m = 64 from by omega]; rfl
    have hp : (0 : Int) < 2 ^ (64 - 8 * m) := Int.pow_pos (by omega)
    rw [e2, Int.mul_comm (x % 2 ^ (8 * m)), Int.mul_comm x, Int.mul_emod_mul_of_pos _ _ hp, Int.mul_emod_mul_of_pos _ _ hp, Int.emod_emod]
  rw [e]

/-- A string out of bytes that lie somewhere. -/
theorem conv_sl (a : Option Addr) (n c : Nat) (zs : List Int) (w : World) (hz : zs.length = n) (hs : Sl .u8 w a zs) :
    (convert 22 9 (.slice a n c)).run Tryd.prog w = .ok (.string (strOfNums zs)) w := by
  by_cases h0 : n = 0
  · subst h0
    have hz2 : zs = [] := List.eq_nil_of_length_eq_zero hz
    subst hz2
    rw [run_convert_bytes_string w 22 9 5 a 0 c Tryd.underlying22 Tryd.underlying5 Tryd.underlying9]
    cases a <;> simp [Conv.bytesToString, loadCells, strOfNums] <;> rfl
  · obtain ⟨b, off, rfl, _, _⟩ := hs 0 (by omega)
    refine run_convert_bytes_arg w 22 5 Tryd.underlying22 Tryd.underlying5 b off n c zs hz (fun i hi => ?_) 9 Tryd.underlying9
    obtain ⟨b', off', e, _, hc⟩ := hs i (by omega)
    simp only [Option.some.injEq, Addr.mk.injEq, and_true] at e
    obtain ⟨rfl, rfl⟩ := e
    exact hc

theorem Sl.dN {k : IntKind} {w : World} {a : Option Addr} {zs : List Int} (h : Sl k w a zs) (m : Nat) : Sl k (w.drewN m) a zs := h

/-- The first bytes, and those from a place on. -/
theorem Sl.first {w : World} {b off : Nat} {zs : List Int} (h : Sl .u8 w (some ⟨b, off, none⟩) zs) (f : Nat) : Sl .u8 w (some ⟨b, off, none⟩) (zs.take f) := by
  intro i hi
  rw [List.length_take] at hi
  obtain ⟨b', off', e, hlt, hc⟩ := h i (by omega)
  refine ⟨b', off', e, hlt, ?_⟩
  have e2 : (zs.take f).getD i 0 = zs.getD i 0 := by simp [List.getD, show i < f from by omega]
  rw [e2]; exact hc

theorem Sl.from {w : World} {b off : Nat} {zs : List Int} (h : Sl .u8 w (some ⟨b, off, none⟩) zs) (f : Nat) : Sl .u8 w (some ⟨b, off + f, none⟩) (zs.drop f) := by
  intro i hi
  rw [List.length_drop] at hi
  obtain ⟨b', off', e, hlt, hc⟩ := h (f + i) (by omega)
  simp only [Option.some.injEq, Addr.mk.injEq, and_true] at e
  obtain ⟨rfl, rfl⟩ := e
  refine ⟨_, _, rfl, hlt, ?_⟩
  have e2 : (zs.drop f).getD i 0 = zs.getD (f + i) 0 := by simp [List.getD]
  rw [e2, Nat.add_assoc]; exact hc

theorem str_inj {xs ys : List Int} (hx : ∀ y ∈ xs, (Lit.int .u8 y).wf = true) (hy : ∀ y ∈ ys, (Lit.int .u8 y).wf = true) (h : strOfNums xs = strOfNums ys) : xs = ys := by
  have h2 : xs.map (fun n => UInt8.ofNat n.toNat) = ys.map (fun n => UInt8.ofNat n.toNat) := by
    rw [← strOfNums_data, ← strOfNums_data, h]
  have bd : ∀ {l : List Int}, (∀ y ∈ l, (Lit.int .u8 y).wf = true) → l.map (fun n => ((UInt8.ofNat n.toNat).toNat : Int)) = l := by
    intro l hl
    conv => rhs; rw [← List.map_id l]
    refine List.map_congr_left fun y hy => ?_
    have := hl y hy
    have hb : 0 ≤ y ∧ y ≤ 255 := by simpa [Lit.wf, IntKind.min, IntKind.max, IntKind.signed, IntKind.bits] using this
    simp
    omega
  rw [← bd hx, ← bd hy]
  have h3 := congrArg (List.map (fun u : UInt8 => (u.toNat : Int))) h2
  rw [List.map_map, List.map_map] at h3
  exact h3

end Go.Proofs.YtldjmphflgecjacDoor
