/- The walk of laws.FnExactStore: it returns true at every list of bytes, address, size and word, and writes nothing that was there. -/
import Derived.Test.YtembleeoilbeaafPlace
import Derived.WalkLawsBesides
import Derived.Laws.CopyOwn
namespace Go.Proofs.Ytembleeoilbeaaf.fnExactStore
open Go.RowKit
set_option linter.unusedVariables false

theorem grown_trans {w a b : World} {row : Option Nat} (h : w.grownBy a row) (k : a.grownBy b row) : w.grownBy b row :=
  ⟨k.os.trans h.os, k.tape.trans h.tape, k.output.trans h.output, Nat.le_trans h.size k.size, fun i hi hne => (k.block i (Nat.lt_of_lt_of_le hi h.size) hne).trans (h.block i hi hne)⟩

theorem grown_refl (w : World) (row : Option Nat) : w.grownBy w row := ⟨rfl, rfl, rfl, Nat.le_refl _, fun _ _ _ => rfl⟩

set_option maxHeartbeats 400000 in
theorem l1Put_any (g n cap f m base : Nat) (zs : List Int) (x : Int) (w : World) (hn : n ≤ 1048576) (hm : m ≤ 8) (hf : f + m ≤ n) (hx0 : 0 ≤ x) (hx1 : x ≤ 18446744073709551615)
    (hown : w.ownsRow base 5 1 (.slice (some ⟨g, 0, none⟩) n cap) n (zs.map (Value.int .u8))) :
    Calls Try.prog 28 #[.slice (some ⟨g, 0, none⟩) n cap, .int .u64 (2147483648 + (f : Int)), .int .i64 (m : Int), .int .u64 x] w fun e w' => e = .returned (.tuple #[]) ∧
      w'.ownsRow base 5 1 (.slice (some ⟨g, 0, none⟩) n cap) n ((put zs f x m).map (Value.int .u8)) ∧ w.grownBy w' (some g) := by
  have HX : Hid (zs.length = n) := by show zs.length = n; have := hown.1; simpa using this
  go_enter Try.func28, Try.ntmps28
  go_wp2
  go_loopw [3, 9] (fun y i wr => ∃ j : Nat, j ≤ m ∧ i = .int .i64 (j : Int) ∧ y = .int .u64 (x / 256 ^ j) ∧ wr.ownsRow base 5 1 (.slice (some ⟨g, 0, none⟩) n cap) n ((put zs f x j).map (Value.int .u8)) ∧ w.grownBy wr (some g))
    (fun _ i _ => m - (intOf i).toNat)
  case atStart => exact ⟨0, Nat.zero_le _, rfl, by simp, hown, grown_refl _ _⟩
  case round =>
    obtain ⟨j, hj, rfl, rfl, hown1, hgr⟩ := hrel
    clear hown
    by_cases hlt : j < m
    · have hfr : wr.frozen? ⟨g, f + j, none⟩ = false := hown1.frozenAt (f + j)
      have hst := hown1.stored (f + j) (.int .u8 (x / 256 ^ j % 256))
      obtain ⟨v3, hv3⟩ : ∃ v, wr.cell? ⟨g, f + j, none⟩ = some v := by
        rw [hown1.cellAt (f + j) (by omega)]
        exact ⟨_, List.getElem?_eq_getElem (by rw [List.length_map, put_len, HX.out]; omega)⟩
      rw [map_set_u8] at hst
      have hst1 : (wr.setCell ⟨g, f + j, none⟩ (.int .u8 (x / 256 ^ j % 256))).ownsRow base 5 1 (.slice (some ⟨g, 0, none⟩) n cap) n ((put zs f x (j + 1)).map (Value.int .u8)) := hst.1
      have hgr2 := grown_trans hgr hst.2
      have N : Hid (x / 256 ^ (j + 1) = x / 256 ^ j / 256) := by
        show x / 256 ^ (j + 1) = x / 256 ^ j / 256
        rw [Int.pow_succ, Int.ediv_ediv_of_nonneg (Int.le_of_lt (Int.pow_pos (by omega)))]
      have hy0 : 0 ≤ x / 256 ^ j := Int.ediv_nonneg hx0 (Int.le_of_lt (Int.pow_pos (by omega)))
      have hy1 : x / 256 ^ j ≤ 18446744073709551615 := Int.le_trans (Int.ediv_le_self _ hx0) hx1
      obtain ⟨y, hyy⟩ : ∃ y, y = x / 256 ^ j := ⟨_, rfl⟩
      rw [← hyy] at hst1 hgr2 hy0 hy1 N ⊢
      clear hst hown1 hyy
      go_wp2
      go_roundw
      case rel => exact ⟨j + 1, by omega, by go_num, by rw [N.out], hst1, hgr2⟩
      case measure => simp [intOf]; omega
    · have : j = m := by omega
      subst this
      go_wp2
      go_end0
      exact ⟨rfl, hown1, hgr⟩

/-- A slice of no bytes whose block is new. -/
theorem own_empty (w : World) (o : Obj) (ho : o = .cells #[] 5 (0, 0)) : (w.alloc o).ownsRow w.heap.size 5 1 (.slice (some ⟨w.heap.size, 0, none⟩) 0 0) 0 (([] : List Int).map (Value.int .u8)) := by
  subst ho
  exact World.ownsRow_lit w #[] 0 (Nat.le_refl _) (by unfold maxLen; omega) rfl

theorem news_of {w : World} {b off : Nat} {zs : List Int} (hs : Sl .u8 w (some ⟨b, off, none⟩) zs) (o : Obj) (j : Nat) (u : Value) (hu : (zs.map (Value.int .u8))[j]? = some u) :
    (w.alloc o).cell? ((⟨b, off, none⟩ : Addr).add j) = some u := by
  have hj : j < zs.length := by
    rcases Nat.lt_or_ge j zs.length with h | h
    · exact h
    · rw [List.getElem?_eq_none (by simpa using h)] at hu; cases hu
  obtain ⟨b', off', e, hlt, hc⟩ := hs j hj
  simp only [Option.some.injEq, Addr.mk.injEq, and_true] at e
  obtain ⟨rfl, rfl⟩ := e
  have ha : (⟨b, off, none⟩ : Addr).add j = ⟨b, off + j, none⟩ := by
    by_cases h0 : j = 0
    · subst h0; simp [Addr.add]
    · simp [Addr.add, h0]
  have hu' : u = .int .u8 (zs.getD j 0) := by
    simp [List.getElem?_eq_getElem hj] at hu
    simp [List.getD, List.getElem?_eq_getElem hj, hu]
  rw [ha, hu', ← hc]
  exact ((Below.refl w.heap.size w).alloc (Nat.le_refl _) o).cell (by exact hlt)

theorem own_shape {w : World} {base n : Nat} {e : TypeId} {v : Value} {xs : List Value} (h : w.ownsRow base e 1 v n xs) (hn : 0 < n) : ∃ g c, v = .slice (some ⟨g, 0, none⟩) n c ∧ base ≤ g := by
  rcases h.2 with ⟨_, h3⟩ | ⟨g, cap, cur, hv, hg, _⟩
  · omega
  · exact ⟨g, cap, hv, hg⟩

theorem adds (b off j : Nat) : (⟨b, off, none⟩ : Addr).add j = ⟨b, off + j, none⟩ := by
  by_cases h0 : j = 0
  · subst h0; simp [Addr.add]
  · simp [Addr.add, h0]

/-- 'copy' of a whole list into a row of the call's own that is as long. -/
theorem wpList_copy_full {P : Program} {w : World} {ops : Array Oper} {rest : List Oper} {o : Oper} {a : Act} {Q : Exit → Act → World → Prop} (hgd : o.guard = none) (d s : Operand) (dT : TypeId)
    (ho : o.op = .call { callee := .builtin .copy, args := #[d, s], argTypes := #[dT, dT] }) (e : TypeId) (hu : P.underlying dT = some (.slice e)) (hsz : (P.info? e).map (·.size) = some 1)
    (k : IntKind) (base g n c b off cap : Nat) (zs : List Int) (ys : List Value) (hd : a.eval d = .slice (some ⟨g, 0, none⟩) n c) (hs : a.eval s = .slice (some ⟨b, off, none⟩) n cap)
    (hown : w.ownsRow base e 1 (.slice (some ⟨g, 0, none⟩) n c) n ys) (hsl : Sl k w (some ⟨b, off, none⟩) zs) (hz : zs.length = n)
    (h : ∀ w', w'.ownsRow base e 1 (.slice (some ⟨g, 0, none⟩) n c) n (zs.map (Value.int k)) → w.grownBy w' (some g) → wpList P ops Q rest (a.put o.dst (goInt n)) w') : wpList P ops Q (o :: rest) a w := by
  rcases hown.2 with ⟨h2, _⟩ | ⟨g', c', cur, hv, hbg, hh, hnc, hcm, hcs, htake⟩
  · cases h2
  · simp only [Value.slice.injEq, Option.some.injEq, Addr.mk.injEq, and_true, true_and] at hv
    obtain ⟨rfl, rfl⟩ := hv
    have hl : (zs.map (Value.int k)).length = n := by rw [List.length_map, hz]
    have hcs' : cur.toList.length = c := by rw [Array.length_toList]; omega
    refine wpList_copy_own hgd d s dT dT ho e hu hsz g 0 n c ⟨b, off, none⟩ n cap hd hs cur e hh (zs.map (Value.int k)) (by rw [hl]; exact (Nat.min_self n).symm) ?_ (by rw [hl]; omega) (ints_oneCell _ _) ?_
    · intro j u hu'
      have hj : j < zs.length := by
        rcases Nat.lt_or_ge j zs.length with h | h
        · exact h
        · rw [List.getElem?_eq_none (by simpa using h)] at hu'; cases hu'
      obtain ⟨b', off', e', hlt, hc⟩ := hsl j hj
      simp only [Option.some.injEq, Addr.mk.injEq, and_true] at e'
      obtain ⟨rfl, rfl⟩ := e'
      have hu2 : u = .int k (zs.getD j 0) := by
        simp [List.getElem?_eq_getElem hj] at hu'
        simp [List.getD, List.getElem?_eq_getElem hj, hu']
      rw [adds, hu2]; exact hc
    · rw [hl]
      refine h _ ⟨by rw [hl]; omega, .inr ⟨g, c, _, rfl, hbg, setRow_heap w g _ _ e _ hh, hnc, hcm, ?_, ?_⟩⟩ ⟨rfl, rfl, rfl, by simp [World.setRow], fun i hi hne => setRow_other w g i _ (by intro h; apply hne; rw [h])⟩
      · simp [hz]; omega
      · simp [hz]

def storeLen (zs : List Int) (n : Nat) (addr size x : Int) : Nat := (storeB zs n addr size x).length

set_option maxHeartbeats 400000 in
theorem spec_any (a : Option Addr) (n cap : Nat) (zs : List Int) (addr size x : Int) (w : World) (hz : zs.length = n) (hn : n ≤ 1048576) (hs : Sl .u8 w a zs)
    (ha : 0 ≤ addr) (ha2 : addr ≤ 18446744073709551615) (hx0 : 0 ≤ x) (hx1 : x ≤ 18446744073709551615) :
    Calls Try.prog 14 #[.slice a n cap, .int .u64 addr, .int .i64 size, .int .u64 x] w fun e w' => ∃ (a' : Option Addr) (c : Nat), e = .returned (.tuple #[.slice a' (storeLen zs n addr size x) c, .bool (okB n addr size)]) ∧
      w'.ownsRow w.heap.size 5 1 (.slice a' (storeLen zs n addr size x) c) (storeLen zs n addr size x) ((storeB zs n addr size x).map (Value.int .u8)) ∧ Below w.heap.size w w' := by
  have HZ : Hid (zs.length = n) := hz
  clear hz
  cases hok : okB n addr size
  · have F2 : Hid (storeB zs n addr size x = []) := by show storeB zs n addr size x = []; simp [storeB, hok]
    have F3 : Hid (storeLen zs n addr size x = 0) := by show storeLen zs n addr size x = 0; simp [storeLen, F2.out]
    cases hr : ramOkB n
    · go_enter Try.func14, Try.ntmps14
      go_wp2_with (go_at_call 8; refine (specRamOk_any _ _ _ _ hn).mono ?_; rintro e w' ⟨rfl, rfl⟩)
      go_ret2
      rw [F2.out, F3.out]
      exact ⟨_, _, rfl, own_empty _ _ rfl, (Below.refl _ _).alloc (Nat.le_refl _) _⟩
    · cases hsz : sizeB size
      · go_enter Try.func14, Try.ntmps14
        go_wp2_with (first | (go_at_call 8; refine (specRamOk_any _ _ _ _ hn).mono ?_; rintro e w' ⟨rfl, rfl⟩) | (go_at_call 22; refine (specSize_any _ _).mono ?_; rintro e w' ⟨rfl, rfl⟩))
        go_ret2
        rw [F2.out, F3.out]
        exact ⟨_, _, rfl, own_empty _ _ rfl, (Below.refl _ _).alloc (Nat.le_refl _) _⟩
      · go_enter Try.func14, Try.ntmps14
        go_wp2_with (first | (go_at_call 8; refine (specRamOk_any _ _ _ _ hn).mono ?_; rintro e w' ⟨rfl, rfl⟩) | (go_at_call 22; refine (specSize_any _ _).mono ?_; rintro e w' ⟨rfl, rfl⟩) | (go_at_call 23; refine (inside_any _ _ _ _ _ _ hr hsz ha ha2).mono ?_; rintro e w' ⟨rfl, rfl⟩))
        go_ret2
        rw [F2.out, F3.out]
        exact ⟨_, _, rfl, own_empty _ _ rfl, (Below.refl _ _).alloc (Nat.le_refl _) _⟩
  · obtain ⟨hr, hsz, hb1, hb2, hs1, hs2, hn1, hn2⟩ := okB_true hok
    obtain ⟨f, hf⟩ : ∃ f : Nat, addr = 2147483648 + (f : Int) := ⟨(addr - 2147483648).toNat, by omega⟩
    obtain ⟨m, hm⟩ : ∃ m : Nat, size = (m : Int) := ⟨size.toNat, by omega⟩
    subst hf hm
    have F2 : Hid (storeB zs n (2147483648 + (f : Int)) (m : Int) x = put zs f x m) := by
      show storeB zs n (2147483648 + (f : Int)) (m : Int) x = put zs f x m
      simp only [storeB, hok, if_true]
      rw [show (2147483648 + (f : Int) - 2147483648).toNat = f from by omega, Int.toNat_natCast]
    have F3 : Hid (storeLen zs n (2147483648 + (f : Int)) (m : Int) x = n) := by
      show storeLen zs n (2147483648 + (f : Int)) (m : Int) x = n
      rw [storeLen, F2.out, put_len, HZ.out]
    obtain ⟨b, off, rfl, hblt, hc0⟩ := hs 0 (by have := HZ.out; omega)
    clear hc0
    obtain ⟨i0, hi, hz0, hz1, hz2⟩ := info_parts Try.info5
    have hnews : ∀ (o : Obj) (j : Nat) (u : Value), (zs.map (Value.int .u8))[j]? = some u → (w.alloc o).cell? ((⟨b, off, none⟩ : Addr).add j) = some u := by
      intro o j u hu
      exact news_of hs o j u hu
    have h1c : ∀ u ∈ zs.map (Value.int .u8), u.oneCell' = true := ints_oneCell _ _
    have hE := own_empty w (.cells #[] 5 (0, 0)) rfl
    go_enter Try.func14, Try.ntmps14
    have hb9 : (0 + n) * 1 ≤ 140737488355328 := by omega
    have hm9 : 0 + n ≤ maxLen := by unfold maxLen; omega
    have hlen : (zs.map (Value.int .u8)).length = n * 1 := by rw [List.length_map, HZ.out]; omega
    go_wp2_with (first | (go_at_call 8; refine (specRamOk_any _ _ _ _ hn).mono ?_; rintro e w' ⟨rfl, rfl⟩) | (go_at_call 22; refine (specSize_any _ _).mono ?_; rintro e w' ⟨rfl, rfl⟩) | (go_at_call 23; refine (inside_any _ _ _ _ _ _ hr hsz ha ha2).mono ?_; rintro e w' ⟨rfl, rfl⟩) | (at_builtin; refine wpList_append_own _ rfl (.tmp 27) (.tmp 28) 22 rfl _ 5 i0 (.int .u8 0) 1 1 Try.underlying22 hi hz0 hz1 hz2 rfl (by decide) _ 0 [] (by rfl) hE ⟨b, off, none⟩ n cap (zs.map (Value.int .u8)) rfl hlen (hnews _) h1c hm9 hb9 (by simp) ?_; intro v' w1 hown1 hgrow1 hnil1))
    simp only [Nat.zero_add, List.nil_append] at hown1
    obtain ⟨g, c, hv, hg⟩ := own_shape hown1 (by omega)
    rw [hv] at hown1 ⊢
    clear hnil1 hE hnews h1c
    refine (l1Put_any g n c f m _ zs x w1 hn (by omega) (by omega) hx0 hx1 hown1).mono ?_
    rintro e w2 ⟨rfl, hown2, hgrow2⟩
    go_wp2_with fail
    go_ret2
    refine ⟨some ⟨g, 0, none⟩, c, ?_⟩
    rw [F3.out, F2.out]
    refine ⟨rfl, hown2, ?_⟩
    refine Below.grown (Below.grown ((Below.refl _ _).alloc (Nat.le_refl _) _) hgrow1 ?_ ?_) hgrow2 ?_ ?_
    · simp
    · intro k hk; simp [Value.ownBlock] at hk; omega
    · have := hgrow1.size; simp at this; omega
    · intro k hk; cases hk; exact hg

theorem byte_of (x : Int) (k : Nat) : IntKind.u8.wrap (x / 2 ^ (8 * k)) = x / 256 ^ k % 256 := by
  rw [pow_8, IntKind.wrap_u8']

theorem own_nil (w : World) (base : Nat) : w.ownsRow base 5 1 (.slice none 0 0) 0 (([] : List Int).map (Value.int .u8)) := World.ownsRow_nil w base 5 1

set_option maxHeartbeats 400000 in
theorem impl_any (a : Option Addr) (n cap : Nat) (zs : List Int) (addr size x : Int) (w : World) (hz : zs.length = n) (hn : n ≤ 1048576) (hs : Sl .u8 w a zs)
    (ha : 0 ≤ addr) (ha2 : addr ≤ 18446744073709551615) (hx0 : 0 ≤ x) (hx1 : x ≤ 18446744073709551615) :
    Calls Try.prog 15 #[.slice a n cap, .int .u64 addr, .int .i64 size, .int .u64 x] w fun e w' => ∃ (a' : Option Addr) (c : Nat), e = .returned (.tuple #[.slice a' (storeLen zs n addr size x) c, .bool (okB n addr size)]) ∧
      w'.ownsRow w.heap.size 5 1 (.slice a' (storeLen zs n addr size x) c) (storeLen zs n addr size x) ((storeB zs n addr size x).map (Value.int .u8)) ∧ Below w.heap.size w w' := by
  have HZ : Hid (zs.length = n) := hz
  clear hz
  cases hok : okB n addr size
  · have F2 : Hid (storeB zs n addr size x = []) := by show storeB zs n addr size x = []; simp [storeB, hok]
    have F3 : Hid (storeLen zs n addr size x = 0) := by show storeLen zs n addr size x = 0; simp [storeLen, F2.out]
    go_enter Try.func15, Try.ntmps15
    go_wp2_with (go_at_call 25; refine (place_any _ _ _ _ _ _ hn ha ha2).mono ?_; rintro e w' ⟨rfl, rfl⟩)
    go_ret2
    rw [F2.out, F3.out]
    exact ⟨_, _, rfl, own_nil _ _, Below.refl _ _⟩
  · obtain ⟨hr, hsz, hb1, hb2, hs1, hs2, hn1, hn2⟩ := okB_true hok
    obtain ⟨f, hf⟩ : ∃ f : Nat, addr = 2147483648 + (f : Int) := ⟨(addr - 2147483648).toNat, by omega⟩
    obtain ⟨m, hm⟩ : ∃ m : Nat, size = (m : Int) := ⟨size.toNat, by omega⟩
    subst hf hm
    have F2 : Hid (storeB zs n (2147483648 + (f : Int)) (m : Int) x = put zs f x m) := by
      show storeB zs n (2147483648 + (f : Int)) (m : Int) x = put zs f x m
      simp only [storeB, hok, if_true]
      rw [show (2147483648 + (f : Int) - 2147483648).toNat = f from by omega, Int.toNat_natCast]
    have F3 : Hid (storeLen zs n (2147483648 + (f : Int)) (m : Int) x = n) := by
      show storeLen zs n (2147483648 + (f : Int)) (m : Int) x = n
      rw [storeLen, F2.out, put_len, HZ.out]
    have P2 : Hid (placeB n (2147483648 + (f : Int)) (m : Int) = f) := by
      show placeB n (2147483648 + (f : Int)) (m : Int) = f
      simp only [placeB, hok, if_true]
      omega
    obtain ⟨b, off, rfl, hblt, hc0⟩ := hs 0 (by have := HZ.out; omega)
    clear hc0
    obtain ⟨i0, hi, hz0, hz1, hz2⟩ := info_parts Try.info5
    have hsz5 : (Try.prog.info? 5).map (·.size) = some 1 := by rw [hi]; simp [hz1]
    have hb2' : i0.bytes * n ≤ 281474976710656 := by rw [hz2]; omega
    have hb3 : n ≤ maxLen := by unfold maxLen; omega
    go_enter Try.func15, Try.ntmps15
    go_wp2_with (first | (go_at_call 25; refine (place_any _ _ _ _ _ _ hn ha ha2).mono ?_; rw [P2.out]; rintro e w' ⟨rfl, hw'⟩; have hw2 := hw'.symm; subst hw2) | (at_make; refine wpList_make_full _ rfl (.tmp 24) (.tmp 24) 22 rfl w.heap.size 5 i0 (.int .u8 0) 1 Try.underlying22 hi hz0 hz1 .i64 .i64 _ _ n rfl rfl rfl rfl hb2' hb3 (Nat.le_refl _) ?_; intro w1 hown hgrow) | (refine wpList_copy_full rfl (.tmp 26) (.tmp 27) 22 rfl 5 Try.underlying22 hsz5 .u8 w.heap.size w.heap.size n n b off cap zs _ rfl rfl hown (hs.below ((Below.refl _ _).grown hgrow (Nat.le_refl _) (by intro k h; cases h))) HZ.out ?_; intro w2 hown2 hgrow2))
    have hbel2 : Below w.heap.size w w2 := Below.grown ((Below.refl _ _).grown hgrow (Nat.le_refl _) (by intro k h; cases h)) hgrow2 hgrow.size (by intro k h; cases h; exact Nat.le_refl _)
    clear hown hgrow hgrow2 hs
    go_loopw [30] (fun i wr => ∃ j : Nat, j ≤ m ∧ i = .int .i64 (j : Int) ∧ wr.ownsRow w.heap.size 5 1 (.slice (some ⟨w.heap.size, 0, none⟩) n n) n ((put zs f x j).map (Value.int .u8)) ∧ Below w.heap.size w wr)
      (fun i _ => m - (intOf i).toNat)
    case atStart => exact ⟨0, Nat.zero_le _, rfl, hown2, hbel2⟩
    case round =>
      obtain ⟨j, hj, rfl, hown1, hbel⟩ := hrel
      clear hown2 hbel2
      by_cases hlt : j < m
      · have hfr : wr.frozen? ⟨w.heap.size, f + j, none⟩ = false := hown1.frozenAt (f + j)
        have hst := (hown1.stored (f + j) (.int .u8 (x / 256 ^ j % 256))).1
        obtain ⟨v3, hv3⟩ : ∃ v, wr.cell? ⟨w.heap.size, f + j, none⟩ = some v := by
          rw [hown1.cellAt (f + j) (by omega)]
          exact ⟨_, List.getElem?_eq_getElem (by rw [List.length_map, put_len, HZ.out]; omega)⟩
        rw [map_set_u8] at hst
        have hst1 : (wr.setCell ⟨w.heap.size, f + j, none⟩ (.int .u8 (x / 256 ^ j % 256))).ownsRow w.heap.size 5 1 (.slice (some ⟨w.heap.size, 0, none⟩) n n) n ((put zs f x (j + 1)).map (Value.int .u8)) := hst
        have hst2 : Below w.heap.size w (wr.setCell ⟨w.heap.size, f + j, none⟩ (.int .u8 (x / 256 ^ j % 256))) := hbel.setCell (Nat.le_refl _) _
        have hy0 : 0 ≤ x / 256 ^ j := Int.ediv_nonneg hx0 (Int.le_of_lt (Int.pow_pos (by omega)))
        clear hst hown1
        rw [← pow_8] at hst1 hst2 hy0
        go_wp2
        go_roundw
        case rel => exact ⟨j + 1, by omega, by go_num, hst1, hst2⟩
        case measure => simp [intOf]; omega
      · have : j = m := by omega
        subst this
        go_wp2
        go_ret2
        rw [F3.out, F2.out]
        exact ⟨_, _, rfl, hown1, hbel⟩

theorem kept_of {w w' : World} {base : Nat} {e : TypeId} {size : Nat} {v : Value} {n : Nat} {xs : List Value} {row : Option Nat} (h : w.ownsRow base e size v n xs) (hg : w.grownBy w' row) (hne : ∀ k, v.ownBlock = some k → row ≠ some k) :
    w'.ownsRow base e size v n xs := by
  refine h.kept hg ?_
  cases hv : v.ownBlock with
  | none => exact .inl rfl
  | some k => exact .inr (fun h => hne k hv h.symm)

theorem u64_bd {x : Int} (h : (Lit.int .u64 x).wf = true) : 0 ≤ x ∧ x ≤ 18446744073709551615 := by
  simpa [Lit.wf, IntKind.min, IntKind.max, IntKind.signed, IntKind.bits] using h

set_option maxHeartbeats 1000000 in
theorem walk (a0 : Option Addr) (len0 cap0 : Nat) (z0 : List Int) (a1 : Int) (a2 : Int) (a3 : Int) (w : World) (w0 : IsRow .u8 w a0 len0 cap0 z0) (w1 : (Lit.int .u64 a1).wf = true) (w2 : (Lit.int .i64 a2).wf = true) (w3 : (Lit.int .u64 a3).wf = true) :
    Calls Try.prog 5 #[.slice a0 len0 cap0, .int .u64 a1, .int .i64 a2, .int .u64 a3] w fun e w' => e = .returned (.bool true) ∧ Below w.heap.size w w' := by
  obtain ⟨zs, hz, hs, hw, hm⟩ := w0.sl
  have hA := u64_bd w1
  have hX := u64_bd w3
  clear w0 w1 w2 w3 hw
  unfold maxLen at hm
  by_cases hbig : 1048576 < len0
  · have hb : (1048576 : Int) < (len0 : Int) := by omega
    go_enter Try.func5, Try.ntmps5
    go_wp2_with fail
    go_ret
    exact ⟨rfl, Below.refl _ _⟩
  · have hn : len0 ≤ 1048576 := by omega
    have hb : ¬ (1048576 : Int) < (len0 : Int) := by omega
    have hL : storeLen zs len0 a1 a2 a3 ≤ 1048576 := storeB_len zs len0 a1 a2 a3 hz hn
    have HL : Hid ((storeB zs len0 a1 a2 a3).length = storeLen zs len0 a1 a2 a3) := rfl
    have tz : decide (zs = zs) = true := by simp
    have tr : decide (storeB zs len0 a1 a2 a3 = storeB zs len0 a1 a2 a3) = true := by simp
    have tk : (okB len0 a1 a2 != okB len0 a1 a2) = false := by simp
    go_enter Try.func5, Try.ntmps5
    go_wp2_with fail
    refine (toByteS_any a0 len0 cap0 zs w hz hn hs).mono ?_
    rintro e w1 ⟨rfl, hown1, hb1⟩
    go_wp2_with fail
    refine (spec_any _ _ _ zs a1 a2 a3 _ hz hn (own_sl hown1) hA.1 hA.2 hX.1 hX.2).mono ?_
    rintro e w2 ⟨aw, cw, rfl, ow2, hb2⟩
    have B2 := below_trans hb1 hb2
    go_wp2_with fail
    refine (toByteS_any a0 len0 cap0 zs w2 hz hn (hs.below B2)).mono ?_
    rintro e w3 ⟨rfl, ox3, hb3⟩
    have B3 := below_trans B2 hb3
    have ow3 := ownsRow_below ow2 hb3
    go_wp2_with fail
    refine (impl_any _ _ _ zs a1 a2 a3 _ hz hn (own_sl ox3) hA.1 hA.2 hX.1 hX.2).mono ?_
    rintro e w4 ⟨ag, cg, rfl, og4, hb4⟩
    have B4 := below_trans B3 hb4
    have ow4 := ownsRow_below ow3 hb4
    have ox4 := ownsRow_below ox3 hb4
    go_wp2_with fail
    refine (eqByteS_any _ _ _ _ _ _ (storeB zs len0 a1 a2 a3) (storeB zs len0 a1 a2 a3) w4 HL.out HL.out hL hL (own_sl' og4) (own_sl' ow4)).mono ?_
    rintro e w5 ⟨rfl, hb5⟩
    have B5 := below_trans B4 hb5
    have ow5 := ownsRow_below ow4 hb5
    have ox5 := ownsRow_below ox4 hb5
    have og5 := ownsRow_below og4 hb5
    go_wp2_with fail
    refine (toByteS_any a0 len0 cap0 zs w5 hz hn (hs.below B5)).mono ?_
    rintro e w6 ⟨rfl, oz6, hb6⟩
    have B6 := below_trans B5 hb6
    have ow6 := ownsRow_below ow5 hb6
    have ox6 := ownsRow_below ox5 hb6
    have og6 := ownsRow_below og5 hb6
    go_wp2_with fail
    refine (eqByteS_any _ _ len0 len0 _ _ zs zs w6 hz hz hn hn (own_sl ox6) (own_sl oz6)).mono ?_
    rintro e w7 ⟨rfl, hb7⟩
    have B7 := below_trans B6 hb7
    have ow7 := ownsRow_below ow6 hb7
    have ox7 := ownsRow_below ox6 hb7
    have og7 := ownsRow_below og6 hb7
    have zw : ∀ k, (Value.slice aw (storeLen zs len0 a1 a2 a3) cw).ownBlock = some k → k < w2.heap.size := fun k hk => (ow2.lt k hk).2
    have zg : ∀ k, (Value.slice ag (storeLen zs len0 a1 a2 a3) cg).ownBlock = some k → w3.heap.size ≤ k := fun k hk => (og4.lt k hk).1
    have zx : w2.heap.size < w3.heap.size := own_lt ox3
    have zB : w.heap.size ≤ w2.heap.size := B2.size
    go_wp2_with fail
    refine (markByteS_any _ len0 len0 _ 1 zs w7 hn (by omega) (by omega) ox7).mono ?_
    rintro e w8 ⟨rfl, ox8, gr8⟩
    have B8 : Below w.heap.size w w8 := B7.grown gr8 B7.size (by intro k hk; simp [Value.ownBlock] at hk; omega)
    have ow8 := kept_of ow7 gr8 (by intro k hk h; have := zw k hk; simp [Value.ownBlock] at h; omega)
    have og8 := kept_of og7 gr8 (by intro k hk h; have := zg k hk; simp [Value.ownBlock] at h; omega)
    have hneg : decide ((1 : Int) + (len0 : Int) < 0) = false := by simp; omega
    go_wp2_with fail
    refine (eqByteS_any _ _ _ _ _ _ (storeB zs len0 a1 a2 a3) (storeB zs len0 a1 a2 a3) w8 HL.out HL.out hL hL (own_sl' og8) (own_sl' ow8)).mono ?_
    rintro e w9 ⟨rfl, hb9⟩
    have B9 := below_trans B8 hb9
    have ow9 := ownsRow_below ow8 hb9
    have og9 := ownsRow_below og8 hb9
    go_wp2_with fail
    refine (markByteS_any _ _ _ _ 1 _ w9 hL (by omega) (by omega) og9).mono ?_
    rintro e w10 ⟨rfl, og10, gr10⟩
    have B10 : Below w.heap.size w w10 := B9.grown gr10 B9.size (by intro k hk; have := zg k hk; omega)
    have ow10 := kept_of ow9 gr10 (by intro k hk h; have := zw k hk; have := zg k h; omega)
    have hneg2 : ¬ ((1 : Int) + (storeLen zs len0 a1 a2 a3 : Int) < 0) := by omega
    have hne2 : ((1 : Int) + (storeLen zs len0 a1 a2 a3 : Int) != 1 + (storeLen zs len0 a1 a2 a3 : Int)) = false := by simp
    go_wp2_with fail
    refine (heldByteS_any _ _ _ 1 w10 hL (by omega) (by omega) (own_sl' og10)).mono ?_
    rintro e w11 ⟨rfl, hw11⟩
    subst hw11
    go_wp2_with fail
    refine (toByteS_any a0 len0 cap0 zs _ hz hn (hs.below B10)).mono ?_
    rintro e w12 ⟨rfl, oy12, hb12⟩
    have B12 := below_trans B10 hb12
    have ow12 := ownsRow_below ow10 hb12
    have og12 := ownsRow_below og10 hb12
    go_wp2_with fail
    refine (impl_any _ _ _ zs a1 a2 a3 _ hz hn (own_sl oy12) hA.1 hA.2 hX.1 hX.2).mono ?_
    rintro e w13 ⟨ah, ch, rfl, oh13, hb13⟩
    have B13 := below_trans B12 hb13
    have ow13 := ownsRow_below ow12 hb13
    have og13 := ownsRow_below og12 hb13
    go_wp2_with fail
    refine (eqByteS_any _ _ _ _ _ _ (storeB zs len0 a1 a2 a3) (storeB zs len0 a1 a2 a3) w13 HL.out HL.out hL hL (own_sl' oh13) (own_sl' ow13)).mono ?_
    rintro e w14 ⟨rfl, hb14⟩
    have B14 := below_trans B13 hb14
    have og14 := ownsRow_below og13 hb14
    go_wp2_with fail
    refine (heldByteS_any _ _ _ 1 w14 hL (by omega) (by omega) (own_sl' og14)).mono ?_
    rintro e w15 ⟨rfl, hw15⟩
    subst hw15
    go_wp2_with fail
    go_ret
    exact ⟨rfl, B14⟩
end Go.Proofs.Ytembleeoilbeaaf.fnExactStore
