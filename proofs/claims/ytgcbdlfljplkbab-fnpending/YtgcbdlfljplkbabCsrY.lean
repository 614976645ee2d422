/- The model's WriteCsr and ReadCsr. -/
import Derived.Test.YtgcbdlfljplkbabCsrX
import Derived.OwnWalk
namespace Go.Proofs.Ytgcbdlfljplkbab
open Go.RowKit
set_option linter.unusedVariables false

theorem own_emptyW (w : World) (base : Nat) (hb : base ≤ w.heap.size) (o : Obj) (ho : o = .cells #[] 24 (0, 0)) : (w.alloc o).ownsRow base 24 1 (.slice (some ⟨w.heap.size, 0, none⟩) 0 0) 0 (([] : List Int).map (Value.int .u64)) := by
  subst ho
  exact World.ownsRow_lit w #[] 0 hb (by unfold maxLen; omega) rfl

theorem news_ofW {w : World} {b off : Nat} {zs : List Int} (hs : Sl .u64 w (some ⟨b, off, none⟩) zs) (o : Obj) (j : Nat) (u : Value) (hu : (zs.map (Value.int .u64))[j]? = some u) :
    (w.alloc o).cell? ((⟨b, off, none⟩ : Addr).add j) = some u := by
  have hj : j < zs.length := by
    rcases Nat.lt_or_ge j zs.length with h | h
    · exact h
    · rw [List.getElem?_eq_none (by simpa using h)] at hu; cases hu
  obtain ⟨b', off', e, hlt, hc⟩ := hs j hj
  simp only [Option.some.injEq, Addr.mk.injEq, and_true] at e
  obtain ⟨rfl, rfl⟩ := e
  have ha : (⟨b, off, none⟩ : Addr).add j = ⟨b, off + j, none⟩ := by
    by_cases h0 : j = 0
    · subst h0; simp [Addr.add]
    · simp [Addr.add, h0]
  have hu' : u = .int .u64 (zs.getD j 0) := by
    simp [List.getElem?_eq_getElem hj] at hu
    simp [List.getD, List.getElem?_eq_getElem hj, hu]
  rw [ha, hu', ← hc]
  exact ((Below.refl w.heap.size w).alloc (Nat.le_refl _) o).cell (by exact hlt)

set_option maxHeartbeats 1600000 in
theorem specWriteCsr_any (a : Option Addr) (m cap : Nat) (l : List Int) (n p x : Int) (w : World) (hz : l.length = m) (hs : Sl .u64 w a l) :
    Calls Try.prog 15 #[.slice a m cap, .int .i64 n, .int .i64 p, .int .u64 x] w fun e w' => ∃ (a' : Option Addr) (c : Nat), e = .returned (.tuple #[.slice a' (writeL m l n p x).length c, .bool (wokB m l n p)]) ∧
      w'.ownsRow w.heap.size 24 1 (.slice a' (writeL m l n p x).length c) (writeL m l n p x).length ((writeL m l n p x).map (Value.int .u64)) ∧ Below w.heap.size w w' := by
  have HM : Hid (∀ w, Sl .u64 w a l → Calls Try.prog 50 #[.slice a m cap, .int .i64 n, .int .i64 p] w fun e w' => e = .returned (.bool (mayB m l n p)) ∧ Below w.heap.size w w') := fun w hs => l4May_any a m cap l n p w hz hs
  have HS : Hid (Sl .u64 w a l) := hs
  cases hmay : mayB m l n p with
  | false =>
    have W0 : wokB m l n p = false := by simp [wokB, hmay]
    have F : Hid (writeL m l n p x = [] ∧ wokB m l n p = false) := ⟨by simp [writeL, W0], W0⟩
    rw [hmay] at HM
    clear W0 hmay hs
    go_enter Try.func15, Try.ntmps15
    go_wp2_with fail
    refine (HM.out _ HS.out).mono ?_
    rintro e w1 ⟨rfl, hb⟩
    go_wp2_with fail
    go_ret2
    rw [F.out.1, F.out.2]
    refine ⟨some ⟨w1.heap.size, 0, none⟩, 0, rfl, ?_, hb.alloc hb.size _⟩
    exact own_emptyW w1 _ hb.size _ rfl
  | true =>
    obtain ⟨rfl, hkn⟩ := mayB_parts hmay
    have W0 : wokB 22 l n p = !((wrap64 (n.tdiv 1024)).tmod 4 == 3) := by simp [wokB, hmay]
    rw [hmay] at HM
    cases h3 : ((wrap64 (n.tdiv 1024)).tmod 4 == 3) with
    | true =>
      rw [h3] at W0
      have F : Hid (writeL 22 l n p x = [] ∧ wokB 22 l n p = false) := ⟨by simp [writeL, W0], W0⟩
      clear W0 hmay hs
      go_enter Try.func15, Try.ntmps15
      go_wp2_with fail
      refine (HM.out _ HS.out).mono ?_
      rintro e w1 ⟨rfl, hb⟩
      go_wp2_with fail
      go_ret2
      rw [F.out.1, F.out.2]
      refine ⟨some ⟨w1.heap.size, 0, none⟩, 0, rfl, ?_, hb.alloc hb.size _⟩
      exact own_emptyW w1 _ hb.size _ rfl
    | false =>
      rw [h3] at W0
      have F : Hid (writeL 22 l n p x = writeV l n x ∧ wokB 22 l n p = true ∧ (writeV l n x).length = 22) := ⟨by simp [writeL, W0], W0, by rw [writeV_len, hz]⟩
      have HZ : Hid (l.length = 22) := hz
      have HKN : Hid (knownB n = true) := hkn
      obtain ⟨b, off, rfl, hblt, hc0⟩ := hs 0 (by omega)
      obtain ⟨i0, hi, hz0, hz1, hz2⟩ := info_parts infoW
      have h1c : ∀ u ∈ l.map (Value.int .u64), u.oneCell' = true := ints_oneCell _ _
      have hb9 : (0 + 22) * 8 ≤ 140737488355328 := by omega
      have hm9 : 0 + 22 ≤ maxLen := by unfold maxLen; omega
      have hlen : (l.map (Value.int .u64)).length = 22 * 1 := by rw [List.length_map, HZ.out]
      clear W0 hmay hs hc0 hz hkn
      go_enter Try.func15, Try.ntmps15
      go_wp2_with fail
      refine (HM.out _ HS.out).mono ?_
      rintro e w1 ⟨rfl, hb⟩
      have HB : Hid (Below w.heap.size w w1) := hb
      have hnews : ∀ (o : Obj) (j : Nat) (u : Value), (l.map (Value.int .u64))[j]? = some u → (w1.alloc o).cell? ((⟨b, off, none⟩ : Addr).add j) = some u := by
        intro o j u hu
        exact news_ofW (HS.out.below hb) o j u hu
      have hE := own_emptyW w1 w.heap.size hb.size (.cells #[] 24 (0, 0)) rfl
      clear hb
      go_wp2_with (at_builtin; refine wpList_append_own _ rfl (.tmp 23) (.tmp 24) 30 rfl _ 24 i0 (.int .u64 0) 1 8 Try.underlying30 hi hz0 hz1 hz2 rfl (by decide) _ 0 [] (by rfl) hE ⟨b, off, none⟩ 22 cap (l.map (Value.int .u64)) rfl hlen (hnews _) h1c hm9 hb9 (by simp; have := HB.out.size; omega) ?_; intro v' w2 hown1 hgrow1 hnil1)
      simp only [Nat.zero_add, List.nil_append] at hown1
      obtain ⟨g, c, hv, hg⟩ := own_shape hown1 (by omega)
      rw [hv] at hown1 ⊢
      clear hnil1 hE hnews h1c
      refine (l4Write_any w.heap.size g c l n x HKN.out w2 hown1).mono ?_
      rintro e w3 ⟨rfl, hown2, hgrow2⟩
      go_wp2_with fail
      go_ret2
      refine ⟨some ⟨g, 0, none⟩, c, ?_⟩
      rw [F.out.1, F.out.2.1, F.out.2.2]
      refine ⟨rfl, hown2, ?_⟩
      refine Below.grown (Below.grown (HB.out.alloc HB.out.size _) hgrow1 ?_ ?_) hgrow2 ?_ ?_
      · simp; exact Nat.le_succ_of_le HB.out.size
      · intro k hk; simp [Value.ownBlock] at hk; subst hk; exact HB.out.size
      · have h1 := hgrow1.size; have h2 := HB.out.size; simp at h1; omega
      · intro k hk; cases hk; exact hg

theorem readV_cases (n : Int) : n = 3860 ∨ n = 769 ∨ n = 256 ∨ n = 260 ∨ n = 324 ∨ ((n == 3860) = false ∧ (n == 769) = false ∧ (n == 256) = false ∧ (n == 260) = false ∧ (n == 324) = false) := by
  simp only [beq_eq_false_iff_ne]; omega

set_option maxHeartbeats 1600000 in
theorem l4Read_any (a : Option Addr) (cap : Nat) (l : List Int) (n : Int) (w : World) (hz : l.length = 22) (hs : Sl .u64 w a l) (hk : knownB n = true) :
    Calls Try.prog 52 #[.slice a 22 cap, .int .i64 n] w fun e w' => e = .returned (.int .u64 (readV l n)) ∧ Below w.heap.size w w' := by
  obtain ⟨b, off, rfl, hb0, c0⟩ := hs 0 (by omega)
  have cell : ∀ j, j < 22 → w.cell? ⟨b, off + j, none⟩ = some (.int .u64 (l.getD j 0)) := by
    intro j hj
    obtain ⟨b', off', e, _, hc⟩ := hs j (by omega)
    simp only [Option.some.injEq, Addr.mk.injEq, and_true] at e
    obtain ⟨rfl, rfl⟩ := e
    exact hc
  rcases readV_cases n with rfl | rfl | rfl | rfl | rfl | ⟨d1, d2, d3, d4, d5⟩
  · go_enter Try.func52, Try.ntmps52
    go_wp2_with fail
    go_ret
    exact ⟨rfl, Below.refl _ _⟩
  · go_enter Try.func52, Try.ntmps52
    go_wp2_with fail
    go_ret
    exact ⟨rfl, Below.refl _ _⟩
  · have F : Hid (readV l 256 = bits .and .u64 (l.getD 0 0) 786722) := (rfl : readV l 256 = _)
    have k0 := cell 0 (by omega)
    rw [Nat.add_zero] at k0
    clear cell c0
    generalize l.getD 0 0 = y at *
    go_enter Try.func52, Try.ntmps52
    go_wp2_with fail
    go_ret
    exact ⟨by rw [F.out]; rfl, Below.refl _ _⟩
  · have F : Hid (readV l 260 = bits .and .u64 (l.getD 3 0) (l.getD 2 0)) := (rfl : readV l 260 = _)
    have k3 := cell 3 (by omega)
    have k2 := cell 2 (by omega)
    clear cell c0
    generalize l.getD 3 0 = y at *
    generalize l.getD 2 0 = z at *
    go_enter Try.func52, Try.ntmps52
    go_wp2_with fail
    go_quiet (fail)
    go_wp2_with fail
    go_ret
    exact ⟨by rw [F.out]; rfl, ⟨rfl, rfl, rfl, Nat.le_refl _, fun _ _ => rfl⟩⟩
  · have F : Hid (readV l 324 = bits .and .u64 (l.getD 9 0) (l.getD 2 0)) := (rfl : readV l 324 = _)
    have k3 := cell 9 (by omega)
    have k2 := cell 2 (by omega)
    clear cell c0
    generalize l.getD 9 0 = y at *
    generalize l.getD 2 0 = z at *
    go_enter Try.func52, Try.ntmps52
    go_wp2_with fail
    go_quiet (fail)
    go_wp2_with fail
    go_ret
    exact ⟨by rw [F.out]; rfl, ⟨rfl, rfl, rfl, Nat.le_refl _, fun _ _ => rfl⟩⟩
  · have hp : 0 ≤ placeV n := by
      simp only [knownB, d1, d2, Bool.false_or, decide_eq_true_eq] at hk; exact hk
    have hb := placeV_bd n
    obtain ⟨k, hk2⟩ : ∃ k : Nat, placeV n = (k : Int) := ⟨(placeV n).toNat, by omega⟩
    have kk : k < 22 := by omega
    have F : Hid (readV l n = l.getD k 0) := by
      show _ = _
      simp only [beq_eq_false_iff_ne] at d1 d2 d3 d4 d5
      unfold readV
      rw [if_neg d1, if_neg d2, if_neg d3, if_neg d4, if_neg d5, hk2, Int.toNat_natCast]
    have HP : Hid (∀ w, Calls Try.prog 87 #[.int .i64 n] w fun e w' => e = .returned (.int .i64 (k : Int)) ∧ Below w.heap.size w w') := by rw [← hk2]; exact specPlace_any n
    have KC : Hid (w.cell? ⟨b, off + k, none⟩ = some (.int .u64 (l.getD k 0))) := cell k kk
    clear cell c0 hk2 hb hp hk
    generalize l.getD k 0 = y at *
    go_enter Try.func52, Try.ntmps52
    go_wp2_with fail
    refine (HP.out _).mono ?_
    rintro e w1 ⟨rfl, hb1⟩
    have KC1 : w1.cell? ⟨b, off + k, none⟩ = some (.int .u64 y) := (hb1.cell (by exact hb0)).trans KC.out
    go_wp2_with fail
    go_ret
    exact ⟨by rw [F.out]; rfl, hb1⟩

/-- What ReadCsr hands back. -/
def readO (m : Nat) (l : List Int) (n p : Int) : Int := if mayB m l n p = true then readV l n else 0

theorem specReadCsr_any (a : Option Addr) (m cap : Nat) (l : List Int) (n p : Int) (w : World) (hz : l.length = m) (hs : Sl .u64 w a l) :
    Calls Try.prog 18 #[.slice a m cap, .int .i64 n, .int .i64 p] w fun e w' => e = .returned (.tuple #[.int .u64 (readO m l n p), .bool (mayB m l n p)]) ∧ Below w.heap.size w w' := by
  have HM : Hid (∀ w, Sl .u64 w a l → Calls Try.prog 50 #[.slice a m cap, .int .i64 n, .int .i64 p] w fun e w' => e = .returned (.bool (mayB m l n p)) ∧ Below w.heap.size w w') := fun w hs => l4May_any a m cap l n p w hz hs
  have HS : Hid (Sl .u64 w a l) := hs
  cases hmay : mayB m l n p with
  | false =>
    have F : Hid (readO m l n p = 0) := by show _ = _; simp [readO, hmay]
    rw [hmay] at HM
    clear hmay hs
    go_enter Try.func18, Try.ntmps18
    go_wp2_with fail
    refine (HM.out _ HS.out).mono ?_
    rintro e w1 ⟨rfl, hb⟩
    go_wp2_with fail
    go_ret2
    exact ⟨by rw [F.out]; rfl, hb⟩
  | true =>
    obtain ⟨rfl, hkn⟩ := mayB_parts hmay
    have F : Hid (readO 22 l n p = readV l n) := by show _ = _; simp [readO, hmay]
    rw [hmay] at HM
    have HR : Hid (∀ w, Sl .u64 w a l → Calls Try.prog 52 #[.slice a 22 cap, .int .i64 n] w fun e w' => e = .returned (.int .u64 (readV l n)) ∧ Below w.heap.size w w') := fun w hs => l4Read_any a cap l n w hz hs hkn
    clear hmay hs hkn
    generalize readV l n = y at *
    go_enter Try.func18, Try.ntmps18
    go_wp2_with fail
    refine (HM.out _ HS.out).mono ?_
    rintro e w1 ⟨rfl, hb⟩
    have HB : Hid (Below w.heap.size w w1) := hb
    clear hb
    go_wp2_with fail
    refine (HR.out _ (HS.out.below HB.out)).mono ?_
    rintro e w2 ⟨rfl, hb2⟩
    go_wp2_with fail
    go_ret2
    exact ⟨by rw [F.out]; rfl, below_trans HB.out hb2⟩

end Go.Proofs.Ytgcbdlfljplkbab
