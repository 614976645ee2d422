/- Own lemmas. -/
import Derived.Test.YtdllhjehokpefaaK02
import Derived.Test.YtdllhjehokpefaaK08
import Derived.Test.YtdllhjehokpefaaK09
import Derived.Deep.RegionHeld3
namespace Go.Proofs.Ytdllhjehokpefaa
open Go.RowKit
set_option linter.unusedVariables false

structure Dk (w0 : World) (g : Nat) (a : Option Addr) (n cap : Nat) (w : World) (r o b : Nat) (ss : List Slt) (wr : World) : Prop where
  cu : Cs w0 g a n cap w wr
  res : wr.heap[r]? = some (.cells #[.slice none 0 0] 26 (0, 0))
  out : wr.heap[o]? = some (.cells #[.slice (some ⟨b, 0, none⟩) 16 16] 26 (0, 0))
  row : wr.ownsRow w.heap.size 60 5 (.slice (some ⟨b, 0, none⟩) 16 16) 16 (flatS ss)
  words : Sw ss
  gr : g ≠ r
  go : g ≠ o
  gb : g ≠ b
  ro : r ≠ o
  rb : r ≠ b
  ob : o ≠ b
  wr_ : w.heap.size ≤ r
  wo : w.heap.size ≤ o
  wb : w.heap.size ≤ b
  w0w : w0.heap.size ≤ w.heap.size

theorem Dk.next {w0 : World} {g : Nat} {a : Option Addr} {n cap : Nat} {w : World} {r o b : Nat} {ss : List Slt} {wr wx : World} (h : Dk w0 g a n cap w r o b ss wr) (k : Cs w0 g a n cap wr wx) : Dk w0 g a n cap w r o b ss wx :=
  ⟨h.cu.trans k, (k.2.block r (Array.getElem?_eq_some_iff.1 h.res).1 (by simp; exact fun e => h.gr e.symm)).trans h.res, (k.2.block o (Array.getElem?_eq_some_iff.1 h.out).1 (by simp; exact fun e => h.go e.symm)).trans h.out,
    h.row.kept k.2 (.inr (by simp [Value.ownBlock]; exact fun e => h.gb e.symm)), h.words, h.gr, h.go, h.gb, h.ro, h.rb, h.ob, h.wr_, h.wo, h.wb, h.w0w⟩

theorem Dk.below {w0 : World} {g : Nat} {a : Option Addr} {n cap : Nat} {w : World} {r o b : Nat} {ss : List Slt} {wr wx : World} (h : Dk w0 g a n cap w r o b ss wr) (k : Below wr.heap.size wr wx) : Dk w0 g a n cap w r o b ss wx := h.next (Cs.of_below h.cu.1 k)

theorem Dk.len {w0 : World} {g : Nat} {a : Option Addr} {n cap : Nat} {w : World} {r o b : Nat} {ss : List Slt} {wr : World} (h : Dk w0 g a n cap w r o b ss wr) : ss.length = 16 := by
  have := h.row.1
  rw [flatS_len] at this
  omega

theorem Dk.put {w0 : World} {g : Nat} {a : Option Addr} {n cap : Nat} {w : World} {r o b : Nat} {ss : List Slt} {wr : World} (h : Dk w0 g a n cap w r o b ss wr) (i : Nat) (hi : i < 16) (s : Slt) (hs : (0 ≤ s.g ∧ s.g ≤ 18446744073709551615) ∧ (0 ≤ s.f ∧ s.f ≤ 18446744073709551615)) : Dk w0 g a n cap w r o b (ss.set i s) (put5 wr b i s) := by
  have hp := own_put5 h.row i (by rw [h.len]; exact hi) s
  have hc : Cs w0 g a n cap w (put5 wr b i s) := by
    unfold put5
    exact ((((h.cu.setc b _ _ h.wb h.gb (by have := h.w0w; have := h.wb; omega)).setc b _ _ h.wb h.gb (by have := h.w0w; have := h.wb; omega)).setc b _ _ h.wb h.gb (by have := h.w0w; have := h.wb; omega)).setc b _ _ h.wb h.gb (by have := h.w0w; have := h.wb; omega)).setc b _ _ h.wb h.gb (by have := h.w0w; have := h.wb; omega)
  exact ⟨hc, (hp.2.block r (Array.getElem?_eq_some_iff.1 h.res).1 (by simp; exact h.rb)).trans h.res, (hp.2.block o (Array.getElem?_eq_some_iff.1 h.out).1 (by simp; exact h.ob)).trans h.out,
    hp.1, h.words.set i s hs, h.gr, h.go, h.gb, h.ro, h.rb, h.ob, h.wr_, h.wo, h.wb, h.w0w⟩

theorem wrapU64_bd (z : Int) : 0 ≤ IntKind.u64.wrap z ∧ IntKind.u64.wrap z ≤ 18446744073709551615 := by
  simp only [IntKind.wrap, IntKind.signed, IntKind.bits]
  simp
  omega

set_option maxRecDepth 100000 in
set_option maxHeartbeats 3200000 in
theorem l10Draw_c {w0 : World} {g : Nat} {a : Option Addr} {n cap : Nat} {zs : List Int} (hcd : Code w0 a n zs) (w : World) (hc : Cur w0 w g a n cap) :
    Calls Try.prog 48 #[.pointer (some ⟨g, 0, none⟩)] w fun e w' => ∃ (b : Nat) (ss : List Slt), e = .returned (.agg #[.slice (some ⟨b, 0, none⟩) 16 16]) ∧ Hid (w'.ownsRow w.heap.size 60 5 (.slice (some ⟨b, 0, none⟩) 16 16) 16 (flatS ss) ∧ Sw ss ∧ g < w.heap.size) ∧ Hid (Cs w0 g a n cap w w') := by
  have HD : Hid (Code w0 a n zs) := hcd
  have HC := dhid hc
  have hgl : g < w.heap.size := by obtain ⟨i, h, _, hr⟩ := hc.row; exact (Array.getElem?_eq_some_iff.1 hr).1
  have hw0 := hc.below.size
  have HN := dhid (fun (w' : World) => specNewCache_any w')
  clear hcd hc
  go_enter Try.func48, Try.ntmps48
  go_wp2_with fail
  refine (HN.out _).mono ?_
  rintro e w1 ⟨b, rfl, ow1, hb1⟩
  have r1 := dstays hb1 (heap_alloc_new _ _)
  have z1 := hb1.size
  rw [World.size_alloc] at ow1 z1
  have hb := own_base ow1
  have hbl := own_lt ow1
  have C1 : Cs w0 g a n cap w w1 := (Cs.alloc HC.out _).trans (Cs.of_below (Cs.alloc HC.out _).1 hb1)
  have D1 : Hid (Dk w0 g a n cap w w.heap.size w1.heap.size b (List.replicate 16 slt0) (w1.alloc (.cells #[.slice (some ⟨b, 0, none⟩) 16 16] 26))) :=
    ⟨C1.trans (Cs.alloc C1.1 _), (Below.heap_alloc _ _ _ (by omega)).trans r1, heap_alloc_new _ _, (own_low ow1 (by omega)).alloc _, (fun s hs => by rw [List.eq_of_mem_replicate hs]; simp [slt0]), by omega, by omega, by omega, by omega, by omega, by omega, by omega, by omega, by omega, hw0⟩
  obtain ⟨O, hO⟩ : ∃ O, O = w1.heap.size := ⟨_, rfl⟩
  have Wx : ∃ W, W = w1.alloc (.cells #[.slice (some ⟨b, 0, none⟩) 16 16] 26) := ⟨_, rfl⟩
  obtain ⟨W, hW⟩ := Wx
  clear r1 ow1 hb1 C1 HN
  go_wp2_with fail
  rw [← hW] at D1 ⊢
  rw [← hO] at D1 ⊢
  clear hO hW
  refine (l1Below_c HD.out 12 (by omega) _ D1.out.cu.1).mono ?_
  rintro e w2 ⟨x2, rfl, ⟨hx0, hx1⟩, hs2⟩
  have D2 := dhid (D1.out.next hs2.out)
  clear D1 hs2
  go_wp2_with fail
  go_loopw [4] (fun i wr => ∃ (k : Int) (ss : List Slt), 0 ≤ k ∧ k < 12 ∧ i = .int .i64 k ∧ Hid (Dk w0 g a n cap w w.heap.size O b ss wr)) (fun i _ => (intOf i).toNat)
  case atStart => exact ⟨x2, _, hx0, hx1, rfl, D2⟩
  case round =>
    obtain ⟨k, ss, hk0, hk1, rfl, DW⟩ := hrel
    by_cases hlt : 0 < k
    · have d0 : decide (0 < k) = true := by simpa using hlt
      go_wp2_with fail
      refine (l7DrawVa_c HD.out _ DW.out.cu.1).mono ?_
      rintro e w3 ⟨va, rfl, hva, hs3⟩
      have D3 := dhid (DW.out.next hs3.out)
      clear hs3
      go_wp2_with fail
      refine (l1Below_c HD.out 3 (by omega) _ D3.out.cu.1).mono ?_
      rintro e w4 ⟨y4, rfl, ⟨h40, h41⟩, hs4⟩
      have D4 := dhid (D3.out.next hs4.out)
      clear hs4 D3
      go_wp2_with fail
      refine (l1Below_c HD.out 2 (by omega) _ D4.out.cu.1).mono ?_
      rintro e w5 ⟨y5, rfl, ⟨h50, h51⟩, hs5⟩
      have D5 := dhid (D4.out.next hs5.out)
      clear hs5 D4 DW
      go_wp2_with fail
      obtain ⟨ck, hck⟩ : ∃ ck, ck = 1 + y4 := ⟨_, rfl⟩
      have hva2 : 0 ≤ va ∧ va ≤ 18446744073709551615 := by have := hva.out; unfold U at this; omega
      have PB := plS_bd ck y5 (va / 4096)
      obtain ⟨q, hq⟩ : ∃ q : Nat, plS ck y5 (va / 4096) = (q : Int) := ⟨(plS ck y5 (va / 4096)).toNat, by omega⟩
      have HP := dhid (fun w => l10Place_any ck y5 va (by omega) (by omega) hva2 w)
      rw [hq] at HP PB
      have hqlt : q < 16 := by omega
      obtain ⟨Pd, hPd⟩ : ∃ Pd : World → Prop, Pd = fun w' => ∃ ss, Dk w0 g a n cap w w.heap.size O b ss w' := ⟨_, rfl⟩
      have PW : Hid (∀ w', Pd w' → w'.cell? ⟨O, 0, none⟩ = some (.slice (some ⟨b, 0, none⟩) 16 16) ∧ Pd w') := fun w' h => ⟨by rw [hPd] at h; obtain ⟨_, h⟩ := h; exact row_at1 h.out, h⟩
      have p0 : Pd w5.drew := by rw [hPd]; exact ⟨_, D5.out.below (Below.refl _ _).drew⟩
      have HB : Hid (∀ w', Pd w' → Calls Try.prog 50 #[.pointer (some ⟨g, 0, none⟩), .int .i64 2] w' fun e w'' => ∃ y : Int, e = .returned (.int .i64 y) ∧ Pd w'') := by
        rw [hPd]
        exact fun w' ⟨ss, h⟩ => (l1Below_c HD.out 2 (by omega) w' h.cu.1).mono fun e w'' ⟨y, h1, h2, h3⟩ => ⟨y, h1, ss, h.next h3.out⟩
      have HSL : Hid (∀ (t : Int) (w' : World), (0 ≤ t ∧ t ≤ 18446744073709551615) → Pd w' → Calls Try.prog 38 #[.int .i64 ck, .int .i64 y5, .int .u64 va, .int .u64 t] w' fun e w'' => e = .returned (.agg #[.bool true, .int .i64 ck, .int .i64 y5, .int .u64 (va / 4096), .int .u64 (t / 4096)]) ∧ Pd w'') := by
        rw [hPd]
        exact fun t w' ht ⟨ss, h⟩ => (l10Slot_any ck y5 va t w' hva2 ht).mono fun e w'' ⟨h1, h2⟩ => ⟨h1, ss, h.below h2⟩
      have RM : Hid (∀ w', Pd w' → (w'.frozen? ⟨b, q * 5, none⟩ = false ∧ w'.frozen? ⟨b, q * 5 + 1, none⟩ = false ∧ w'.frozen? ⟨b, q * 5 + 2, none⟩ = false ∧ w'.frozen? ⟨b, q * 5 + 3, none⟩ = false ∧ w'.frozen? ⟨b, q * 5 + 4, none⟩ = false) ∧
          ∃ s : Slt, w'.cell? ⟨b, q * 5, none⟩ = some (.bool s.u) ∧ w'.cell? ⟨b, q * 5 + 1, none⟩ = some (.int .i64 s.k) ∧ w'.cell? ⟨b, q * 5 + 2, none⟩ = some (.int .i64 s.p) ∧ w'.cell? ⟨b, q * 5 + 3, none⟩ = some (.int .u64 s.g) ∧ w'.cell? ⟨b, q * 5 + 4, none⟩ = some (.int .u64 s.f)) := by
        rw [hPd]
        exact fun w' ⟨ss, h⟩ => ⟨(own_room h.row q hqlt).1, by obtain ⟨s, _, r⟩ := (own_room h.row q hqlt).2; exact ⟨s, r⟩⟩
      have PP : Hid (∀ (t : Int) (w' : World), (0 ≤ t ∧ t ≤ 18446744073709551615) → Pd w' → Pd (((((w'.setCell ⟨b, q * 5, none⟩ (.bool true)).setCell ⟨b, q * 5 + 1, none⟩ (.int .i64 ck)).setCell ⟨b, q * 5 + 2, none⟩ (.int .i64 y5)).setCell ⟨b, q * 5 + 3, none⟩ (.int .u64 (va / 4096))).setCell ⟨b, q * 5 + 4, none⟩ (.int .u64 (t / 4096)))) := by
        rw [hPd]
        exact fun t w' ht ⟨ss, h⟩ => ⟨_, h.put q hqlt ⟨true, ck, y5, va / 4096, t / 4096⟩ (by dsimp only; omega)⟩
      have EX : Hid (∀ w', Pd w' → ∃ ss, Dk w0 g a n cap w w.heap.size O b ss w') := by rw [hPd]; exact fun w' h => h
      rw [← hck]
      clear D5 hPd hq hva hck
      go_region_held3 (fun w' => w'.cell? ⟨O, 0, none⟩ = some (.slice (some ⟨b, 0, none⟩) 16 16) ∧ Pd w') (first | exact PW.out _ (by assumption)) (first | (go_at_call 39; with_reducible refine (HP.out _).mono ?_; rintro e w8 ⟨rfl, hw8⟩; subst w8) | (go_at_call 50; with_reducible refine (HB.out _ (by assumption)).mono ?_; rintro e w7 ⟨y7, rfl, p7⟩) | (go_at_call 38; with_reducible refine (HSL.out _ _ (wrapU64_bd _) (by assumption)).mono ?_; rintro e w9 ⟨rfl, p9⟩; obtain ⟨⟨f0, f1, f2, f3, f4⟩, s2, d0, d1, d2, d3, d4⟩ := RM.out _ p9; have p10 := PP.out _ _ (wrapU64_bd (2147483648 + IntKind.u64.wrap (4096 * IntKind.u64.wrap y7))) p9))
      generalize ((((w9.setCell ⟨b, q * 5, none⟩ (.bool true)).setCell ⟨b, q * 5 + 1, none⟩ (.int .i64 ck)).setCell ⟨b, q * 5 + 2, none⟩ (.int .i64 y5)).setCell ⟨b, q * 5 + 3, none⟩ (.int .u64 (va / 4096))).setCell ⟨b, q * 5 + 4, none⟩ (.int .u64 (IntKind.u64.wrap (2147483648 + IntKind.u64.wrap (4096 * IntKind.u64.wrap y7)) / 4096)) = W9 at p10 ⊢
      obtain ⟨ss9, d9⟩ := EX.out _ p10
      have D9 := dhid d9
      clear d9 p10 p9 p7 p0 PP RM HSL HB PW EX HP f0 f1 f2 f3 f4 d0 d1 d2 d3 d4
      go_wp2_with fail
      go_roundw
      case rel => exact ⟨k - 1, ss9, by omega, by omega, by go_num, D9⟩
      case measure => simp [intOf]; omega
    · have d0 : decide (0 < k) = false := by simpa using hlt
      have q1 := row_at1 DW.out.out
      have q2 := row_at1 DW.out.res
      have f2 := froz DW.out.res 0
      have n1 : ¬ w.heap.size = O := DW.out.ro
      have n2 : ¬ O = w.heap.size := fun e => DW.out.ro e.symm
      clear hlt
      go_wp2_with fail
      have T1 := row_set DW.out.res 0 (.slice (some ⟨b, 0, none⟩) 16 16)
      have O1 := own_far DW.out.row ⟨w.heap.size, 0, none⟩ (.slice (some ⟨b, 0, none⟩) 16 16) (by intro k hk; simp [Value.ownBlock] at hk; dsimp only; exact fun e => DW.out.rb (by omega))
      have C1 := DW.out.cu.setc w.heap.size 0 (.slice (some ⟨b, 0, none⟩) 16 16) (Nat.le_refl _) (by omega) hw0
      exact bodyPost_ret (results_cell_row Try.results48 _ _ _ _ _ _ _ rfl T1 Try.underlying26 rfl cache_size) rfl ⟨b, ss, rfl, ⟨O1, DW.out.words, hgl⟩, C1⟩

theorem flatS_set1 (s : Slt) (j : Nat) (v : Value) (hj : j < 5) : ∀ (ss : List Slt) (i : Nat), i < ss.length → s.cs = (ss.getD i slt0).cs.set j v → (flatS ss).set (i * 5 + j) v = flatS (ss.set i s) := by
  intro ss
  induction ss with
  | nil => intro i hi; simp at hi
  | cons t ss ih =>
    intro i hi hs
    have hl : t.cs.length = 5 := rfl
    cases i with
    | zero =>
      simp only [List.getD_cons_zero] at hs
      simp only [List.set_cons_zero, flatS, Nat.zero_mul, Nat.zero_add]
      rw [List.set_append_left _ _ (by omega), hs]
    | succ i =>
      have h := ih i (by simpa using hi) (by simpa using hs)
      simp only [List.set_cons_succ, flatS, ← h]
      rw [List.set_append_right _ _ (by omega), hl, show (i + 1) * 5 + j - 5 = i * 5 + j by omega]

theorem Dk.set {w0 : World} {g : Nat} {a : Option Addr} {n cap : Nat} {w : World} {r o b : Nat} {ss : List Slt} {wr : World} (h : Dk w0 g a n cap w r o b ss wr) (i j : Nat) (hi : i < 16) (hj : j < 5) (v : Value) (s : Slt) (hs : s.cs = (ss.getD i slt0).cs.set j v) (hw : (0 ≤ s.g ∧ s.g ≤ 18446744073709551615) ∧ (0 ≤ s.f ∧ s.f ≤ 18446744073709551615)) :
    Dk w0 g a n cap w r o b (ss.set i s) (wr.setCell ⟨b, i * 5 + j, none⟩ v) := by
  have hp := h.row.stored (i * 5 + j) v
  rw [flatS_set1 s j v hj ss i (by rw [h.len]; exact hi) hs] at hp
  exact ⟨h.cu.setc b _ _ h.wb h.gb (by have := h.w0w; have := h.wb; omega), (hp.2.block r (Array.getElem?_eq_some_iff.1 h.res).1 (by simp; exact h.rb)).trans h.res, (hp.2.block o (Array.getElem?_eq_some_iff.1 h.out).1 (by simp; exact h.ob)).trans h.out,
    hp.1, h.words.set i s hw, h.gr, h.go, h.gb, h.ro, h.rb, h.ob, h.wr_, h.wo, h.wb, h.w0w⟩

structure Ck (w : World) (a : Option Addr) (n : Nat) (ss : List Slt) : Prop where
  len : ss.length = n
  few : n ≤ 16
  cells : Ss w a ss
  words : Sw ss

theorem Ck.below {w w' : World} {a : Option Addr} {n : Nat} {ss : List Slt} (h : Ck w a n ss) (hb : Below w.heap.size w w') : Ck w' a n ss := ⟨h.len, h.few, h.cells.below hb, h.words⟩

theorem ss_tail {w : World} {b : Nat} {ss : List Slt} (h : Ss w (some ⟨b, 0, none⟩) ss) : Ss w (some ⟨b, 5, none⟩) (ss.drop 1) := by
  intro i hi
  simp only [List.length_drop] at hi
  obtain ⟨b', off, e, hlt, hc⟩ := h (i + 1) (by omega)
  cases e
  refine ⟨b, 5, rfl, hlt, fun j hj => ?_⟩
  have := hc j hj
  rw [show 0 + (i + 1) * 5 + j = 5 + i * 5 + j by omega] at this
  rw [this]
  simp [List.getD]

theorem sw_tail {ss : List Slt} (h : Sw ss) : Sw (ss.drop 1) := fun s hs => h s (List.mem_of_mem_drop hs)

theorem dk_end {w0 : World} {g : Nat} {a : Option Addr} {n cap : Nat} {w : World} {r o b : Nat} {ss : List Slt} {wr : World} (h : Dk w0 g a n cap w r o b ss wr) (v : Value) : (∀ b' off, (some ⟨b, 0, none⟩ : Option Addr) = some ⟨b', off, none⟩ → w.heap.size ≤ b') ∧ Ck (wr.setCell ⟨r, 0, none⟩ v) (some ⟨b, 0, none⟩) 16 ss ∧ Cs w0 g a n cap w (wr.setCell ⟨r, 0, none⟩ v) :=
  ⟨fun b' off e => by cases e; exact h.wb, ⟨h.len, Nat.le_refl _, own_ss (own_far h.row ⟨r, 0, none⟩ v (by intro k hk; simp [Value.ownBlock] at hk; dsimp only; exact fun e => h.rb (by omega))), h.words⟩, h.cu.setc r 0 v h.wr_ h.gr (by have := h.w0w; have := h.wr_; omega)⟩

set_option maxRecDepth 100000 in
set_option maxHeartbeats 6400000 in
theorem l10DrawAny_c {w0 : World} {g : Nat} {a : Option Addr} {n cap : Nat} {zs : List Int} (hcd : Code w0 a n zs) (w : World) (hc : Cur w0 w g a n cap) :
    Calls Try.prog 28 #[.pointer (some ⟨g, 0, none⟩)] w fun e w' => ∃ (a' : Option Addr) (n' c' : Nat) (ss : List Slt), e = .returned (.agg #[.slice a' n' c']) ∧ Hid (∀ b off, a' = some ⟨b, off, none⟩ → w.heap.size ≤ b) ∧ Hid (Ck w' a' n' ss) ∧ Hid (Cs w0 g a n cap w w') := by
  have HD : Hid (Code w0 a n zs) := hcd
  have HC := dhid hc
  have hgl : g < w.heap.size := by obtain ⟨i, h, _, hr⟩ := hc.row; exact (Array.getElem?_eq_some_iff.1 hr).1
  have hw0 := hc.below.size
  clear hcd hc
  go_enter Try.func28, Try.ntmps28
  go_wp2_with fail
  refine (l10Draw_c HD.out _ (Cs.alloc HC.out _).1).mono ?_
  rintro e w1 ⟨b, ss, rfl, ho, hs1⟩
  obtain ⟨ow1, sw1, -⟩ := ho.out
  have r1 := hs1.out.keep (heap_alloc_new _ _) (Nat.ne_of_gt hgl)
  have z1 := hs1.out.2.size
  rw [World.size_alloc] at ow1 z1
  have hb := own_base ow1
  have hbl := own_lt ow1
  have C1 : Cs w0 g a n cap w w1 := (Cs.alloc HC.out _).trans hs1.out
  have D1 : Hid (Dk w0 g a n cap w w.heap.size w1.heap.size b ss (w1.alloc (.cells #[.slice (some ⟨b, 0, none⟩) 16 16] 26))) :=
    ⟨C1.trans (Cs.alloc C1.1 _), (Below.heap_alloc _ _ _ (by omega)).trans r1, heap_alloc_new _ _, (own_low ow1 (by omega)).alloc _, sw1, by omega, by omega, by omega, by omega, by omega, by omega, by omega, by omega, by omega, hw0⟩
  obtain ⟨O, hO⟩ : ∃ O, O = w1.heap.size := ⟨_, rfl⟩
  obtain ⟨W, hW⟩ : ∃ W, W = w1.alloc (.cells #[.slice (some ⟨b, 0, none⟩) 16 16] 26) := ⟨_, rfl⟩
  clear r1 ow1 sw1 ho hs1 C1
  go_wp2_with fail
  rw [← hW] at D1 ⊢
  rw [← hO] at D1 ⊢
  clear hO hW
  refine (l1Once_c HD.out 14 (by omega) _ D1.out.cu.1).mono ?_
  rintro e w2 ⟨c2, rfl, hs2⟩
  have D2 := dhid (D1.out.next hs2.out)
  have n1 : ¬ w.heap.size = O := D1.out.ro
  have n2 : ¬ O = w.heap.size := fun e => D1.out.ro e.symm
  have n3 : ¬ O = b := D1.out.ob
  have n4 : ¬ b = O := fun e => D1.out.ob e.symm
  have n5 : ¬ w.heap.size = b := D1.out.rb
  have n6 : ¬ b = w.heap.size := fun e => D1.out.rb e.symm
  clear D1 hs2
  cases c2
  case false =>
    have q1 := row_at1 D2.out.out
    have q2 := row_at1 D2.out.res
    have f2 := froz D2.out.res 0
    go_wp2_with fail
    obtain ⟨N1, K1, C1⟩ := dk_end D2.out (.slice (some ⟨b, 0, none⟩) 16 16)
    exact bodyPost_ret (results_cell_row Try.results28 _ _ _ _ _ _ _ rfl (row_set D2.out.res 0 (.slice (some ⟨b, 0, none⟩) 16 16)) Try.underlying26 rfl cache_size) rfl ⟨_, _, _, ss, rfl, N1, K1, C1⟩
  case true =>
    go_wp2_with fail
    obtain ⟨Pd, hPd⟩ : ∃ Pd : World → Prop, Pd = fun w' => Dk w0 g a n cap w w.heap.size O b ss w' := ⟨_, rfl⟩
    have PW : Hid (∀ w', Pd w' → w'.cell? ⟨O, 0, none⟩ = some (.slice (some ⟨b, 0, none⟩) 16 16) ∧ Pd w') := fun w' h => ⟨by rw [hPd] at h; exact row_at1 h.out, h⟩
    have p0 : Pd w2.drew := by rw [hPd]; exact D2.out.below (Below.refl _ _).drew
    have HB : Hid (∀ w', Pd w' → Calls Try.prog 50 #[.pointer (some ⟨g, 0, none⟩), .int .i64 16] w' fun e w'' => ∃ y : Nat, e = .returned (.int .i64 (y : Int)) ∧ y < 16 ∧ Pd w'') := by
      rw [hPd]
      exact fun w' h => (l1Below_c HD.out 16 (by omega) w' h.cu.1).mono fun e w'' ⟨y, h1, h2, h3⟩ => ⟨y.toNat, by rw [h1, Int.toNat_of_nonneg h2.1], by omega, h.next h3.out⟩
    have EX : Hid (∀ w', Pd w' → Dk w0 g a n cap w w.heap.size O b ss w') := by rw [hPd]; exact fun w' h => h
    clear hPd
    go_region_held3 (fun w' => w'.cell? ⟨O, 0, none⟩ = some (.slice (some ⟨b, 0, none⟩) 16 16) ∧ Pd w') (first | exact PW.out _ (by assumption)) (first | (go_at_call 50; with_reducible refine (HB.out _ (by assumption)).mono ?_; rintro e w3 ⟨k, rfl, hk, p3⟩; have hk0 : (0 : Int) ≤ (k : Int) := (by omega); have hk1 : (k : Int) < 16 := (by omega)))
    have D3 := dhid (EX.out _ p3)
    clear p3 p0 PW HB EX
    go_wp2_with fail
    refine (l1Below_c HD.out 6 (by omega) _ D3.out.cu.1).mono ?_
    rintro e w4 ⟨y, rfl, ⟨hy0, hy1⟩, hs4⟩
    have D4 := dhid (D3.out.next hs4.out)
    clear hs4 D3 D2
    obtain ⟨⟨f0, f1, f2, f3, f4⟩, s, hss, d0, d1, d2, d3, d4⟩ := own_room D4.out.row k hk
    have gb : (0 ≤ s.g ∧ s.g ≤ 18446744073709551615) ∧ (0 ≤ s.f ∧ s.f ≤ 18446744073709551615) := by rw [← hss]; exact D4.out.words.get k
    obtain ⟨su, sk, sp, sg, sf⟩ := s
    dsimp only at d0 d1 d2 d3 d4 gb
    have HSS := dhid hss
    clear hss
    have qo := row_at1 D4.out.out
    have qr := row_at1 D4.out.res
    have fo := froz D4.out.out 0
    have fr := froz D4.out.res 0
    have six : y = 0 ∨ y = 1 ∨ y = 2 ∨ y = 3 ∨ y = 4 ∨ y = 5 := by omega
    rcases six with rfl | rfl | rfl | rfl | rfl | rfl
    · go_wp2_with fail
      have T1 := row_set (row_far D4.out.res ⟨O, 0, none⟩ (.slice (some ⟨b, 5, none⟩) 15 15) (by dsimp only; omega)) 0 (.slice (some ⟨b, 5, none⟩) 15 15)
      have O1 := own_far (own_far D4.out.row ⟨O, 0, none⟩ (.slice (some ⟨b, 5, none⟩) 15 15) (by intro k hk; simp [Value.ownBlock] at hk; dsimp only; omega)) ⟨w.heap.size, 0, none⟩ (.slice (some ⟨b, 5, none⟩) 15 15) (by intro k hk; simp [Value.ownBlock] at hk; dsimp only; omega)
      have C1 := (D4.out.cu.setc O 0 (.slice (some ⟨b, 5, none⟩) 15 15) D4.out.wo D4.out.go (by have := D4.out.wo; omega)).setc w.heap.size 0 (.slice (some ⟨b, 5, none⟩) 15 15) (Nat.le_refl _) (by omega) hw0
      exact bodyPost_ret (results_cell_row Try.results28 _ _ _ _ _ _ _ rfl T1 Try.underlying26 rfl cache_size) rfl ⟨_, _, _, ss.drop 1, rfl, (fun b' off e => by cases e; exact D4.out.wb), ⟨by rw [List.length_drop, D4.out.len], by omega, ss_tail (own_ss O1), sw_tail D4.out.words⟩, C1⟩
    · have D9 := D4.out.set k 0 hk (by omega) (.bool (!su)) ⟨!su, sk, sp, sg, sf⟩ (by rw [HSS.out]; rfl) (by dsimp only; omega)
      go_wp2_with fail
      obtain ⟨N1, K1, C1⟩ := dk_end D9 (.slice (some ⟨b, 0, none⟩) 16 16)
      exact bodyPost_ret (results_cell_row Try.results28 _ _ _ _ _ _ _ rfl (row_set D9.res 0 (.slice (some ⟨b, 0, none⟩) 16 16)) Try.underlying26 rfl cache_size) rfl ⟨_, _, _, _, rfl, N1, K1, C1⟩
    · have HBA : Hid (Calls Try.prog 50 #[.pointer (some ⟨g, 0, none⟩), .int .i64 3] (w4.alloc (.cells #[.int .u64 1, .int .u64 16, .int .u64 4503599627370496] 27)).drew fun e w' => ∃ (i : Nat) (u : Int), e = .returned (.int .i64 i) ∧ i < 3 ∧ Hid (Dk w0 g a n cap w w.heap.size O b ss w') ∧ w'.cell? ⟨b, k * 5 + 3, none⟩ = some (.int .u64 sg) ∧ w'.frozen? ⟨b, k * 5 + 3, none⟩ = false ∧ w'.cell? ⟨w4.heap.size, i, none⟩ = some (.int .u64 u)) := by
        have DA := D4.out.below (((Below.refl w4.heap.size w4).alloc (Nat.le_refl _) (.cells #[.int .u64 1, .int .u64 16, .int .u64 4503599627370496] 27)).drew)
        refine (l1Below_c HD.out 3 (by omega) _ DA.cu.1).mono fun e w' ⟨y, h1, h2, h3⟩ => ?_
        have DB := DA.next h3.out
        obtain ⟨ff, s, hs, r⟩ := own_room DB.row k hk
        rw [HSS.out] at hs
        subst hs
        have hr := h3.out.2.block w4.heap.size (by simp) (by have := (Array.getElem?_eq_some_iff.1 D4.out.out).1; simp; intro e; have := hgl; have := D4.out.wo; omega)
        obtain ⟨u, _, hu⟩ := few_words [1, 16, 4503599627370496] 27 (hr.trans (heap_alloc_new w4 (.cells #[.int .u64 1, .int .u64 16, .int .u64 4503599627370496] 27))) (by intro x hx; simp only [List.mem_cons, List.not_mem_nil, or_false] at hx; unfold U; omega) (k := y.toNat) (by simp; omega)
        exact ⟨y.toNat, u, by rw [h1, Int.toNat_of_nonneg h2.1], by omega, DB, r.2.2.2.1, ff.2.2.2.1, hu⟩
      have HBB : Hid (Calls Try.prog 50 #[.pointer (some ⟨g, 0, none⟩), .int .i64 3] w4.drew fun e w' => ∃ (i : Nat) (u : Int), e = .returned (.int .i64 i) ∧ i < 3 ∧ Hid (Dk w0 g a n cap w w.heap.size O b ss w') ∧ w'.cell? ⟨b, k * 5 + 3, none⟩ = some (.int .u64 sg) ∧ (∀ o, (w'.alloc o).cell? ⟨b, k * 5 + 3, none⟩ = some (.int .u64 sg)) ∧ (∀ o, (w'.alloc o).frozen? ⟨b, k * 5 + 3, none⟩ = false) ∧ (w'.alloc (.cells #[.int .u64 1, .int .u64 16, .int .u64 4503599627370496] 27)).cell? ⟨w'.heap.size, i, none⟩ = some (.int .u64 u)) := by
        have DA := D4.out.below (Below.refl w4.heap.size w4).drew
        refine (l1Below_c HD.out 3 (by omega) _ DA.cu.1).mono fun e w' ⟨y, h1, h2, h3⟩ => ?_
        have DB := DA.next h3.out
        obtain ⟨ff, s, hs, r⟩ := own_room DB.row k hk
        rw [HSS.out] at hs
        subst hs
        obtain ⟨u, _, hu⟩ := few_words [1, 16, 4503599627370496] 27 (heap_alloc_new w' (.cells #[.int .u64 1, .int .u64 16, .int .u64 4503599627370496] 27)) (by intro x hx; simp only [List.mem_cons, List.not_mem_nil, or_false] at hx; unfold U; omega) (k := y.toNat) (by simp; omega)
        exact ⟨y.toNat, u, by rw [h1, Int.toNat_of_nonneg h2.1], by omega, DB, r.2.2.2.1, fun o => (own_room (DB.row.alloc o) k hk).2.elim fun s' hs' => by have e := hs'.1; rw [HSS.out] at e; rw [← e] at hs'; exact hs'.2.2.2.2.1, fun o => (own_room (DB.row.alloc o) k hk).1.2.2.2.1, hu⟩
      have hA : ∀ o, (w4.alloc o).drew.cell? ⟨b, k * 5 + 3, none⟩ = some (.int .u64 sg) := fun o => (((Below.refl w4.heap.size w4).alloc (Nat.le_refl _) o).drew.cell (World.block_lt_of_cell? _ _ d3)).trans d3
      clear d0 d1 d2 d4 f0 f1 f2 f4 qo qr fo fr
      go_wp2_with fail
      go_region_with (first | (go_at_call 50; with_reducible refine HBA.out.mono ?_; rintro e w5 ⟨i5, u5, rfl, hi5, R5, h1, h2, h3⟩; have hi0 : (0 : Int) ≤ (i5 : Int) := (by omega); have hi1 : (i5 : Int) < 3 := (by omega)) | (go_at_call 50; with_reducible refine HBB.out.mono ?_; rintro e w5 ⟨i5, u5, rfl, hi5, R5, h1, h2, h3, h4⟩; have hi0 : (0 : Int) ≤ (i5 : Int) := (by omega); have hi1 : (i5 : Int) < 3 := (by omega)))
      all_goals have KA := dhid (R5.out.set k 3 hk (by omega) (.int .u64 (IntKind.u64.wrap (sg + u5))) ⟨su, sk, sp, IntKind.u64.wrap (sg + u5), sf⟩ (by rw [HSS.out]; rfl) ⟨wrapU64_bd _, gb.2⟩)
      all_goals have KB := dhid ((R5.out.below ((Below.refl w5.heap.size w5).alloc (Nat.le_refl _) (.cells #[.int .u64 1, .int .u64 16, .int .u64 4503599627370496] 27))).set k 3 hk (by omega) (.int .u64 (IntKind.u64.wrap (sg + u5))) ⟨su, sk, sp, IntKind.u64.wrap (sg + u5), sf⟩ (by rw [HSS.out]; rfl) ⟨wrapU64_bd _, gb.2⟩)
      all_goals first
        | (obtain ⟨W9, hW9⟩ : ∃ W9, W9 = (w5.alloc (.cells #[.int .u64 1, .int .u64 16, .int .u64 4503599627370496] 27)).setCell ⟨b, k * 5 + 3, none⟩ (.int .u64 (IntKind.u64.wrap (sg + u5))) := ⟨_, rfl⟩; rw [← hW9]; rw [← hW9] at KB; have D9 := KB; clear hW9 h1 h2 h3 h4 KA KB)
        | (obtain ⟨W9, hW9⟩ : ∃ W9, W9 = w5.setCell ⟨b, k * 5 + 3, none⟩ (.int .u64 (IntKind.u64.wrap (sg + u5))) := ⟨_, rfl⟩; rw [← hW9]; rw [← hW9] at KA; have D9 := KA; clear hW9 h1 h2 h3 KA KB)
      all_goals have q1 := row_at1 D9.out.out
      all_goals have q2 := row_at1 D9.out.res
      all_goals have f2 := froz D9.out.res 0
      all_goals clear HBA HBB hA d3 f3 R5
      all_goals go_wp2_with fail
      all_goals
        obtain ⟨N1, K1, C1⟩ := dk_end D9.out (.slice (some ⟨b, 0, none⟩) 16 16)
        exact bodyPost_ret (results_cell_row Try.results28 _ _ _ _ _ _ _ rfl (row_set D9.out.res 0 (.slice (some ⟨b, 0, none⟩) 16 16)) Try.underlying26 rfl cache_size) rfl ⟨_, _, _, _, rfl, N1, K1, C1⟩
    · have D9 := D4.out.set k 4 hk (by omega) (.int .u64 4503599627370496) ⟨su, sk, sp, sg, 4503599627370496⟩ (by rw [HSS.out]; rfl) (by dsimp only; omega)
      go_wp2_with fail
      obtain ⟨N1, K1, C1⟩ := dk_end D9 (.slice (some ⟨b, 0, none⟩) 16 16)
      exact bodyPost_ret (results_cell_row Try.results28 _ _ _ _ _ _ _ rfl (row_set D9.res 0 (.slice (some ⟨b, 0, none⟩) 16 16)) Try.underlying26 rfl cache_size) rfl ⟨_, _, _, _, rfl, N1, K1, C1⟩
    · have D9 := D4.out.set k 2 hk (by omega) (.int .i64 3) ⟨su, sk, 3, sg, sf⟩ (by rw [HSS.out]; rfl) (by dsimp only; omega)
      go_wp2_with fail
      obtain ⟨N1, K1, C1⟩ := dk_end D9 (.slice (some ⟨b, 0, none⟩) 16 16)
      exact bodyPost_ret (results_cell_row Try.results28 _ _ _ _ _ _ _ rfl (row_set D9.res 0 (.slice (some ⟨b, 0, none⟩) 16 16)) Try.underlying26 rfl cache_size) rfl ⟨_, _, _, _, rfl, N1, K1, C1⟩
    · go_wp2_with fail
      refine (l1From_c HD.out (-1) 4 (by omega) (by omega) (by omega) (by omega) _ D4.out.cu.1).mono ?_
      rintro e w5 ⟨x5, rfl, -, hs5⟩
      have D5 := dhid (D4.out.next hs5.out)
      have D9 := D5.out.set k 1 hk (by omega) (.int .i64 x5) ⟨su, x5, sp, sg, sf⟩ (by rw [HSS.out]; rfl) (by dsimp only; omega)
      clear f0 f1 f2 f3 f4 d0 d1 d2 d3 d4 qo qr fo fr hs5 D4
      obtain ⟨⟨f0, f1, f2, f3, f4⟩, s, -, d0, d1, d2, d3, d4⟩ := own_room D5.out.row k hk
      have qo := row_at1 D5.out.out
      have qr := row_at1 D5.out.res
      have fo := froz D5.out.out 0
      have fr := froz D5.out.res 0
      go_wp2_with fail
      obtain ⟨N1, K1, C1⟩ := dk_end D9 (.slice (some ⟨b, 0, none⟩) 16 16)
      exact bodyPost_ret (results_cell_row Try.results28 _ _ _ _ _ _ _ rfl (row_set D9.res 0 (.slice (some ⟨b, 0, none⟩) 16 16)) Try.underlying26 rfl cache_size) rfl ⟨_, _, _, _, rfl, N1, K1, C1⟩

theorem Cs.ck {w0 : World} {g : Nat} {a : Option Addr} {n cap : Nat} {w w' : World} (h : Cs w0 g a n cap w w') {a' : Option Addr} {n' : Nat} {ss : List Slt} (k : Ck w a' n' ss) (hne : ∀ b off, a' = some ⟨b, off, none⟩ → b ≠ g) : Ck w' a' n' ss :=
  ⟨k.len, k.few, fun i hi => by
    obtain ⟨b, off, e, hlt, hc⟩ := k.cells i hi
    exact ⟨b, off, e, Nat.lt_of_lt_of_le hlt h.2.size, fun j hj => (World.cell?_of_block (h.2.block b hlt (by simp; exact hne b off e))).trans (hc j hj)⟩, k.words⟩

theorem cells5z {W : World} {g : Nat} {a b c d e : Value} {t : TypeId} (h : W.heap[g]? = some (.cells #[a, b, c, d, e] t (0, 0))) : W.cell? ⟨g, 0, none⟩ = some a ∧ W.cell? ⟨g, 1, none⟩ = some b ∧ W.cell? ⟨g, 2, none⟩ = some c ∧ W.cell? ⟨g, 3, none⟩ = some d ∧ W.cell? ⟨g, 4, none⟩ = some e := by
  refine ⟨?_, ?_, ?_, ?_, ?_⟩ <;> simp [World.cell?, h]

theorem or_U (a b : Int) : U (bits .or .u64 a b) := by
  have : 0 ≤ bits .or .u64 a b ∧ bits .or .u64 a b ≤ 18446744073709551615 := wrapU64_bd _
  unfold U
  omega

set_option maxRecDepth 100000 in
set_option maxHeartbeats 3200000 in
theorem l10DrawVa_c {w0 : World} {g : Nat} {a : Option Addr} {n cap : Nat} {zs : List Int} (hcd : Code w0 a n zs) (w : World) (hc : Cur w0 w g a n cap) (a' : Option Addr) (n' c' : Nat) (ss : List Slt) (hk : Ck w a' n' ss) (hne : ∀ b off, a' = some ⟨b, off, none⟩ → b ≠ g) :
    Calls Try.prog 29 #[.pointer (some ⟨g, 0, none⟩), .agg #[.slice a' n' c']] w fun e w' => ∃ k p va : Int, e = .returned (.tuple #[.int .i64 k, .int .i64 p, .int .u64 va]) ∧ Hid (U va) ∧ Hid (Cs w0 g a n cap w w') := by
  have HD : Hid (Code w0 a n zs) := hcd
  have HC := dhid hc
  have hgl : g < w.heap.size := by obtain ⟨i, h, _, hr⟩ := hc.row; exact (Array.getElem?_eq_some_iff.1 hr).1
  have HK := dhid hk
  have HN := dhid hne
  clear hcd hc hk hne
  go_enter Try.func29, Try.ntmps29
  go_wp2_with fail
  have C0 := dhid (Cs.alloc HC.out (.cells #[.slice a' n' c'] 26))
  have R0 := dhid (heap_alloc_new w (.cells #[.slice a' n' c'] 26))
  refine (l6DrawKind_c HD.out _ C0.out.1).mono ?_
  rintro e w1 ⟨x1, rfl, hs1⟩
  have C1 := dhid (C0.out.trans hs1.out)
  have R1 := dhid (hs1.out.keep R0.out (Nat.ne_of_gt hgl))
  clear hs1 C0 R0
  go_wp2_with fail
  refine (l1Below_c HD.out 2 (by omega) _ C1.out.1).mono ?_
  rintro e w2 ⟨x2, rfl, -, hs2⟩
  have C2 := dhid (C1.out.trans hs2.out)
  have R2 := dhid (hs2.out.keep R1.out (Nat.ne_of_gt hgl))
  clear hs2 C1 R1
  go_wp2_with fail
  refine (l7DrawVa_c HD.out _ C2.out.1).mono ?_
  rintro e w3 ⟨x3, rfl, hu3, hs3⟩
  have C3 := dhid (C2.out.trans hs3.out)
  have R3 := dhid (hs3.out.keep R2.out (Nat.ne_of_gt hgl))
  clear hs3 C2 R2
  go_wp2_with fail
  refine (l1Once_c HD.out 2 (by omega) _ C3.out.1).mono ?_
  rintro e w4 ⟨c4, rfl, hs4⟩
  have C4 := dhid (C3.out.trans hs4.out)
  have R4 := dhid (hs4.out.keep R3.out (Nat.ne_of_gt hgl))
  clear hs4 C3 R3
  have q4 := row_at1 R4.out
  cases c4
  case false =>
    go_wp2_with fail
    refine (l1Once_c HD.out 20 (by omega) _ C4.out.1).mono ?_
    rintro e wA ⟨cA, rfl, hsA⟩
    have CA := dhid (C4.out.trans hsA.out)
    clear hsA
    cases cA
    · go_wp2_with fail
      exact bodyPost_ret (results_d3 Try.results29 _ _ _) rfl ⟨_, _, _, rfl, hu3, CA⟩
    · go_wp2_with fail
      have HA := Cs.alloc CA.out.1 (.cells #[.int .i64 3, .int .i64 (-1), .int .i64 2] 2)
      refine (l1Below_c HD.out 3 (by omega) _ HA.1).mono ?_
      rintro e wB ⟨xB, rfl, ⟨hB0, hB1⟩, hsB⟩
      obtain ⟨kB, rfl⟩ := Int.eq_ofNat_of_zero_le hB0
      obtain ⟨vB, -, hcB⟩ := few_ints [3, -1, 2] 2 (hsB.out.keep (heap_alloc_new _ _) (Nat.ne_of_gt CA.out.1.lt)) (by intro x hx; simp only [List.mem_cons, List.not_mem_nil, or_false] at hx; rcases hx with rfl | rfl | rfl <;> rfl) (k := kB) (by simp; omega)
      have CB := dhid (CA.out.trans (HA.trans hsB.out))
      clear hsB HA CA
      go_wp2_with fail
      exact bodyPost_ret (results_d3 Try.results29 _ _ _) rfl ⟨_, _, _, rfl, hu3, CB⟩
  by_cases h16 : n' = 16
  case neg =>
    have d16 : ((n' : Int) == 16) = false := by simp; omega
    go_wp2_with fail
    refine (l1Once_c HD.out 20 (by omega) _ C4.out.1).mono ?_
    rintro e wA ⟨cA, rfl, hsA⟩
    have CA := dhid (C4.out.trans hsA.out)
    clear hsA
    cases cA
    · go_wp2_with fail
      exact bodyPost_ret (results_d3 Try.results29 _ _ _) rfl ⟨_, _, _, rfl, hu3, CA⟩
    · go_wp2_with fail
      have HA := Cs.alloc CA.out.1 (.cells #[.int .i64 3, .int .i64 (-1), .int .i64 2] 2)
      refine (l1Below_c HD.out 3 (by omega) _ HA.1).mono ?_
      rintro e wB ⟨xB, rfl, ⟨hB0, hB1⟩, hsB⟩
      obtain ⟨kB, rfl⟩ := Int.eq_ofNat_of_zero_le hB0
      obtain ⟨vB, -, hcB⟩ := few_ints [3, -1, 2] 2 (hsB.out.keep (heap_alloc_new _ _) (Nat.ne_of_gt CA.out.1.lt)) (by intro x hx; simp only [List.mem_cons, List.not_mem_nil, or_false] at hx; rcases hx with rfl | rfl | rfl <;> rfl) (k := kB) (by simp; omega)
      have CB := dhid (CA.out.trans (HA.trans hsB.out))
      clear hsB HA CA
      go_wp2_with fail
      exact bodyPost_ret (results_d3 Try.results29 _ _ _) rfl ⟨_, _, _, rfl, hu3, CB⟩
  subst h16
  obtain ⟨b, off, rfl⟩ : ∃ b off, a' = some ⟨b, off, none⟩ := by obtain ⟨b, off, e, _⟩ := HK.out.cells 0 (by rw [HK.out.len]; omega); exact ⟨b, off, e⟩
  obtain ⟨Pd, hPd⟩ : ∃ Pd : World → Prop, Pd = fun w' => Cs w0 g a n cap w w' ∧ w'.heap[w.heap.size]? = some (.cells #[.slice (some ⟨b, off, none⟩) 16 c'] 26 (0, 0)) ∧ w'.heap[b]? = w4.heap[b]? := ⟨_, rfl⟩
  obtain ⟨hbg, hbl⟩ : b ≠ g ∧ b < w.heap.size := by
    obtain ⟨b', off', e, hlt, _⟩ := HK.out.cells 0 (by rw [HK.out.len]; omega)
    cases e
    exact ⟨HN.out b off rfl, hlt⟩
  have PW : Hid (∀ w', Pd w' → w'.cell? ⟨w.heap.size, 0, none⟩ = some (.slice (some ⟨b, off, none⟩) 16 c') ∧ (∀ x, w'.cell? ⟨b, x, none⟩ = w4.cell? ⟨b, x, none⟩) ∧ Pd w') := fun w' h => ⟨by rw [hPd] at h; exact row_at1 h.2.1, fun x => by rw [hPd] at h; exact World.cell?_of_block h.2.2, h⟩
  have PN : Hid (∀ w' w'', Pd w' → Cs w0 g a n cap w' w'' → Pd w'') := by rw [hPd]; exact fun w' w'' h k => ⟨h.1.trans k, k.keep h.2.1 (Nat.ne_of_gt hgl), (k.2.block b (Nat.lt_of_lt_of_le hbl h.1.2.size) (by simp; exact hbg)).trans h.2.2⟩
  have PC : Hid (∀ w', Pd w' → Cs w0 g a n cap w w') := by rw [hPd]; exact fun w' h => h.1
  have p4 : Pd w4 := by rw [hPd]; exact ⟨C4.out, R4.out, rfl⟩
  have p0 : Pd w4.drew := PN.out w4 _ p4 (Cs.of_below C4.out.1 (Below.refl _ _).drew)
  have PA : Hid (∀ w' o, Pd w' → Pd (w'.alloc o)) := fun w' o h => PN.out w' _ h (Cs.alloc (PC.out _ h).1 o)
  have pA : Hid (∀ o, Pd (w4.alloc o).drew) := fun o => PN.out _ _ (PA.out w4 o p4) (Cs.of_below (PC.out _ (PA.out w4 o p4)).1 (Below.refl _ _).drew)
  have HB : Hid (∀ w', Pd w' → Calls Try.prog 50 #[.pointer (some ⟨g, 0, none⟩), .int .i64 16] w' fun e w'' => ∃ y : Nat, e = .returned (.int .i64 (y : Int)) ∧ y < 16 ∧ Pd w'') := fun w' h => (l1Below_c HD.out 16 (by omega) w' (PC.out _ h).1).mono fun e w'' ⟨y, h1, h2, h3⟩ => ⟨y.toNat, by rw [h1, Int.toNat_of_nonneg h2.1], by omega, PN.out _ _ h h3.out⟩
  have HBA : Hid (Calls Try.prog 50 #[.pointer (some ⟨g, 0, none⟩), .int .i64 16] (w4.alloc (.cells #[.bool false, .int .i64 0, .int .i64 0, .int .u64 0, .int .u64 0] 60)).drew fun e w'' => ∃ y : Nat, e = .returned (.int .i64 (y : Int)) ∧ y < 16 ∧ Pd w'' ∧ w''.heap[w4.heap.size]? = some (.cells #[.bool false, .int .i64 0, .int .i64 0, .int .u64 0, .int .u64 0] 60)) :=
    (l1Below_c HD.out 16 (by omega) _ (PC.out _ (pA.out _)).1).mono fun e w'' ⟨y, h1, h2, h3⟩ => ⟨y.toNat, by rw [h1, Int.toNat_of_nonneg h2.1], by omega, PN.out _ _ (pA.out _) h3.out, h3.out.keep (show (w4.alloc (.cells #[.bool false, .int .i64 0, .int .i64 0, .int .u64 0, .int .u64 0] 60)).drew.heap[w4.heap.size]? = some (.cells #[.bool false, .int .i64 0, .int .i64 0, .int .u64 0, .int .u64 0] 60) from heap_alloc_new _ _) (by have := C4.out.2.size; omega)⟩
  have SL : Hid (∀ i, i < 16 → ∃ s : Slt, w4.cell? ⟨b, off + i * 5, none⟩ = some (.bool s.u) ∧ w4.cell? ⟨b, off + i * 5 + 1, none⟩ = some (.int .i64 s.k) ∧ w4.cell? ⟨b, off + i * 5 + 2, none⟩ = some (.int .i64 s.p) ∧ w4.cell? ⟨b, off + i * 5 + 3, none⟩ = some (.int .u64 s.g) ∧ w4.cell? ⟨b, off + i * 5 + 4, none⟩ = some (.int .u64 s.f)) := fun i hi => by
    have kk := C4.out.ck HK.out HN.out
    obtain ⟨b', off', e, _, r⟩ := kk.cells.at i (by rw [kk.len]; exact hi) _ rfl
    cases e
    exact ⟨_, r⟩
  have zb : Hid (w.heap.size < w4.heap.size) := (Array.getElem?_eq_some_iff.1 R4.out).1
  have PS : Hid (∀ (w' : World) (s : Slt), Pd w' → Pd (((((w'.setCell ⟨w4.heap.size, 0, none⟩ (.bool s.u)).setCell ⟨w4.heap.size, 1, none⟩ (.int .i64 s.k)).setCell ⟨w4.heap.size, 2, none⟩ (.int .i64 s.p)).setCell ⟨w4.heap.size, 3, none⟩ (.int .u64 s.g)).setCell ⟨w4.heap.size, 4, none⟩ (.int .u64 s.f))) := by
    have st : ∀ (w' : World) (j : Nat) (v : Value), Pd w' → Pd (w'.setCell ⟨w4.heap.size, j, none⟩ v) := by
      rw [hPd]
      exact fun w' j v h => ⟨h.1.setc _ _ _ (by have := zb.out; omega) (by have := zb.out; omega) (by have := HC.out.below.size; have := zb.out; omega), row_far h.2.1 _ _ (by dsimp only; have := zb.out; omega), (Below.heap_setCell _ _ _ b (by dsimp only; have := zb.out; omega)).trans h.2.2⟩
    exact fun w' s h => st _ _ _ (st _ _ _ (st _ _ _ (st _ _ _ (st _ _ _ h))))
  clear hPd
  go_wp2_with fail
  go_region_held3 (fun w' => w'.cell? ⟨w.heap.size, 0, none⟩ = some (.slice (some ⟨b, off, none⟩) 16 c') ∧ (∀ x, w'.cell? ⟨b, x, none⟩ = w4.cell? ⟨b, x, none⟩) ∧ Pd w') (first | exact PW.out _ (by assumption) | exact PW.out _ (PA.out _ _ (by assumption)) | exact PW.out _ (pA.out _)) (first | (go_at_call 50; with_reducible refine HBA.out.mono ?_; rintro e w5 ⟨i5, rfl, hi5, p5, rz⟩; have hi0 : (0 : Int) ≤ (i5 : Int) := (by omega); have hi1 : (i5 : Int) < 16 := (by omega); obtain ⟨s, c0, c1, c2, c3, c4⟩ := SL.out _ hi5; obtain ⟨y0, y1, y2, y3, y4⟩ := cells5z rz; have fz0 := froz rz 0; have fz1 := froz rz 1; have fz2 := froz rz 2; have fz3 := froz rz 3; have fz4 := froz rz 4; have p6 := PS.out _ s p5) | (go_at_call 50; with_reducible refine (HB.out _ (by assumption)).mono ?_; rintro e w5 ⟨i5, rfl, hi5, p5⟩; have hi0 : (0 : Int) ≤ (i5 : Int) := (by omega); have hi1 : (i5 : Int) < 16 := (by omega); obtain ⟨s, c0, c1, c2, c3, c4⟩ := SL.out _ hi5))
  all_goals first
    | (have r9 := heap_alloc_new w5 (.cells #[.bool s.u, .int .i64 s.k, .int .i64 s.p, .int .u64 s.g, .int .u64 s.f] 60); have p9 := PA.out w5 (.cells #[.bool s.u, .int .i64 s.k, .int .i64 s.p, .int .u64 s.g, .int .u64 s.f] 60) p5; have g9 : g ≠ w5.heap.size := Nat.ne_of_lt (PC.out _ p5).1.lt; obtain ⟨W9, hW9⟩ : ∃ W9, W9 = w5.alloc (.cells #[.bool s.u, .int .i64 s.k, .int .i64 s.p, .int .u64 s.g, .int .u64 s.f] 60) := ⟨_, rfl⟩; rw [← hW9] at r9 p9 ⊢; obtain ⟨O9, hO9⟩ : ∃ O9, O9 = w5.heap.size := ⟨_, rfl⟩; rw [← hO9] at r9 g9 ⊢; clear hW9 hO9)
    | (have r9 := row_set (row_set (row_set (row_set (row_set rz 0 (.bool s.u)) 1 (.int .i64 s.k)) 2 (.int .i64 s.p)) 3 (.int .u64 s.g)) 4 (.int .u64 s.f); have p9 := p6; have g9 : g ≠ w4.heap.size := Nat.ne_of_lt (PC.out _ p4).1.lt; obtain ⟨W9, hW9⟩ : ∃ W9, W9 = ((((w5.setCell ⟨w4.heap.size, 0, none⟩ (.bool s.u)).setCell ⟨w4.heap.size, 1, none⟩ (.int .i64 s.k)).setCell ⟨w4.heap.size, 2, none⟩ (.int .i64 s.p)).setCell ⟨w4.heap.size, 3, none⟩ (.int .u64 s.g)).setCell ⟨w4.heap.size, 4, none⟩ (.int .u64 s.f) := ⟨_, rfl⟩; rw [← hW9] at r9 p9 ⊢; obtain ⟨O9, hO9⟩ : ∃ O9, O9 = w4.heap.size := ⟨_, rfl⟩; rw [← hO9] at r9 g9 ⊢; clear p6; clear hW9 hO9; clear y0 y1 y2 y3 y4 fz0 fz1 fz2 fz3 fz4 rz)
  all_goals clear p5 c0 c1 c2 c3 c4 hi0 hi1 hi5
  all_goals have C9 := dhid (PC.out _ p9)
  all_goals obtain ⟨e0, e1, e2, e3, e4⟩ := cells5z r9
  all_goals obtain ⟨su, sk, sp, sg, sf⟩ := s
  all_goals dsimp only at e0 e1 e2 e3 e4 r9
  all_goals
    cases su
    · go_wp2_with fail
      refine (l1Once_c HD.out 20 (by omega) _ C9.out.1).mono ?_
      rintro e wA ⟨cA, rfl, hsA⟩
      have CA := dhid (C9.out.trans hsA.out)
      clear hsA
      cases cA
      · go_wp2_with fail
        exact bodyPost_ret (results_d3 Try.results29 _ _ _) rfl ⟨_, _, _, rfl, hu3, CA⟩
      · go_wp2_with fail
        have HA := Cs.alloc CA.out.1 (.cells #[.int .i64 3, .int .i64 (-1), .int .i64 2] 2)
        refine (l1Below_c HD.out 3 (by omega) _ HA.1).mono ?_
        rintro e wB ⟨xB, rfl, ⟨hB0, hB1⟩, hsB⟩
        obtain ⟨kB, rfl⟩ := Int.eq_ofNat_of_zero_le hB0
        obtain ⟨vB, -, hcB⟩ := few_ints [3, -1, 2] 2 (hsB.out.keep (heap_alloc_new _ _) (Nat.ne_of_gt CA.out.1.lt)) (by intro x hx; simp only [List.mem_cons, List.not_mem_nil, or_false] at hx; rcases hx with rfl | rfl | rfl <;> rfl) (k := kB) (by simp; omega)
        have CB := dhid (CA.out.trans (HA.trans hsB.out))
        clear hsB HA CA
        go_wp2_with fail
        exact bodyPost_ret (results_d3 Try.results29 _ _ _) rfl ⟨_, _, _, rfl, hu3, CB⟩
    · obtain ⟨Pe, hPe⟩ : ∃ Pe : World → Prop, Pe = fun w' => Cs w0 g a n cap w w' ∧ w'.heap[O9]? = some (.cells #[.bool true, .int .i64 sk, .int .i64 sp, .int .u64 sg, .int .u64 sf] 60 (0, 0)) := ⟨_, rfl⟩
      have QW : Hid (∀ w', Pe w' → (w'.cell? ⟨O9, 0, none⟩ = some (.bool true) ∧ w'.cell? ⟨O9, 1, none⟩ = some (.int .i64 sk) ∧ w'.cell? ⟨O9, 2, none⟩ = some (.int .i64 sp) ∧ w'.cell? ⟨O9, 3, none⟩ = some (.int .u64 sg) ∧ w'.cell? ⟨O9, 4, none⟩ = some (.int .u64 sf)) ∧ Pe w') := fun w' h => ⟨by rw [hPe] at h; exact cells5z h.2, h⟩
      have e9 : Pe W9.drew := by rw [hPe]; exact ⟨C9.out.trans (Cs.of_below C9.out.1 (Below.refl _ _).drew), r9⟩
      have HE : Hid (∀ w', Pe w' → Calls Try.prog 50 #[.pointer (some ⟨g, 0, none⟩), .int .i64 4096] w' fun e w'' => ∃ y : Int, e = .returned (.int .i64 y) ∧ Pe w'') := by
        rw [hPe]
        exact fun w' h => (l1Below_c HD.out 4096 (by omega) w' h.1.1).mono fun e w'' ⟨y, h1, h2, h3⟩ => ⟨y, h1, h.1.trans h3.out, h3.out.keep h.2 g9.symm⟩
      have EE : Hid (∀ w', Pe w' → Cs w0 g a n cap w w') := by rw [hPe]; exact fun w' h => h.1
      clear hPe
      go_wp2_with fail
      go_region_held3 (fun w' => (w'.cell? ⟨O9, 0, none⟩ = some (.bool true) ∧ w'.cell? ⟨O9, 1, none⟩ = some (.int .i64 sk) ∧ w'.cell? ⟨O9, 2, none⟩ = some (.int .i64 sp) ∧ w'.cell? ⟨O9, 3, none⟩ = some (.int .u64 sg) ∧ w'.cell? ⟨O9, 4, none⟩ = some (.int .u64 sf)) ∧ Pe w') (first | exact QW.out _ (by assumption)) (first | (go_at_call 50; with_reducible refine (HE.out _ (by assumption)).mono ?_; rintro e wD ⟨yD, rfl, pD⟩))
      have CD := dhid (EE.out _ pD)
      go_wp2_with fail
      exact bodyPost_ret (results_d3 Try.results29 _ _ _) rfl ⟨_, _, _, rfl, or_U _ _, CD⟩

theorem results_c4 {P : Program} {fn : Func} {p s u x y : Tmp} {ty : TypeId} (h : fn.results = #[.cell p ty, .tmp s, .tmp u, .tmp x, .tmp y]) (tmps : Array Value) (w : World) (g : Nat) (t : TypeId) (cs : Array Value) (fr : Nat × Nat) (d : TypeDesc)
    (hp : tmps.getD p undef = .pointer (some ⟨g, 0, none⟩)) (hg : w.heap[g]? = some (.cells cs t fr))
    (hu : P.underlying ty = some d) (hd : (match d with | .struct _ | .array _ _ => true | _ => false) = true) (hi : (P.info? ty).map (·.size) = some cs.size) :
    (results fn tmps).run P w = .ok (.tuple #[.agg cs, tmps.getD s undef, tmps.getD u undef, tmps.getD x undef, tmps.getD y undef]) w := by
  have h1 : (results fn tmps).run P w = ((asAddr (tmps.getD p undef)).run P w).andThen fun a w₁ => ((loadVar ty a).run P w₁).andThen fun v w₂ => .ok (.tuple #[v, tmps.getD s undef, tmps.getD u undef, tmps.getD x undef, tmps.getD y undef]) w₂ := by
    simp only [results, h]
    simp [Sem.run_bind, Result.andThen]
  rw [h1, hp]
  simp [asAddr, run_loadVar_row w g t ty cs fr d hg hu hd hi]

set_option maxRecDepth 100000 in
set_option maxHeartbeats 3200000 in
theorem DrawKeep_c {a : Option Addr} {n : Nat} (cap : Nat) {zs : List Int} (w : World) (hcd : Code w a n zs) :
    Calls Try.prog 10 #[.slice a n cap] w fun e w' => ∃ (a' : Option Addr) (n' c' : Nat) (ss : List Slt) (k p va tt : Int), e = .returned (.tuple #[.agg #[.slice a' n' c'], .int .i64 k, .int .i64 p, .int .u64 va, .int .u64 tt]) ∧ Hid (Ck w' a' n' ss) ∧ Hid (U va) ∧ Hid (U tt) ∧ Hid (Below w.heap.size w w') := by
  have HD : Hid (∀ o, Code (w.alloc o) a n zs) := fun o => ⟨hcd.len, hcd.few, hcd.sl.below ((Below.refl _ _).alloc (Nat.le_refl _) o), hcd.bd⟩
  clear hcd
  go_enter Try.func10, Try.ntmps10
  go_wp2_with fail
  refine (l1New_c cap _ (HD.out _)).mono ?_
  rintro e w1 ⟨g, rfl, hc⟩
  obtain ⟨W0, hW0⟩ : ∃ W0, W0 = w.alloc (.cells #[.slice none 0 0] 26) := ⟨_, rfl⟩
  have hc2 : Hid (Cur W0 w1 g a n cap) := by rw [hW0]; exact hc
  have HD0 : Hid (Code W0 a n zs) := by rw [hW0]; exact HD.out _
  have BW : Hid (Below w.heap.size w W0) := by rw [hW0]; exact (Below.refl _ _).alloc (Nat.le_refl _) _
  have zW : W0.heap.size = w.heap.size + 1 := by rw [hW0]; simp
  have R1 := dhid (dstays hc2.out.below (show W0.heap[w.heap.size]? = some (.cells #[.slice none 0 0] 26 (0, 0)) by rw [hW0]; exact heap_alloc_new _ _))
  have gnew := hc2.out.new
  have glt := hc2.out.lt
  clear hc hW0 HD
  go_wp2_with fail
  refine (l10DrawAny_c HD0.out _ hc2.out).mono ?_
  rintro e w2 ⟨a', n', c', ss, rfl, hlo, hck, hs2⟩
  have CA := Cs.alloc hs2.out.1 (.cells #[.slice a' n' c'] 26)
  have C2 := dhid (hs2.out.trans CA)
  have K2 := dhid (hck.out.below ((Below.refl _ _).alloc (Nat.le_refl _) (.cells #[.slice a' n' c'] 26)))
  have V2 := dhid (heap_alloc_new w2 (.cells #[.slice a' n' c'] 26))
  have R2 := dhid (C2.out.keep R1.out (by omega))
  have HNE : Hid (∀ b off, a' = some ⟨b, off, none⟩ → b ≠ g) := fun b off e => by have := hlo.out b off e; omega
  have z2 := hs2.out.2.size
  have q2 := row_at1 V2.out
  go_wp2_with fail
  refine (l10DrawVa_c HD0.out _ C2.out.1 a' n' c' ss K2.out HNE.out).mono ?_
  rintro e w3 ⟨k, p, va, rfl, hva, hs3⟩
  have C3 := dhid (C2.out.trans hs3.out)
  have K3 := dhid (hs3.out.ck K2.out HNE.out)
  have V3 := dhid (hs3.out.keep V2.out (show w2.heap.size ≠ g by omega))
  have R3 := dhid (hs3.out.keep R2.out (by omega))
  clear hs2 hs3 CA C2 K2 V2 R2 q2 hck
  obtain ⟨O, hO⟩ : ∃ O, O = w2.heap.size := ⟨_, rfl⟩
  rw [← hO] at V3
  have hO1 : w.heap.size < O := by omega
  go_wp2_with fail
  rw [← hO]
  obtain ⟨Pd, hPd⟩ : ∃ Pd : World → Prop, Pd = fun w' => Below w.heap.size w w' ∧ w'.heap[O]? = some (.cells #[.slice a' n' c'] 26 (0, 0)) ∧ Ck w' a' n' ss ∧ ∃ v, w'.heap[w.heap.size]? = some (.cells #[v] 26 (0, 0)) := ⟨_, rfl⟩
  have nb : ∀ b off, a' = some ⟨b, off, none⟩ → b ≠ w.heap.size := fun b off e => by have := hlo.out b off e; omega
  have PW : Hid (∀ w', Pd w' → w'.cell? ⟨O, 0, none⟩ = some (.slice a' n' c') ∧ Pd w') := fun w' h => ⟨by rw [hPd] at h; exact row_at1 h.2.1, h⟩
  have HWD : Hid (Calls Try.prog 30 #[.pointer (some ⟨g, 0, none⟩)] w3.drew fun e w'' => ∃ x : Int, e = .returned (.int .u64 x) ∧ Hid (U x) ∧ Pd w'') := by
    rw [hPd]
    have CD := C3.out.trans (Cs.of_below C3.out.1 (Below.refl _ _).drew)
    refine (l1DrawWord_c HD0.out _ CD.1).mono fun e w'' ⟨x, h1, h2, h3⟩ => ⟨x, h1, h2, below_trans BW.out h3.out.1.below, h3.out.keep V3.out (by omega), h3.out.ck (K3.out.below (Below.refl _ _).drew) HNE.out, _, h3.out.keep R3.out (by omega)⟩
  have p0 : Pd w3.drew := by
    rw [hPd]
    have CD := C3.out.trans (Cs.of_below C3.out.1 (Below.refl _ _).drew)
    exact ⟨below_trans BW.out CD.1.below, V3.out, K3.out.below (Below.refl _ _).drew, _, R3.out⟩
  have PR : Hid (∀ w', Pd w' → (∃ v, w'.cell? ⟨w.heap.size, 0, none⟩ = some v) ∧ w'.frozen? ⟨w.heap.size, 0, none⟩ = false) := by rw [hPd]; exact fun w' h => ⟨h.2.2.2.elim fun v hv => ⟨v, row_at1 hv⟩, h.2.2.2.elim fun v hv => froz hv 0⟩
  have PS : Hid (∀ w', Pd w' → Pd (w'.setCell ⟨w.heap.size, 0, none⟩ (.slice a' n' c')) ∧ (w'.setCell ⟨w.heap.size, 0, none⟩ (.slice a' n' c')).heap[w.heap.size]? = some (.cells #[.slice a' n' c'] 26 (0, 0))) := by
    rw [hPd]
    refine fun w' h => ?_
    obtain ⟨h1, h2, h3, v, h4⟩ := h
    have r := row_set h4 0 (.slice a' n' c')
    refine ⟨⟨?_, row_far h2 _ _ (by dsimp only; omega), ?_, _, r⟩, r⟩
    · exact h1.setCell (Nat.le_refl _) _
    · exact ⟨h3.len, h3.few, fun i hi => by
        obtain ⟨b, off, e, hlt, hc⟩ := h3.cells i hi
        exact ⟨b, off, e, by rw [size_set]; exact hlt, fun j hj => (World.cell?_of_block (Below.heap_setCell w' ⟨w.heap.size, 0, none⟩ _ b (nb b off e))).trans (hc j hj)⟩, h3.words⟩
  have EX : Hid (∀ w', Pd w' → Ck w' a' n' ss ∧ Below w.heap.size w w') := by rw [hPd]; exact fun w' h => ⟨h.2.2.1, h.1⟩
  have n1 : ¬ O = w.heap.size := by omega
  have n2 : ¬ w.heap.size = O := by omega
  clear hPd hO
  go_region_held3 (fun w' => w'.cell? ⟨O, 0, none⟩ = some (.slice a' n' c') ∧ Pd w') (first | exact PW.out _ (by assumption) | exact PW.out _ (PS.out _ (by assumption)).1) (first | (go_at_call 30; with_reducible refine HWD.out.mono ?_; rintro e w5 ⟨x5, rfl, hx5, p5⟩; obtain ⟨⟨v5, cv5⟩, fv5⟩ := PR.out _ p5))
  obtain ⟨p9, r9⟩ := PS.out _ p5
  obtain ⟨K9, B9⟩ := EX.out _ p9
  have KK := dhid K9
  have BB := dhid B9
  have RR := dhid r9
  clear p9 r9 K9 B9 p5 p0 PW PR PS HWD EX
  go_wp2_with fail
  exact bodyPost_ret (results_c4 Try.results10 _ _ _ _ _ _ _ rfl RR.out Try.underlying26 rfl cache_size) rfl ⟨a', n', c', ss, k, p, va, x5, rfl, KK, hva, hx5, BB⟩

end Go.Proofs.Ytdllhjehokpefaa
