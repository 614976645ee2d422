/- The model's Enter and Leave. -/
import Derived.Test.YtgcbdlfljplkbabTrapT
import Derived.OwnWalk
namespace Go.Proofs.Ytgcbdlfljplkbab
open Go.RowKit
set_option linter.unusedVariables false

theorem l1In_b (x a b : Int) (w : World) : Calls Try.prog 38 #[.int .i64 x, .int .i64 a, .int .i64 b] w fun e w' => e = .returned (.bool (decide (a ≤ x ∧ x ≤ b))) ∧ w' = w := by
  by_cases h1 : a ≤ x
  · by_cases h2 : x ≤ b
    · have F : Hid (decide (a ≤ x ∧ x ≤ b) = true) := by show decide (a ≤ x ∧ x ≤ b) = true; simp [h1, h2]
      have d1 : decide (a ≤ x) = true := by simpa using h1
      have d2 : decide (x ≤ b) = true := by simpa using h2
      clear h1 h2
      go_enter Try.func38, Try.ntmps38
      go_wp2
      go_ret
      exact ⟨by rw [F.out]; rfl, rfl⟩
    · have F : Hid (decide (a ≤ x ∧ x ≤ b) = false) := by show decide (a ≤ x ∧ x ≤ b) = false; simp [h2]
      have d1 : decide (a ≤ x) = true := by simpa using h1
      have d2 : decide (x ≤ b) = false := by simpa using h2
      clear h1 h2
      go_enter Try.func38, Try.ntmps38
      go_wp2
      go_ret
      exact ⟨by rw [F.out]; rfl, rfl⟩
  · have F : Hid (decide (a ≤ x ∧ x ≤ b) = false) := by show decide (a ≤ x ∧ x ≤ b) = false; simp [h1]
    have d1 : decide (a ≤ x) = false := by simpa using h1
    clear h1
    go_enter Try.func38, Try.ntmps38
    go_wp2
    go_ret
    exact ⟨by rw [F.out]; rfl, rfl⟩

def inB (k : Int) : Bool := decide (0 ≤ k ∧ k ≤ 15)

/-- May it be entered; the registers, the privilege and the pc behind it. -/
def entB (n : Nat) (l : List Int) (p k : Int) : Bool := legalB n l p && inB k

def entL (n : Nat) (l : List Int) (p pc k : Int) (i : Bool) (v : Int) : List Int := match entB n l p k with
  | true => enterL l (delegB l p k.toNat i) p (toldV k i) pc v | false => []

def entP (n : Nat) (l : List Int) (p k : Int) (i : Bool) : Int := match entB n l p k with
  | true => nextV (delegB l p k.toNat i) | false => 0

def entA (n : Nat) (l : List Int) (p k : Int) (i : Bool) : Int := match entB n l p k with
  | true => enterAt (vecV l (delegB l p k.toNat i)) k (jumpB l (delegB l p k.toNat i) i) | false => 0

theorem enterL_len (l : List Int) (d : Bool) (p t pc v : Int) : (enterL l d p t pc v).length = l.length := by
  cases d <;> simp [enterL]

set_option maxRecDepth 100000 in
set_option maxHeartbeats 1600000 in
theorem specEnter_any (a : Option Addr) (n cap : Nat) (l : List Int) (p pc k : Int) (i : Bool) (v : Int) (w : World) (hz : l.length = n) (hs : Sl .u64 w a l) :
    Calls Try.prog 23 #[.slice a n cap, .int .i64 p, .int .u64 pc, .int .i64 k, .bool i, .int .u64 v] w fun e w' => ∃ (a' : Option Addr) (c : Nat),
      e = .returned (.tuple #[.slice a' (entL n l p pc k i v).length c, .int .i64 (entP n l p k i), .int .u64 (entA n l p k i), .bool (entB n l p k)]) ∧
      w'.ownsRow w.heap.size 24 1 (.slice a' (entL n l p pc k i v).length c) (entL n l p pc k i v).length ((entL n l p pc k i v).map (Value.int .u64)) ∧ Below w.heap.size w w' := by
  have HL : Hid (Calls Try.prog 61 #[.slice a n cap, .int .i64 p] w fun e w' => e = .returned (.bool (legalB n l p)) ∧ w' = w) := specLegal_any a n cap l p w hz hs
  have HI : Hid (∀ w, Calls Try.prog 38 #[.int .i64 k, .int .i64 0, .int .i64 15] w fun e w' => e = .returned (.bool (inB k)) ∧ w' = w) := l1In_b k 0 15
  cases hl : legalB n l p with
  | false =>
    have B0 : entB n l p k = false := by simp [entB, hl]
    have F : Hid (entL n l p pc k i v = [] ∧ entP n l p k i = 0 ∧ entA n l p k i = 0 ∧ entB n l p k = false) := ⟨by simp [entL, B0], by simp [entP, B0], by simp [entA, B0], B0⟩
    rw [hl] at HL
    clear B0 hl hs hz
    go_enter Try.func23, Try.ntmps23
    go_wp2_with fail
    refine HL.out.mono ?_
    rintro e w1 ⟨rfl, hw1⟩
    have hw2 := hw1.symm
    subst hw2
    go_wp2_with fail
    refine bodyPost_ret (results_t4 Try.results23 _ _ _) rfl ?_
    rw [F.out.1, F.out.2.1, F.out.2.2.1, F.out.2.2.2]
    exact ⟨some ⟨w.heap.size, 0, none⟩, 0, rfl, own_emptyW w _ (Nat.le_refl _) _ rfl, (Below.refl _ _).alloc (Nat.le_refl _) _⟩
  | true =>
    obtain ⟨rfl, hpv⟩ := legalB_parts hl
    rw [hl] at HL
    cases hin : inB k with
    | false =>
      have B0 : entB 22 l p k = false := by simp [entB, hin]
      have F : Hid (entL 22 l p pc k i v = [] ∧ entP 22 l p k i = 0 ∧ entA 22 l p k i = 0 ∧ entB 22 l p k = false) := ⟨by simp [entL, B0], by simp [entP, B0], by simp [entA, B0], B0⟩
      rw [hin] at HI
      clear B0 hl hs hz hin
      go_enter Try.func23, Try.ntmps23
      go_wp2_with fail
      refine HL.out.mono ?_
      rintro e w1 ⟨rfl, hw1⟩
      have hw2 := hw1.symm
      subst hw2
      go_wp2_with fail
      refine (HI.out _).mono ?_
      rintro e w1 ⟨rfl, hw1⟩
      have hw2 := hw1.symm
      subst hw2
      go_wp2_with fail
      refine bodyPost_ret (results_t4 Try.results23 _ _ _) rfl ?_
      rw [F.out.1, F.out.2.1, F.out.2.2.1, F.out.2.2.2]
      exact ⟨some ⟨w.heap.size, 0, none⟩, 0, rfl, own_emptyW w _ (Nat.le_refl _) _ rfl, (Below.refl _ _).alloc (Nat.le_refl _) _⟩
    | true =>
      have hk : 0 ≤ k ∧ k ≤ 15 := by simpa [inB] using hin
      obtain ⟨j, rfl⟩ : ∃ j : Nat, k = (j : Int) := ⟨k.toNat, by omega⟩
      have hj : j < 16 := by omega
      have B0 : entB 22 l p j = true := by simp [entB, hin, hl]
      have F : Hid (entL 22 l p pc j i v = enterL l (delegB l p j i) p (toldV j i) pc v ∧ entP 22 l p j i = nextV (delegB l p j i) ∧ entA 22 l p j i = enterAt (vecV l (delegB l p j i)) j (jumpB l (delegB l p j i) i) ∧ entB 22 l p j = true ∧ (enterL l (delegB l p j i) p (toldV j i) pc v).length = 22) :=
        ⟨by simp [entL, B0], by simp [entP, B0], by simp [entA, B0], B0, by rw [enterL_len, hz]⟩
      rw [hin] at HI
      obtain ⟨b, off, rfl, hblt, hc0⟩ := hs 0 (by omega)
      obtain ⟨i0, hi, hz0, hz1, hz2⟩ := info_parts infoW
      have h1c : ∀ u ∈ l.map (Value.int .u64), u.oneCell' = true := ints_oneCell _ _
      have hb9 : (0 + 22) * 8 ≤ 140737488355328 := by omega
      have hm9 : 0 + 22 ≤ maxLen := by unfold maxLen; omega
      have hlen : (l.map (Value.int .u64)).length = 22 * 1 := by rw [List.length_map, hz]
      have HS : Hid (Sl .u64 w (some ⟨b, off, none⟩) l) := hs
      clear hc0 hs hz hblt
      clear B0 hl hin hk
      go_enter Try.func23, Try.ntmps23
      go_wp2_with fail
      refine HL.out.mono ?_
      rintro e w1 ⟨rfl, hw1⟩
      have hw2 := hw1.symm
      subst hw2
      go_wp2_with fail
      refine (HI.out _).mono ?_
      rintro e w1 ⟨rfl, hw1⟩
      have hw2 := hw1.symm
      subst hw2
      have hnews : ∀ (o : Obj) (j : Nat) (u : Value), (l.map (Value.int .u64))[j]? = some u → (w.alloc o).cell? ((⟨b, off, none⟩ : Addr).add j) = some u := by
        intro o j u hu
        exact news_ofW HS.out o j u hu
      have hE := own_emptyW w w.heap.size (Nat.le_refl _) (.cells #[] 24 (0, 0)) rfl
      go_wp2_with (at_builtin; refine wpList_append_own _ rfl (.tmp 29) (.tmp 30) 30 rfl _ 24 i0 (.int .u64 0) 1 8 Try.underlying30 hi hz0 hz1 hz2 rfl (by decide) _ 0 [] (by rfl) hE ⟨b, off, none⟩ 22 cap (l.map (Value.int .u64)) rfl hlen (hnews _) h1c hm9 hb9 (by simp) ?_; intro v' w2 hown1 hgrow1 hnil1)
      simp only [Nat.zero_add, List.nil_append] at hown1
      obtain ⟨g, c, hv, hg⟩ := own_shape hown1 (by omega)
      rw [hv] at hown1 ⊢
      clear hnil1 hE hnews h1c
      refine (l5Enter_any w.heap.size g c l p pc v hpv j hj i w2 hown1).mono ?_
      rintro e w3 ⟨rfl, hown2, hgrow2⟩
      generalize nextV (delegB l p j i) = nv at *
      generalize enterAt (vecV l (delegB l p j i)) j (jumpB l (delegB l p j i) i) = na at *
      generalize enterL l (delegB l p j i) p (toldV j i) pc v = nl at *
      go_wp2_with fail
      refine bodyPost_ret (results_t4 Try.results23 _ _ _) rfl ?_
      refine ⟨some ⟨g, 0, none⟩, c, ?_⟩
      rw [F.out.1, F.out.2.1, F.out.2.2.1, F.out.2.2.2.1, F.out.2.2.2.2]
      refine ⟨rfl, hown2, ?_⟩
      refine Below.grown (Below.grown ((Below.refl _ _).alloc (Nat.le_refl _) _) hgrow1 ?_ ?_) hgrow2 ?_ ?_
      · simp
      · intro k hk; simp [Value.ownBlock] at hk; omega
      · have h1 := hgrow1.size; simp at h1; omega
      · intro k hk; cases hk; exact hg

def leavB (n : Nat) (l : List Int) (p : Int) (m : Bool) : Bool := legalB n l p && !(m && (p != 3)) && !(p == 0)

def leavL (n : Nat) (l : List Int) (p : Int) (m : Bool) : List Int := match leavB n l p m with
  | true => l.set 0 (leaveS (l.getD 0 0) m) | false => []

def leavP (n : Nat) (l : List Int) (p : Int) (m : Bool) : Int := match leavB n l p m with
  | true => leaveP (l.getD 0 0) m | false => 0

def leavA (n : Nat) (l : List Int) (p : Int) (m : Bool) : Int := match leavB n l p m with
  | true => leaveAt l m | false => 0

set_option maxRecDepth 100000 in
set_option maxHeartbeats 1600000 in
theorem specLeave_any (a : Option Addr) (n cap : Nat) (l : List Int) (p : Int) (m : Bool) (w : World) (hz : l.length = n) (hs : Sl .u64 w a l) :
    Calls Try.prog 26 #[.slice a n cap, .int .i64 p, .bool m] w fun e w' => ∃ (a' : Option Addr) (c : Nat),
      e = .returned (.tuple #[.slice a' (leavL n l p m).length c, .int .i64 (leavP n l p m), .int .u64 (leavA n l p m), .bool (leavB n l p m)]) ∧
      w'.ownsRow w.heap.size 24 1 (.slice a' (leavL n l p m).length c) (leavL n l p m).length ((leavL n l p m).map (Value.int .u64)) ∧ Below w.heap.size w w' := by
  have HL : Hid (Calls Try.prog 61 #[.slice a n cap, .int .i64 p] w fun e w' => e = .returned (.bool (legalB n l p)) ∧ w' = w) := specLegal_any a n cap l p w hz hs
  cases hl : legalB n l p with
  | false =>
    have B0 : leavB n l p m = false := by simp [leavB, hl]
    have F : Hid (leavL n l p m = [] ∧ leavP n l p m = 0 ∧ leavA n l p m = 0 ∧ leavB n l p m = false) := ⟨by simp [leavL, B0], by simp [leavP, B0], by simp [leavA, B0], B0⟩
    rw [hl] at HL
    clear B0 hs hz
    go_enter Try.func26, Try.ntmps26
    go_wp2_with fail
    refine HL.out.mono ?_
    rintro e w1 ⟨rfl, hw1⟩
    have hw2 := hw1.symm
    subst hw2
    go_wp2_with fail
    refine bodyPost_ret (results_t4 Try.results26 _ _ _) rfl ?_
    rw [F.out.1, F.out.2.1, F.out.2.2.1, F.out.2.2.2]
    exact ⟨some ⟨w.heap.size, 0, none⟩, 0, rfl, own_emptyW w _ (Nat.le_refl _) _ rfl, (Below.refl _ _).alloc (Nat.le_refl _) _⟩
  | true =>
    obtain ⟨rfl, hpv⟩ := legalB_parts hl
    rw [hl] at HL
    cases m with
    | true =>
      cases h3 : (p != 3) with
      | true =>
        have B0 : leavB 22 l p true = false := by simp [leavB, h3]
        have F : Hid (leavL 22 l p true = [] ∧ leavP 22 l p true = 0 ∧ leavA 22 l p true = 0 ∧ leavB 22 l p true = false) := ⟨by simp [leavL, B0], by simp [leavP, B0], by simp [leavA, B0], B0⟩
        clear B0 hs hz
        go_enter Try.func26, Try.ntmps26
        go_wp2_with fail
        refine HL.out.mono ?_
        rintro e w1 ⟨rfl, hw1⟩
        have hw2 := hw1.symm
        subst hw2
        go_wp2_with fail
        refine bodyPost_ret (results_t4 Try.results26 _ _ _) rfl ?_
        rw [F.out.1, F.out.2.1, F.out.2.2.1, F.out.2.2.2]
        exact ⟨some ⟨w.heap.size, 0, none⟩, 0, rfl, own_emptyW w _ (Nat.le_refl _) _ rfl, (Below.refl _ _).alloc (Nat.le_refl _) _⟩
      | false =>
        have hp3 : p = 3 := by simpa using h3
        subst hp3
        have B0 : leavB 22 l 3 true = true := by simp [leavB, hl]
        have F : Hid (leavL 22 l 3 true = l.set 0 (leaveS (l.getD 0 0) true) ∧ leavP 22 l 3 true = leaveP (l.getD 0 0) true ∧ leavA 22 l 3 true = leaveAt l true ∧ leavB 22 l 3 true = true ∧ (l.set 0 (leaveS (l.getD 0 0) true)).length = 22) :=
          ⟨by simp [leavL, B0], by simp [leavP, B0], by simp [leavA, B0], B0, by simp [hz]⟩
        obtain ⟨b, off, rfl, hblt, hc0⟩ := hs 0 (by omega)
        obtain ⟨i0, hi, hz0, hz1, hz2⟩ := info_parts infoW
        have h1c : ∀ u ∈ l.map (Value.int .u64), u.oneCell' = true := ints_oneCell _ _
        have hb9 : (0 + 22) * 8 ≤ 140737488355328 := by omega
        have hm9 : 0 + 22 ≤ maxLen := by unfold maxLen; omega
        have hlen : (l.map (Value.int .u64)).length = 22 * 1 := by rw [List.length_map, hz]
        have HS : Hid (Sl .u64 w (some ⟨b, off, none⟩) l) := hs
        clear hc0 hs hz hblt
        clear B0 hl
        go_enter Try.func26, Try.ntmps26
        go_wp2_with fail
        refine HL.out.mono ?_
        rintro e w1 ⟨rfl, hw1⟩
        have hw2 := hw1.symm
        subst hw2
        have hnews : ∀ (o : Obj) (j : Nat) (u : Value), (l.map (Value.int .u64))[j]? = some u → (w.alloc o).cell? ((⟨b, off, none⟩ : Addr).add j) = some u := by
          intro o j u hu
          exact news_ofW HS.out o j u hu
        have hE := own_emptyW w w.heap.size (Nat.le_refl _) (.cells #[] 24 (0, 0)) rfl
        go_wp2_with (at_builtin; refine wpList_append_own _ rfl (.tmp 29) (.tmp 30) 30 rfl _ 24 i0 (.int .u64 0) 1 8 Try.underlying30 hi hz0 hz1 hz2 rfl (by decide) _ 0 [] (by rfl) hE ⟨b, off, none⟩ 22 cap (l.map (Value.int .u64)) rfl hlen (hnews _) h1c hm9 hb9 (by simp) ?_; intro v' w2 hown1 hgrow1 hnil1)
        simp only [Nat.zero_add, List.nil_append] at hown1
        obtain ⟨g, c, hv, hg⟩ := own_shape hown1 (by omega)
        rw [hv] at hown1 ⊢
        clear hnil1 hE hnews h1c
        refine (l5Leave_any w.heap.size g c l true w2 hown1).mono ?_
        rintro e w3 ⟨rfl, hown2, hgrow2⟩
        generalize leaveS (l.getD 0 0) true = sv at *
        generalize leaveP (l.getD 0 0) true = pv at *
        generalize leaveAt l true = av at *
        go_wp2_with fail
        refine bodyPost_ret (results_t4 Try.results26 _ _ _) rfl ?_
        refine ⟨some ⟨g, 0, none⟩, c, ?_⟩
        rw [F.out.1, F.out.2.1, F.out.2.2.1, F.out.2.2.2.1, F.out.2.2.2.2]
        refine ⟨rfl, hown2, ?_⟩
        refine Below.grown (Below.grown ((Below.refl _ _).alloc (Nat.le_refl _) _) hgrow1 ?_ ?_) hgrow2 ?_ ?_
        · simp
        · intro k hk; simp [Value.ownBlock] at hk; omega
        · have h1 := hgrow1.size; simp at h1; omega
        · intro k hk; cases hk; exact hg
    | false =>
      cases h0 : (p == 0) with
      | true =>
        have B0 : leavB 22 l p false = false := by simp [leavB, h0]
        have F : Hid (leavL 22 l p false = [] ∧ leavP 22 l p false = 0 ∧ leavA 22 l p false = 0 ∧ leavB 22 l p false = false) := ⟨by simp [leavL, B0], by simp [leavP, B0], by simp [leavA, B0], B0⟩
        clear B0 hs hz
        go_enter Try.func26, Try.ntmps26
        go_wp2_with fail
        refine HL.out.mono ?_
        rintro e w1 ⟨rfl, hw1⟩
        have hw2 := hw1.symm
        subst hw2
        go_wp2_with fail
        refine bodyPost_ret (results_t4 Try.results26 _ _ _) rfl ?_
        rw [F.out.1, F.out.2.1, F.out.2.2.1, F.out.2.2.2]
        exact ⟨some ⟨w.heap.size, 0, none⟩, 0, rfl, own_emptyW w _ (Nat.le_refl _) _ rfl, (Below.refl _ _).alloc (Nat.le_refl _) _⟩
      | false =>
        have B0 : leavB 22 l p false = true := by simp [leavB, hl, h0]
        have F : Hid (leavL 22 l p false = l.set 0 (leaveS (l.getD 0 0) false) ∧ leavP 22 l p false = leaveP (l.getD 0 0) false ∧ leavA 22 l p false = leaveAt l false ∧ leavB 22 l p false = true ∧ (l.set 0 (leaveS (l.getD 0 0) false)).length = 22) :=
          ⟨by simp [leavL, B0], by simp [leavP, B0], by simp [leavA, B0], B0, by simp [hz]⟩
        obtain ⟨b, off, rfl, hblt, hc0⟩ := hs 0 (by omega)
        obtain ⟨i0, hi, hz0, hz1, hz2⟩ := info_parts infoW
        have h1c : ∀ u ∈ l.map (Value.int .u64), u.oneCell' = true := ints_oneCell _ _
        have hb9 : (0 + 22) * 8 ≤ 140737488355328 := by omega
        have hm9 : 0 + 22 ≤ maxLen := by unfold maxLen; omega
        have hlen : (l.map (Value.int .u64)).length = 22 * 1 := by rw [List.length_map, hz]
        have HS : Hid (Sl .u64 w (some ⟨b, off, none⟩) l) := hs
        clear hc0 hs hz hblt
        clear B0 hl
        go_enter Try.func26, Try.ntmps26
        go_wp2_with fail
        refine HL.out.mono ?_
        rintro e w1 ⟨rfl, hw1⟩
        have hw2 := hw1.symm
        subst hw2
        have hnews : ∀ (o : Obj) (j : Nat) (u : Value), (l.map (Value.int .u64))[j]? = some u → (w.alloc o).cell? ((⟨b, off, none⟩ : Addr).add j) = some u := by
          intro o j u hu
          exact news_ofW HS.out o j u hu
        have hE := own_emptyW w w.heap.size (Nat.le_refl _) (.cells #[] 24 (0, 0)) rfl
        go_wp2_with (at_builtin; refine wpList_append_own _ rfl (.tmp 29) (.tmp 30) 30 rfl _ 24 i0 (.int .u64 0) 1 8 Try.underlying30 hi hz0 hz1 hz2 rfl (by decide) _ 0 [] (by rfl) hE ⟨b, off, none⟩ 22 cap (l.map (Value.int .u64)) rfl hlen (hnews _) h1c hm9 hb9 (by simp) ?_; intro v' w2 hown1 hgrow1 hnil1)
        simp only [Nat.zero_add, List.nil_append] at hown1
        obtain ⟨g, c, hv, hg⟩ := own_shape hown1 (by omega)
        rw [hv] at hown1 ⊢
        clear hnil1 hE hnews h1c
        refine (l5Leave_any w.heap.size g c l false w2 hown1).mono ?_
        rintro e w3 ⟨rfl, hown2, hgrow2⟩
        generalize leaveS (l.getD 0 0) false = sv at *
        generalize leaveP (l.getD 0 0) false = pv at *
        generalize leaveAt l false = av at *
        go_wp2_with fail
        refine bodyPost_ret (results_t4 Try.results26 _ _ _) rfl ?_
        refine ⟨some ⟨g, 0, none⟩, c, ?_⟩
        rw [F.out.1, F.out.2.1, F.out.2.2.1, F.out.2.2.2.1, F.out.2.2.2.2]
        refine ⟨rfl, hown2, ?_⟩
        refine Below.grown (Below.grown ((Below.refl _ _).alloc (Nat.le_refl _) _) hgrow1 ?_ ?_) hgrow2 ?_ ?_
        · simp
        · intro k hk; simp [Value.ownBlock] at hk; omega
        · have h1 := hgrow1.size; simp at h1; omega
        · intro k hk; cases hk; exact hg

end Go.Proofs.Ytgcbdlfljplkbab
