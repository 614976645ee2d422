/- The program's walk: copies, marks. -/
import Derived.Test.YtldjmphflgecjacDoorWalkJ
import Derived.Test.YtldjmphflgecjacDoorWalkW
namespace Go.Proofs.YtldjmphflgecjacDoor
open Go.RowKit
set_option linter.unusedVariables false

/-- New memory with these bytes. -/
def Fresh (w w' : World) (zs : List Int) (a' : Option Addr) (n c : Nat) : Prop := w'.ownsRow w.heap.size 5 1 (.slice a' n c) n (zs.map (Value.int .u8)) ∧ Below w.heap.size w w'

theorem clone_any (g n rc : Nat) (zs : List Int) (w : World) (hz : zs.length = n) (hn0 : 1 ≤ n) (hn : n ≤ 1048576) (hs : Sl .u8 w (some ⟨g, 0, none⟩) zs) :
    Calls Tryd.prog 48 #[.slice (some ⟨g, 0, none⟩) n rc] w fun r w' => ∃ (a' : Option Addr) (c : Nat), r = .returned (.slice a' n c) ∧ Fresh w w' zs a' n c := by
  have qT : ∀ (w : World) (a : Option Addr) (n c n' c' : Nat), (binOp .eql 22 (.slice a n c) (.slice none n' c')).run Tryd.prog w = .ok (.bool a.isNone) w := fun w a n c n' c' => Lib.run_eql_slice_nil w _ _ a n c n' c' Tryd.underlying22
  obtain ⟨i0, hi, hz0, hz1, hz2⟩ := info_parts Tryd.info5
  have H1C : Hid (∀ u ∈ zs.map (Value.int .u8), u.oneCell' = true) := ints_oneCell _ _
  have hb9 : (0 + n) * 1 ≤ 140737488355328 := by omega
  have hm9 : 0 + n ≤ maxLen := by unfold maxLen; omega
  have hlen : (zs.map (Value.int .u8)).length = n * 1 := by rw [List.length_map, hz]; omega
  have hE := own_emptyB w w.heap.size (Nat.le_refl _) (.cells #[] 5 (0, 0)) rfl
  have HNEWS : Hid (∀ (o : Obj) (j : Nat) (u : Value), (zs.map (Value.int .u8))[j]? = some u → (w.alloc o).cell? ((⟨g, 0, none⟩ : Addr).add j) = some u) := fun o j u hu => news_of hs o j u hu
  clear hs
  go_enter Tryd.func48, Tryd.ntmps48
  go_wp2_with (first
    | (at_builtin; refine wpList_append_own _ rfl (.tmp 5) (.tmp 6) 22 rfl _ 5 i0 (.int .u8 0) 1 1 Tryd.underlying22 hi hz0 hz1 hz2 rfl (by decide) _ 0 [] (by rfl) hE ⟨g, 0, none⟩ n rc (zs.map (Value.int .u8)) rfl hlen (HNEWS.out _) H1C.out hm9 hb9 (by simp) ?_; intro v' w3 hown1 hgrow1 hnil1; simp only [Nat.zero_add, List.nil_append] at hown1; obtain ⟨g', cp, hv, hg⟩ := own_shape hown1 (by omega); rw [hv] at hown1 ⊢; have OWN : Hid (w3.ownsRow w.heap.size 5 1 (.slice (some ⟨g', 0, none⟩) n cp) n (zs.map (Value.int .u8))) := hown1; have B3 : Hid (Below w.heap.size w w3) := below_app hgrow1; clear hnil1 hgrow1 hown1 hv hg))
  go_ret
  exact ⟨_, _, rfl, OWN.out, B3.out⟩

set_option maxRecDepth 100000 in
set_option maxHeartbeats 1600000 in
theorem marked_no (g n rc : Nat) (zs : List Int) (b off lc : Nat) (l : List Int) (p va k e x : Int) (he : U e) (hm : (wantV e k != e) = false) (w : World) (W : Wk w g n rc zs b off lc l p va k) :
    Calls Tryd.prog 73 #[.agg #[.slice (some ⟨g, 0, none⟩) n rc, .slice (some ⟨b, off, none⟩) 22 lc, .int .i64 p, .int .u64 va, .int .i64 k], .int .u64 x, .int .u64 e] w fun r w' => ∃ (a' : Option Addr) (c : Nat), r = .returned (.slice a' n c) ∧ Fresh w w' zs a' n c := by
  have hbd := ramOkB_bd W.hr
  have HC : Hid (∀ o, Calls Tryd.prog 48 #[.slice (some ⟨g, 0, none⟩) n rc] (w.alloc o) fun r w' => ∃ (a' : Option Addr) (c : Nat), r = .returned (.slice a' n c) ∧ Fresh (w.alloc o) w' zs a' n c) := fun o => clone_any g n rc zs (w.alloc o) W.hz (by omega) (by omega) (W.hs.below ((Below.refl _ _).alloc (Nat.le_refl _) _))
  have hB0 : ∀ o, Below w.heap.size w (w.alloc o) := fun o => (Below.refl _ _).alloc (Nat.le_refl _) _
  have HF : Hid (∀ o w' a' c, Fresh (w.alloc o) w' zs a' n c → Fresh w w' zs a' n c) := fun o w' a' c h => ⟨own_low h.1 (by simp), below_trans (hB0 o) h.2⟩
  have hme := mark_eq e k he
  rw [hm] at hme
  have h192 : bits .or .u64 64 128 = 192 := by decide +kernel
  clear W
  cases t : (k == 3) with
  | true =>
    have e3 : k = 3 := by simpa using t
    have hmp : marksP k = 192 := if_pos e3
    rw [hmp] at hme
    have hme2 : (bits .and .u64 e 192 == 192) = true := hme
    clear hme hmp e3
    go_enter Tryd.func73, Tryd.ntmps73
    go_wp2_with fail
    refine (HC.out _).mono ?_
    rintro r w1 ⟨a', c, rfl, hf⟩
    go_wp2_with fail
    go_ret
    exact ⟨_, _, rfl, HF.out _ _ _ _ hf⟩
  | false =>
    have e3 : ¬ k = 3 := by simpa using t
    have hmp : marksP k = 64 := if_neg e3
    rw [hmp] at hme
    have hme2 : (bits .and .u64 e 64 == 64) = true := hme
    clear hme hmp e3
    go_enter Tryd.func73, Tryd.ntmps73
    go_wp2_with fail
    refine (HC.out _).mono ?_
    rintro r w1 ⟨a', c, rfl, hf⟩
    go_wp2_with fail
    go_ret
    exact ⟨_, _, rfl, HF.out _ _ _ _ hf⟩

/-- How marked ends where it must mark. -/
def mrkQ (l : List Int) (k e x : Int) (n : Nat) (zs : List Int) (w : World) (r : Ending) (w' : World) : Prop :=
  if permRest l 1 x (lastOf x 8) 3 4 0 = true then ∃ (a' : Option Addr) (c : Nat), r = .returned (.slice a' n c) ∧ Fresh w w' (put zs (x - 2147483648).toNat (wantV e k) 8) a' n c else r = gave (faultC k) ∧ Below w.heap.size w w'

set_option maxRecDepth 100000 in
set_option maxHeartbeats 1600000 in
theorem marked_yes (g n rc : Nat) (zs : List Int) (b off lc : Nat) (l : List Int) (p va k e x : Int) (he : U e) (hx : okB n x 8 = true) (hm : (wantV e k != e) = true) (w : World) (W : Wk w g n rc zs b off lc l p va k) :
    Calls Tryd.prog 73 #[.agg #[.slice (some ⟨g, 0, none⟩) n rc, .slice (some ⟨b, off, none⟩) 22 lc, .int .i64 p, .int .u64 va, .int .i64 k], .int .u64 x, .int .u64 e] w fun r w' => mrkQ l k e x n zs w r w' := by
  have hbd := ramOkB_bd W.hr
  have UX : U x := by obtain ⟨_, _, h1, h2, _, _, _, h4⟩ := okB_true hx; exact ⟨by omega, by omega⟩
  have HAF : Hid (∀ w, Calls Tryd.prog 87 #[.agg #[.slice (some ⟨g, 0, none⟩) n rc, .slice (some ⟨b, off, none⟩) 22 lc, .int .i64 p, .int .u64 va, .int .i64 k]] w fun e w' => e = gave (faultC k) ∧ Below w.heap.size w w') := fun w => accessFault_any _ _ _ _ _ _ _ _ W.hk1 W.hk3 w
  have hB0 : ∀ o, Below w.heap.size w (w.alloc o) := fun o => (Below.refl _ _).alloc (Nat.le_refl _) _
  have HPM : Hid (∀ o, Calls Tryd.prog 8 #[.slice (some ⟨b, off, none⟩) 22 lc, .int .i64 1, .int .u64 x, .int .i64 8, .int .i64 3] (w.alloc o) fun e w'' => e = .returned (.bool (permRest l 1 x (lastOf x 8) 3 4 0)) ∧ Below (w.alloc o).heap.size (w.alloc o) w'') := fun o => by
    have := implPermits_any (some ⟨b, off, none⟩) 22 lc l 1 x 8 3 (w.alloc o) W.hlz (W.hl.below (hB0 o)) W.hU UX (W.hT.below (hB0 o))
    rw [perm_eq n l x 3 W.one hx (by omega) (by omega)] at this
    exact this
  have HST : Hid (∀ w', Below w.heap.size w w' → Calls Tryd.prog 17 #[.slice (some ⟨g, 0, none⟩) n rc, .int .u64 x, .int .i64 8, .int .u64 (wantV e k)] w' fun r w'' => ∃ (a' : Option Addr) (c : Nat), r = .returned (.tuple #[.slice a' n c, .bool true]) ∧ Fresh w w'' (put zs (x - 2147483648).toNat (wantV e k) 8) a' n c) := fun w' hb => by
    obtain ⟨_, _, h1, h2, _, _, _, h4⟩ := okB_true hx
    obtain ⟨f, hf⟩ : ∃ f : Nat, x = 2147483648 + (f : Int) := ⟨(x - 2147483648).toNat, by omega⟩
    subst hf
    have hu := U_want e k
    have := implStore_n (some ⟨g, 0, none⟩) n rc f 8 zs (wantV e k) w' W.hz (by omega) (W.hs.below hb) hx hu.1 (by have := hu.2; omega)
    rw [show (2147483648 + (f : Int) - 2147483648).toNat = f from by omega]
    exact this.mono fun r w'' h => ⟨_, _, h.1, own_low h.2.1 hb.size, below_trans hb h.2.2⟩
  have F : Hid (∀ r w', mrkQ l k e x n zs w r w' = if permRest l 1 x (lastOf x 8) 3 4 0 = true then ∃ (a' : Option Addr) (c : Nat), r = .returned (.slice a' n c) ∧ Fresh w w' (put zs (x - 2147483648).toNat (wantV e k) 8) a' n c else r = gave (faultC k) ∧ Below w.heap.size w w') := fun r w' => rfl
  have hme := mark_eq e k he
  have hwe := want_eq e k
  rw [hm] at hme
  have h192 : bits .or .u64 64 128 = 192 := by decide +kernel
  generalize permRest l 1 x (lastOf x 8) 3 4 0 = pb at *
  generalize put zs (x - 2147483648).toNat (wantV e k) 8 = ms at *
  generalize mrkQ l k e x n zs w = Q at *
  generalize wantV e k = we at *
  clear W hm
  obtain ⟨mk, hmk, t⟩ : ∃ mk, marksP k = mk ∧ (((k == 3) = true ∧ mk = 192) ∨ ((k == 3) = false ∧ mk = 64)) := by
    refine ⟨_, rfl, ?_⟩
    by_cases h3 : k = 3
    · exact .inl ⟨by simpa using h3, if_pos h3⟩
    · exact .inr ⟨by simpa using h3, if_neg h3⟩
  rw [hmk] at hme hwe
  have HWE : Hid (bits .or .u64 e mk = we) := hwe
  clear hwe hmk
  rcases t with ⟨t, rfl⟩ | ⟨t, rfl⟩
  · have hme2 : (bits .and .u64 e 192 == 192) = false := hme
    clear hme
    cases pb with
    | false =>
      go_enter Tryd.func73, Tryd.ntmps73
      go_wp2_with fail
      refine (HPM.out _).mono ?_
      rintro r w1 ⟨rfl, hb1⟩
      have R1 : Hid (w1.heap[w.heap.size]? = some (.cells #[.slice (some ⟨g, 0, none⟩) n rc, .slice (some ⟨b, off, none⟩) 22 lc, .int .i64 p, .int .u64 va, .int .i64 k] 65 (0, 0))) := stays hb1 (heap_alloc_new w _)
      obtain ⟨k0, k1, k2, k3, k4⟩ := cells5 R1.out
      have B1 : Hid (Below w.heap.size w w1) := below_trans (hB0 _) hb1
      clear hb1
      go_wp2_with fail
      refine (HAF.out _).mono ?_
      rintro r w3 ⟨rfl, hb3⟩
      exact ⟨rfl, Eq.mpr ((F.out _ _).trans (if_neg (by decide))) ⟨rfl, below_trans B1.out hb3⟩⟩
    | true =>
      go_enter Tryd.func73, Tryd.ntmps73
      go_wp2_with fail
      refine (HPM.out _).mono ?_
      rintro r w1 ⟨rfl, hb1⟩
      have R1 : Hid (w1.heap[w.heap.size]? = some (.cells #[.slice (some ⟨g, 0, none⟩) n rc, .slice (some ⟨b, off, none⟩) 22 lc, .int .i64 p, .int .u64 va, .int .i64 k] 65 (0, 0))) := stays hb1 (heap_alloc_new w _)
      obtain ⟨k0, k1, k2, k3, k4⟩ := cells5 R1.out
      have B1 : Hid (Below w.heap.size w w1) := below_trans (hB0 _) hb1
      clear hb1
      go_wp2_with fail
      rw [HWE.out]
      refine (HST.out _ B1.out).mono ?_
      rintro r w3 ⟨a', c, rfl, hf⟩
      go_wp2_with fail
      exact Eq.mpr ((F.out _ _).trans (if_pos (by decide))) ⟨_, _, rfl, hf⟩
  · have hme2 : (bits .and .u64 e 64 == 64) = false := hme
    clear hme
    cases pb with
    | false =>
      go_enter Tryd.func73, Tryd.ntmps73
      go_wp2_with fail
      refine (HPM.out _).mono ?_
      rintro r w1 ⟨rfl, hb1⟩
      have R1 : Hid (w1.heap[w.heap.size]? = some (.cells #[.slice (some ⟨g, 0, none⟩) n rc, .slice (some ⟨b, off, none⟩) 22 lc, .int .i64 p, .int .u64 va, .int .i64 k] 65 (0, 0))) := stays hb1 (heap_alloc_new w _)
      obtain ⟨k0, k1, k2, k3, k4⟩ := cells5 R1.out
      have B1 : Hid (Below w.heap.size w w1) := below_trans (hB0 _) hb1
      clear hb1
      go_wp2_with fail
      refine (HAF.out _).mono ?_
      rintro r w3 ⟨rfl, hb3⟩
      exact ⟨rfl, Eq.mpr ((F.out _ _).trans (if_neg (by decide))) ⟨rfl, below_trans B1.out hb3⟩⟩
    | true =>
      go_enter Tryd.func73, Tryd.ntmps73
      go_wp2_with fail
      refine (HPM.out _).mono ?_
      rintro r w1 ⟨rfl, hb1⟩
      have R1 : Hid (w1.heap[w.heap.size]? = some (.cells #[.slice (some ⟨g, 0, none⟩) n rc, .slice (some ⟨b, off, none⟩) 22 lc, .int .i64 p, .int .u64 va, .int .i64 k] 65 (0, 0))) := stays hb1 (heap_alloc_new w _)
      obtain ⟨k0, k1, k2, k3, k4⟩ := cells5 R1.out
      have B1 : Hid (Below w.heap.size w w1) := below_trans (hB0 _) hb1
      clear hb1
      go_wp2_with fail
      rw [HWE.out]
      refine (HST.out _ B1.out).mono ?_
      rintro r w3 ⟨a', c, rfl, hf⟩
      go_wp2_with fail
      exact Eq.mpr ((F.out _ _).trans (if_pos (by decide))) ⟨_, _, rfl, hf⟩

end Go.Proofs.YtldjmphflgecjacDoor
