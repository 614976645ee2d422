/- Draws of addresses of devices, of what DevStore and Tick are handed. -/
import Derived.Test.YtbkddoibefgplaaDevF
import Derived.Deep.RegionHeld3
namespace Go.Proofs.Ytbkddoibefgplaa
open Go.RowKit
set_option linter.unusedVariables false

set_option maxRecDepth 100000 in
set_option maxHeartbeats 6400000 in
theorem l8DrawAddr_c {w0 : World} {g : Nat} {a : Option Addr} {n cap : Nat} {zs : List Int} (hcd : Code w0 a n zs) (w : World) (hc : Cur w0 w g a n cap) :
    Calls Try.prog 32 #[.pointer (some ⟨g, 0, none⟩)] w fun e w' => ∃ x1 x2 : Int, e = .returned (.tuple #[.int .u64 x1, .int .i64 x2]) ∧ Hid (U x1 ∧ (Lit.int .i64 x2).wf = true) ∧ Hid (Cs w0 g a n cap w w') := by
  have HD : Hid (Code w0 a n zs) := hcd
  have HC : Hid (Cur w0 w g a n cap) := hc
  have hgl := dhid hc.lt
  clear hcd hc
  go_enter Try.func32, Try.ntmps32
  go_wp2_with fail
  have CA := dhid (Cs.alloc HC.out (.cells #[.int .u64 33554432, .int .u64 33570816, .int .u64 33603576, .int .u64 268435456, .int .u64 268435457, .int .u64 268435461] 24))
  have CB := dhid (CA.out.trans (Cs.alloc CA.out.1 (.cells #[.int .i64 4, .int .i64 8, .int .i64 8, .int .i64 1, .int .i64 1, .int .i64 1] 2)))
  obtain ⟨ra, rb⟩ := rows2 (w := w) (o1 := .cells #[.int .u64 33554432, .int .u64 33570816, .int .u64 33603576, .int .u64 268435456, .int .u64 268435457, .int .u64 268435461] 24) (o2 := .cells #[.int .i64 4, .int .i64 8, .int .i64 8, .int .i64 1, .int .i64 1, .int .i64 1] 2) (Below.refl _ _)
  have RA := dhid ra
  have RB := dhid rb
  clear ra rb CA
  refine (l1Below_c HD.out 6 (by omega) _ CB.out.1).mono ?_
  rintro e w1 ⟨x, rfl, hx, hs1⟩
  obtain ⟨k, rfl⟩ := Int.eq_ofNat_of_zero_le hx.1
  have hk : k < 6 := by have := hx.2; omega
  obtain ⟨hx0, hx1⟩ := hx
  go_wp2_with fail
  refine (l1Once_c HD.out 10 (by omega) _ hs1.out.1).mono ?_
  rintro e w2 ⟨c, rfl, hs2⟩
  have SA := dhid (hs2.out.keep (hs1.out.keep RA.out (Nat.ne_of_gt hgl.out)) (Nat.ne_of_gt hgl.out))
  have SB := dhid (hs2.out.keep (hs1.out.keep RB.out (by have := hgl.out; omega)) (by have := hgl.out; omega))
  have C2 := dhid (CB.out.trans (hs1.out.trans hs2.out))
  clear hs1 hs2 CB RA RB
  obtain ⟨va, hva, hca⟩ := few_words [33554432, 33570816, 33603576, 268435456, 268435457, 268435461] 24 SA.out (by intro x hx; simp at hx; unfold U; omega) (k := k) (by simp; omega)
  obtain ⟨vb, hvb, hcb⟩ := few_ints [4, 8, 8, 1, 1, 1] 2 SB.out (by decide) (k := k) (by simp; omega)
  have HV := dhid (And.intro hva hvb)
  clear hva hvb
  cases c with
  | false =>
    go_wp2_with fail
    go_region
    all_goals go_wp2_with fail
    all_goals refine bodyPost_ret (results_tmp2 rfl _ _ _) rfl ?_
    all_goals exact ⟨va, vb, rfl, HV, ⟨C2.out.1.grown (grown_dN w2 1 none), grown_trans C2.out.2 (grown_dN w2 1 _)⟩⟩
  | true =>
    obtain ⟨P, hP⟩ : ∃ P : World → Prop, P = fun w' => Cs w0 g a n cap w w' ∧ w'.cell? ⟨w.heap.size, k, none⟩ = some (.int .u64 va) := ⟨_, rfl⟩
    have p2 : P w2 := by rw [hP]; exact ⟨C2.out, hca⟩
    have PD : Hid (∀ w', P w' → P w'.drew) := by rw [hP]; exact fun w' h => ⟨⟨h.1.1.grown (grown_dN w' 1 none), grown_trans h.1.2 (grown_dN w' 1 _)⟩, h.2⟩
    have KS : Hid (∀ w', P w' → w'.cell? ⟨w.heap.size, k, none⟩ = some (.int .u64 va) ∧ P w') := by intro w' h; have h2 := h; rw [hP] at h; exact ⟨h.2, h2⟩
    have PE : Hid (∀ w', P w' → Cs w0 g a n cap w w') := by rw [hP]; exact fun w' h => h.1
    have PN : ∀ w' wx, P w' → Cs w0 g a n cap w' wx → P wx := by
      rw [hP]
      exact fun w' wx h hs => ⟨h.1.trans hs, by
        have hb := World.block_lt_of_cell? _ _ h.2
        have e := hs.2.block w.heap.size hb (by have := hgl.out; simp; omega)
        have h2 := h.2
        unfold World.cell? at h2 ⊢
        dsimp only at h2 ⊢ hb
        rw [e]
        exact h2⟩
    have HB : Hid (∀ w', P w' → Calls Try.prog 44 #[.pointer (some ⟨g, 0, none⟩), .int .i64 3] w' fun e wx => ∃ x : Int, e = .returned (.int .i64 x) ∧ P wx) := fun w' h => (l1Below_c HD.out 3 (by omega) w' (PE.out w' h).1).mono fun e wx ⟨x, h1, _, hs⟩ => ⟨x, h1, PN w' wx h hs.out⟩
    have HZ : Hid (∀ w', P w' → Calls Try.prog 53 #[.pointer (some ⟨g, 0, none⟩)] w' fun e wx => ∃ x : Int, e = .returned (.int .i64 x) ∧ Hid ((Lit.int .i64 x).wf = true) ∧ P wx) := fun w' h => (l1DrawSize_c HD.out w' (PE.out w' h).1).mono fun e wx ⟨x, h1, h2, hs⟩ => ⟨x, h1, h2, PN w' wx h hs.out⟩
    clear PN hP SA SB C2 hcb
    go_wp2_with fail
    go_region_held3 (fun w' => w'.cell? ⟨w.heap.size, k, none⟩ = some (.int .u64 va) ∧ P w') (first | exact KS.out _ (PD.out _ (by assumption)) | exact KS.out _ (by assumption)) (first | (go_at_call 44; with_reducible refine (HB.out _ ?_).mono ?_; (first | assumption | (exact PD.out _ (by assumption))); rintro e w3 ⟨y, rfl, p3⟩) | (go_at_call 53; with_reducible refine (HZ.out _ ?_).mono ?_; (first | assumption | (exact PD.out _ (by assumption))); rintro e w4 ⟨z, rfl, hz, p4⟩))
    all_goals go_wp2_with fail
    all_goals refine bodyPost_ret (results_tmp2 rfl _ _ _) rfl ?_
    all_goals exact ⟨_, z, rfl, ⟨U_wrap _, hz.out⟩, PE.out _ p4⟩

theorem Code.below {w w' : World} {a : Option Addr} {n : Nat} {zs : List Int} (h : Code w a n zs) (hb : Below w.heap.size w w') : Code w' a n zs := ⟨h.len, h.few, h.sl.below hb, h.bd⟩

theorem results_cttt8 {P : Program} {fn : Func} {p s u x : Tmp} {ty : TypeId} (h : fn.results = #[.cell p ty, .tmp s, .tmp u, .tmp x]) (tmps : Array Value) (w : World) (g : Nat) (t : TypeId) (cs : Array Value) (fr : Nat × Nat) (d : TypeDesc)
    (hp : tmps.getD p undef = .pointer (some ⟨g, 0, none⟩)) (hg : w.heap[g]? = some (.cells cs t fr))
    (hu : P.underlying ty = some d) (hd : (match d with | .struct _ | .array _ _ => true | _ => false) = true) (hi : (P.info? ty).map (·.size) = some cs.size) :
    (results fn tmps).run P w = .ok (.tuple #[.agg cs, tmps.getD s undef, tmps.getD u undef, tmps.getD x undef]) w := by
  have h1 : (results fn tmps).run P w = ((asAddr (tmps.getD p undef)).run P w).andThen fun a w₁ => ((loadVar ty a).run P w₁).andThen fun v w₂ => .ok (.tuple #[v, tmps.getD s undef, tmps.getD u undef, tmps.getD x undef]) w₂ := by
    simp only [results, h]
    simp [Sem.run_bind, Result.andThen]
  rw [h1, hp]
  simp [asAddr, run_loadVar_row w g t ty cs fr d hg hu hd hi]

/-- What a drawn device is to a law: right numbers, its lists in memory, nothing of before written. -/
structure Dd (w w' : World) (D : DV) (a1 a2 : Option Addr) : Prop where
  fits : FitsA D
  s1 : Sl .u8 w' a1 D.xs
  s2 : Sl .u8 w' a2 D.ys
  below : Below w.heap.size w w'

set_option maxRecDepth 100000 in
set_option maxHeartbeats 6400000 in
theorem DrawDevStore_c {a : Option Addr} {n : Nat} (cap : Nat) {zs : List Int} (w : World) (hcd : Code w a n zs) :
    Calls Try.prog 10 #[.slice a n cap] w fun e w' => ∃ (D : DV) (a1 : Option Addr) (c1 : Nat) (a2 : Option Addr) (c2 : Nat) (x1 x2 x3 : Int), e = .returned (.tuple #[.agg (dvc D a1 c1 a2 c2), .int .u64 x1, .int .i64 x2, .int .u64 x3]) ∧ Hid (U x1 ∧ (Lit.int .i64 x2).wf = true ∧ U x3) ∧ Hid (Dd w w' D a1 a2) := by
  have HD : Hid (∀ o, Code (w.alloc o) a n zs) := fun o => hcd.below ((Below.refl _ _).alloc (Nat.le_refl _) o)
  clear hcd
  go_enter Try.func10, Try.ntmps10
  go_wp2_with fail
  refine (l1New_c cap _ (HD.out _)).mono ?_
  rintro e w1 ⟨g, rfl, hc⟩
  have RR := dhid (hc.out.below.block w.heap.size (by rw [World.size_alloc]; omega) |>.trans (heap_alloc_new w (.cells (dvc zeroD none 0 none 0) 26)))
  have HG := dhid (show w.heap.size < g by have := hc.out.new; rw [World.size_alloc] at this; omega)
  have B1 := dhid (below_trans ((Below.refl w.heap.size w).alloc (Nat.le_refl _) (.cells (dvc zeroD none 0 none 0) 26)) hc.out.below)
  obtain ⟨W0, hW0⟩ : ∃ W0, W0 = w.alloc (.cells (dvc zeroD none 0 none 0) 26) := ⟨_, rfl⟩
  have hc2 : Hid (Cur W0 w1 g a n cap) := by rw [hW0]; exact hc
  have HD0 : Hid (Code W0 a n zs) := by rw [hW0]; exact HD.out _
  have BW : Hid (Below w.heap.size w W0) := by rw [hW0]; exact (Below.refl _ _).alloc (Nat.le_refl _) _
  clear hc hW0 HD
  go_wp2_with fail
  refine (l8DrawAny_c HD0.out _ hc2.out).mono ?_
  rintro e w2 ⟨D, a1, c1, a2, c2, rfl, FA, FM, hs2⟩
  have HW := dhid (hc2.out.lt)
  have CA := dhid (Cs.alloc hs2.out.1 (.cells (dvc D a1 c1 a2 c2) 26))
  have FM2 := dhid (FM.out.below ((Below.refl _ _).alloc (Nat.le_refl _) (.cells (dvc D a1 c1 a2 c2) 26)))
  have Z2 := dhid hs2.out.2.size
  dsimp only [dvc] at CA FM2 ⊢
  clear FM
  go_wp2_with fail
  refine (l8DrawAddr_c HD0.out _ CA.out.1).mono ?_
  rintro e w3 ⟨x1, x2, rfl, hu, hs3⟩
  have C3 := dhid (hs2.out.trans (CA.out.trans hs3.out))
  have R3 := dhid (hs3.out.keep (heap_alloc_new w2 _) (by have := HW.out; have := Z2.out; omega))
  have RR3 := dhid (C3.out.keep RR.out (Nat.ne_of_lt HG.out))
  have FM3 := dhid (FM2.out.mono (w' := w3) fun j h1 h2 h3 => hs3.out.2.block j h3 (by have := HW.out; simp; omega))
  have HWD : Hid (∀ w', Cur W0 w' g a n cap → Calls Try.prog 33 #[.pointer (some ⟨g, 0, none⟩)] w' fun e w'' => ∃ x : Int, e = .returned (.int .u64 x) ∧ (0 ≤ x ∧ x < 18446744073709551616) ∧ Hid (Cs W0 g a n cap w' w'')) := fun w' h => l1DrawWord_c HD0.out w' h
  have CD : Hid (Cur W0 w3.drew g a n cap) := C3.out.1.grown (grown_dN w3 1 none)
  obtain ⟨p0, p1, p2, p3, p4, p5⟩ := cells6 R3.out
  have nd1 : ¬ w2.heap.size = w.heap.size := by have := HW.out; have := HG.out; have := Z2.out; omega
  have nd2 : ¬ w.heap.size = w2.heap.size := by have := HW.out; have := HG.out; have := Z2.out; omega
  clear hs3 hs2 FM2 CA hc2 RR
  go_wp2_with fail
  go_region_with (first | (go_at_call 33; with_reducible refine (HWD.out _ ?_).mono ?_; exact CD.out; rintro e w4 ⟨x3, rfl, hx3, hs4⟩; have HX := dhid hx3; have C4 := dhid hs4.out; clear hx3 hs4; have R4 := dhid (C4.out.keep R3.out (by have := HW.out; have := Z2.out; omega)); have RR4 := dhid (C4.out.keep RR3.out (Nat.ne_of_lt HG.out)); obtain ⟨q0, q1, q2, q3, q4, q5⟩ := cells6 R4.out; obtain ⟨s0, s1, s2, s3, s4, s5⟩ := cells6 RR4.out; obtain ⟨y0, y1, y2, y3, y4, y5⟩ := froz6 RR4.out))
  all_goals go_wp2_with fail
  all_goals have FM4 := FM3.out.mono (w' := w4) fun j h1 h2 h3 => C4.out.2.block j (by exact h3) (by have := HW.out; simp; omega)
  all_goals have FP := FM4.put6 w.heap.size (.inl (by have := HW.out; have := HG.out; omega)) (.int .u64 D.t) (.int .u64 D.cm) (.bool D.so) (.slice a1 D.xs.length c1) (.slice a2 D.ys.length c2) (.int .i64 D.ir)
  all_goals exact bodyPost_ret (results_cttt8 Try.results10 _ _ _ _ _ _ _ rfl (row_put6 RR4.out _ _ _ _ _ _) Try.underlying26 rfl dev_size) rfl ⟨D, a1, c1, a2, c2, x1, x2, x3, rfl, ⟨hu.out.1, hu.out.2, HX.out⟩, ⟨FA.out, FP.in_, FP.out_, below_put6 (below_trans BW.out C4.out.1.below) (Nat.le_refl _) _ _ _ _ _ _⟩⟩

set_option maxRecDepth 100000 in
set_option maxHeartbeats 6400000 in
theorem DrawTick_c {a : Option Addr} {n : Nat} (cap : Nat) {zs : List Int} (w : World) (hcd : Code w a n zs) :
    Calls Try.prog 20 #[.slice a n cap] w fun e w' => ∃ (D : DV) (a1 : Option Addr) (c1 : Nat) (a2 : Option Addr) (c2 : Nat) (x : Int), e = .returned (.tuple #[.agg (dvc D a1 c1 a2 c2), .int .i64 x]) ∧ Hid ((Lit.int .i64 x).wf = true) ∧ Hid (Dd w w' D a1 a2) := by
  have HD : Hid (∀ o, Code (w.alloc o) a n zs) := fun o => hcd.below ((Below.refl _ _).alloc (Nat.le_refl _) o)
  clear hcd
  go_enter Try.func20, Try.ntmps20
  go_wp2_with fail
  refine (l1New_c cap _ (HD.out _)).mono ?_
  rintro e w1 ⟨g, rfl, hc⟩
  have RR := dhid (hc.out.below.block w.heap.size (by rw [World.size_alloc]; omega) |>.trans (heap_alloc_new w (.cells (dvc zeroD none 0 none 0) 26)))
  have HG := dhid (show w.heap.size < g by have := hc.out.new; rw [World.size_alloc] at this; omega)
  obtain ⟨W0, hW0⟩ : ∃ W0, W0 = w.alloc (.cells (dvc zeroD none 0 none 0) 26) := ⟨_, rfl⟩
  have hc2 : Hid (Cur W0 w1 g a n cap) := by rw [hW0]; exact hc
  have HD0 : Hid (Code W0 a n zs) := by rw [hW0]; exact HD.out _
  have BW : Hid (Below w.heap.size w W0) := by rw [hW0]; exact (Below.refl _ _).alloc (Nat.le_refl _) _
  clear hc hW0 HD
  go_wp2_with fail
  refine (l8DrawAny_c HD0.out _ hc2.out).mono ?_
  rintro e w2 ⟨D, a1, c1, a2, c2, rfl, FA, FM, hs2⟩
  have HW := dhid (hc2.out.lt)
  have CA := dhid (Cs.alloc hs2.out.1 (.cells (dvc D a1 c1 a2 c2) 26))
  have FM2 := dhid (FM.out.below ((Below.refl _ _).alloc (Nat.le_refl _) (.cells (dvc D a1 c1 a2 c2) 26)))
  have Z2 := dhid hs2.out.2.size
  have R2 := dhid (heap_alloc_new w2 (.cells (dvc D a1 c1 a2 c2) 26))
  dsimp only [dvc] at CA FM2 R2 ⊢
  clear FM
  go_wp2_with fail
  refine (l1Below_c HD0.out 100 (by omega) _ CA.out.1).mono ?_
  rintro e w3 ⟨x, rfl, hx, hs3⟩
  have HX : Hid ((Lit.int .i64 x).wf = true) := wf64 (by omega) (by omega)
  clear hx
  go_wp2_with fail
  refine (l1Once_c HD0.out 12 (by omega) _ hs3.out.1).mono ?_
  rintro e w4 ⟨c, rfl, hs4⟩
  have C4 := dhid (CA.out.trans (hs3.out.trans hs4.out))
  have D4 := dhid (hs3.out.trans hs4.out)
  have nd1 : ¬ w2.heap.size = w.heap.size := by have := HW.out; have := HG.out; have := Z2.out; omega
  have nd2 : ¬ w.heap.size = w2.heap.size := by have := HW.out; have := HG.out; have := Z2.out; omega
  go_upto_if 14 with fail
  go_cut [6] from 7 (fun y wc => ∃ x : Int, y = .int .i64 x ∧ Hid ((Lit.int .i64 x).wf = true) ∧ Hid (Cs W0 g a n cap w4 wc))
  case first =>
    cases c with
    | false =>
      go_wp2_with fail
      go_meet
      exact ⟨x, rfl, HX, Cs.refl hs4.out.1⟩
    | true =>
      go_wp2_with fail
      have HA := Cs.alloc hs4.out.1 (.cells #[.int .i64 (-1), .int .i64 0, .int .i64 4611686018427387904, .int .i64 (-9223372036854775808)] 2)
      refine (l1Below_c HD0.out 4 (by omega) _ HA.1).mono ?_
      rintro e w5 ⟨y, rfl, ⟨hx0, hx1⟩, hs5⟩
      obtain ⟨j, rfl⟩ := Int.eq_ofNat_of_zero_le hx0
      obtain ⟨v, hv, hcell⟩ := few_ints [-1, 0, 4611686018427387904, -9223372036854775808] 2 (hs5.out.keep (heap_alloc_new _ _) (Nat.ne_of_gt hs4.out.1.lt)) (by decide) (k := j) (by simp; omega)
      have HV : Hid ((Lit.int .i64 v).wf = true) := hv
      have HS : Hid (Cs W0 g a n cap w4 w5) := HA.trans hs5.out
      clear hv hs5 HA
      go_wp2_with fail
      go_meet
      exact ⟨v, rfl, HV, HS⟩
  case rest =>
    obtain ⟨y, rfl, HY, hs5⟩ := hcut
    have R5 := dhid (hs5.out.keep (D4.out.keep R2.out (by have := HW.out; have := Z2.out; omega)) (by have := HW.out; have := Z2.out; omega))
    have RR5 := dhid (hs5.out.keep (C4.out.keep (hs2.out.keep RR.out (Nat.ne_of_lt HG.out)) (Nat.ne_of_lt HG.out)) (Nat.ne_of_lt HG.out))
    have FM5 := dhid ((FM2.out.mono (w' := w4) fun j h1 h2 h3 => D4.out.2.block j h3 (by have := HW.out; simp; omega)).mono (w' := wc) fun j h1 h2 h3 => hs5.out.2.block j h3 (by have := HW.out; simp; omega))
    obtain ⟨p0, p1, p2, p3, p4, p5⟩ := cells6 R5.out
    obtain ⟨s0, s1, s2, s3, s4, s5⟩ := cells6 RR5.out
    obtain ⟨y0, y1, y2, y3, y4, y5⟩ := froz6 RR5.out
    have FP := dhid (FM5.out.put6 w.heap.size (.inl (by have := HW.out; have := HG.out; omega)) (.int .u64 D.t) (.int .u64 D.cm) (.bool D.so) (.slice a1 D.xs.length c1) (.slice a2 D.ys.length c2) (.int .i64 D.ir))
    go_wp2_with fail
    exact bodyPost_ret (results_ct8 Try.results20 _ _ _ _ _ _ _ rfl (row_put6 RR5.out _ _ _ _ _ _) Try.underlying26 rfl dev_size) rfl ⟨D, a1, c1, a2, c2, y, rfl, HY, ⟨FA.out, FP.out.in_, FP.out.out_, below_put6 (below_trans BW.out hs5.out.1.below) (Nat.le_refl _) _ _ _ _ _ _⟩⟩

end Go.Proofs.Ytbkddoibefgplaa
