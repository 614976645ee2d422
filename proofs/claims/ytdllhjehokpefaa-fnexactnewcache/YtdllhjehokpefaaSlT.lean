/- The model's caches: new ones, copies, Lookup. -/
import Derived.Test.YtdllhjehokpefaaSlS
namespace Go.Proofs.Ytdllhjehokpefaa
open Go.RowKit
set_option linter.unusedVariables false

theorem specNewCache_any (w : World) : Calls Try.prog 23 #[] w fun e w' => ∃ g, e = .returned (.agg #[.slice (some ⟨g, 0, none⟩) 16 16]) ∧
    w'.ownsRow w.heap.size 60 5 (.slice (some ⟨g, 0, none⟩) 16 16) 16 (flatS (List.replicate 16 slt0)) ∧ Below w.heap.size w w' := by
  obtain ⟨i0, hi, hz0, hz1, hz2⟩ := info_parts Try.info60
  have hb2 : i0.bytes * 16 ≤ 281474976710656 := by rw [hz2]; omega
  have hb3 : 16 ≤ maxLen := by unfold maxLen; omega
  clear hz2
  go_enter Try.func23, Try.ntmps23
  go_wp2_with (at_make; refine wpList_make_full _ rfl (.const (.int .i64 16)) (.const (.int .i64 16)) 24 rfl w.heap.size 60 i0 _ 5 Try.underlying24 hi hz0 hz1 .i64 .i64 _ _ 16 rfl rfl rfl rfl hb2 hb3 (by simp) ?_; intro w1 hown hgrow; have r1 := (hgrow.block w.heap.size (by simp) (by simp)).trans (heap_alloc_new _ _); have q0 := row_at1 r1; have f0 := froz r1 0; have HG := dhid hgrow; have HO := dhid hown; have R1 := dhid r1; clear hown hgrow r1)
  have OW : w1.ownsRow w.heap.size 60 5 (.slice (some ⟨w.heap.size + 1, 0, none⟩) 16 16) 16 (flatS (List.replicate 16 slt0)) := by
    rw [← made_flat]; simpa [Value.cells] using HO.out
  have T1 := row_set R1.out 0 (.slice (some ⟨w.heap.size + 1, 0, none⟩) 16 16)
  have O1 := own_far OW ⟨w.heap.size, 0, none⟩ (.slice (some ⟨w.heap.size + 1, 0, none⟩) 16 16) (by intro k hk; simp [Value.ownBlock] at hk; dsimp only; omega)
  have B1 : Below w.heap.size w w1 := ((Below.refl _ _).alloc (Nat.le_refl _) _).grown HG.out (by simp) (by intro k h; cases h)
  exact bodyPost_ret (results_cell_row Try.results23 _ _ _ _ _ _ _ rfl T1 Try.underlying26 rfl cache_size) rfl ⟨_, rfl, O1, B1.setCell (by exact Nat.le_refl _) _⟩

set_option maxRecDepth 100000 in
theorem l10Copy_any (a : Option Addr) (n cap : Nat) (ss : List Slt) (w : World) (hz : ss.length = n) (hn0 : 0 < n) (hn : n ≤ 1048576) (hs : Ss w a ss) :
    Calls Try.prog 37 #[.agg #[.slice a n cap]] w fun e w' => ∃ g c, e = .returned (.agg #[.slice (some ⟨g, 0, none⟩) n c]) ∧
      w'.ownsRow w.heap.size 60 5 (.slice (some ⟨g, 0, none⟩) n c) n (flatS ss) ∧ Below w.heap.size w w' := by
  have hB3 : ∀ o1 o2 o3, Below w.heap.size w (((w.alloc o1).alloc o2).alloc o3) := fun o1 o2 o3 => (((Below.refl _ _).alloc (Nat.le_refl _) o1).alloc (by simp) o2).alloc (by simp; omega) o3
  have HS := dhid (fun o1 o2 o3 => hs.below (hB3 o1 o2 o3))
  have hE : ∀ o1 o2, (((w.alloc o1).alloc o2).alloc (.cells #[] 60 (0, 0))).ownsRow w.heap.size 60 5 (.slice (some ⟨w.heap.size + 1 + 1, 0, none⟩) 0 0) 0 [] := fun o1 o2 => by
    have := own_empty5 ((w.alloc o1).alloc o2) w.heap.size (by simp; omega) _ rfl
    simpa only [World.size_alloc] using this
  clear hs
  go_enter Try.func37, Try.ntmps37
  go_wp2_with (at_builtin; refine wpList_app5 rfl (.tmp 3) (.tmp 5) rfl w.heap.size _ rfl (hE _ _) a n cap ss rfl hz hn0 hn (HS.out _ _ _) (by simp; omega) ?_; intro g c w1 ow gr hg; have r1 := (gr.block (w.heap.size + 1) (by simp only [World.size_alloc]; omega) (by simp)).trans (rows3 (Below.refl _ _)).2.1; have q0 := row_at1 r1; have f0 := froz r1 0; have HG := dhid gr; have HO := dhid ow; have R1 := dhid r1; clear gr ow r1)
  have hgl : g < w1.heap.size := own_lt HO.out
  have hne : g ≠ w.heap.size + 1 := by
    intro e
    rcases HO.out.2 with ⟨h, _⟩ | ⟨g', _, cur, h, _, hh, _⟩
    · cases h
    · simp only [Value.slice.injEq, Option.some.injEq, Addr.mk.injEq, and_true, true_and] at h
      rw [← h.1, e, R1.out] at hh
      simp at hh
  have T1 := row_set R1.out 0 (.slice (some ⟨g, 0, none⟩) n c)
  have O1 := own_far HO.out ⟨w.heap.size + 1, 0, none⟩ (.slice (some ⟨g, 0, none⟩) n c) (by intro k hk; simp [Value.ownBlock] at hk; dsimp only; omega)
  have B1 : Below w.heap.size w w1 := (hB3 _ _ _).grown HG.out (by simp only [World.size_alloc]; omega) (by intro k h; cases h; omega)
  exact bodyPost_ret (results_cell_row Try.results37 _ _ _ _ _ _ _ rfl T1 Try.underlying26 rfl cache_size) rfl ⟨_, _, rfl, O1, B1.setCell (by dsimp only; omega) _⟩

end Go.Proofs.Ytdllhjehokpefaa
