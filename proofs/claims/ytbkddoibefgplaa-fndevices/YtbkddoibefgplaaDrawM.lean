/- Memory that is drawn: bytes of our own, an address, a size. -/
import Derived.Test.YtbkddoibefgplaaDrawN
import Derived.Test.YtbkddoibefgplaaMemC
namespace Go.Proofs.Ytbkddoibefgplaa
open Go.RowKit
set_option linter.unusedVariables false

/-- m bytes of our own in block b, beside the cursor. -/
def Rm (w0 : World) (g : Nat) (a : Option Addr) (n cap : Nat) (w : World) (b m : Nat) (wr : World) : Prop :=
  ∃ zs : List Int, (∀ y ∈ zs, (Lit.int .u8 y).wf = true) ∧ wr.ownsRow w.heap.size 5 1 (.slice (some ⟨b, 0, none⟩) m m) m (zs.map (Value.int .u8)) ∧ Cs w0 g a n cap w wr ∧ g < w.heap.size ∧ w.heap.size ≤ b

theorem Rm.next {w0 : World} {g : Nat} {a : Option Addr} {n cap : Nat} {w wr wx : World} {b m : Nat} (h : Rm w0 g a n cap w b m wr) (k : Cs w0 g a n cap wr wx) : Rm w0 g a n cap w b m wx := by
  obtain ⟨zs, hu, ho, hc, hg, hb⟩ := h
  refine ⟨zs, hu, kept_of ho k.2 ?_, hc.trans k, hg, hb⟩
  intro j hj hne
  simp [Value.ownBlock] at hj hne
  omega

theorem Rm.cur {w0 : World} {g : Nat} {a : Option Addr} {n cap : Nat} {w wr : World} {b m : Nat} (h : Rm w0 g a n cap w b m wr) : Cur w0 wr g a n cap := by
  obtain ⟨zs, hu, ho, hc, hg, hb⟩ := h
  exact hc.1

theorem Rm.cs {w0 : World} {g : Nat} {a : Option Addr} {n cap : Nat} {w wr : World} {b m : Nat} (h : Rm w0 g a n cap w b m wr) : Cs w0 g a n cap w wr := by
  obtain ⟨zs, hu, ho, hc, hg, hb⟩ := h
  exact hc

theorem wf8 {y : Int} (h0 : 0 ≤ y) (h1 : y ≤ 255) : (Lit.int .u8 y).wf = true := by
  have hmin : IntKind.u8.min = 0 := rfl
  have hmax : IntKind.u8.max = 255 := rfl
  simp only [Lit.wf, Bool.and_eq_true, decide_eq_true_eq]
  omega

theorem Rm.put {w0 : World} {g : Nat} {a : Option Addr} {n cap : Nat} {w wr : World} {b m : Nat} (h : Rm w0 g a n cap w b m wr) (k : Nat) (y : Int) (hy : (Lit.int .u8 y).wf = true) : Rm w0 g a n cap w b m (wr.setCell ⟨b, k, none⟩ (.int .u8 y)) := by
  obtain ⟨zs, hu, ho, hc, hg, hb⟩ := h
  have hst := ho.stored k (.int .u8 y)
  rw [map_set_u8] at hst
  refine ⟨zs.set k y, fun x hx => ?_, hst.1, ⟨?_, ?_⟩, hg, hb⟩
  · rcases List.mem_or_eq_of_mem_set hx with h | h
    · exact hu x h
    · rw [h]; exact hy
  · obtain ⟨i, x, hi, hrow⟩ := hc.1.row
    refine ⟨hc.1.new, hc.1.below.setCell ?_ _, i, x, hi, ?_⟩
    · show w0.heap.size ≤ b
      have := hc.1.new; omega
    · rw [heap_setCell_other _ _ _ _ (by show g ≠ b; omega)]; exact hrow
  · refine ⟨hc.2.os, hc.2.tape, hc.2.output, by simpa [World.setCell] using hc.2.size, fun j hj hne => ?_⟩
    rw [heap_setCell_other _ _ _ _ (by show j ≠ b; omega)]
    exact hc.2.block j hj hne

theorem Rm.cell {w0 : World} {g : Nat} {a : Option Addr} {n cap : Nat} {w wr : World} {b m : Nat} (h : Rm w0 g a n cap w b m wr) (k : Nat) (hk : k < m) : ∃ v, wr.cell? ⟨b, k, none⟩ = some (.int .u8 v) ∧ wr.frozen? ⟨b, k, none⟩ = false := by
  obtain ⟨zs, hu, ho, hc, hg, hb⟩ := h
  have hl : zs.length = m := by have := ho.1; simpa using this
  obtain ⟨b', off, e, _, hcl⟩ := own_sl ho k (by omega)
  simp only [Option.some.injEq, Addr.mk.injEq, and_true] at e
  obtain ⟨rfl, rfl⟩ := e
  rw [Nat.zero_add] at hcl
  exact ⟨_, hcl, ho.frozenAt k⟩

theorem Rm.sl {w0 : World} {g : Nat} {a : Option Addr} {n cap : Nat} {w wr : World} {b m : Nat} (h : Rm w0 g a n cap w b m wr) : ∃ zs : List Int, zs.length = m ∧ (∀ y ∈ zs, (Lit.int .u8 y).wf = true) ∧ Sl .u8 wr (some ⟨b, 0, none⟩) zs := by
  obtain ⟨zs, hu, ho, hc, hg, hb⟩ := h
  exact ⟨zs, by have := ho.1; simpa using this, hu, own_sl ho⟩

theorem zeros_wf (m : Nat) : ∀ y ∈ List.replicate m (0 : Int), (Lit.int .u8 y).wf = true := by
  intro y hy
  rw [(List.mem_replicate.mp hy).2]; decide

theorem l1DrawSize_c {w0 : World} {g : Nat} {a : Option Addr} {n cap : Nat} {zs : List Int} (hcd : Code w0 a n zs) (w : World) (hc : Cur w0 w g a n cap) :
    Calls Try.prog 53 #[.pointer (some ⟨g, 0, none⟩)] w fun e w' => ∃ x : Int, e = .returned (.int .i64 x) ∧ (Lit.int .i64 x).wf = true ∧ Hid (Cs w0 g a n cap w w') := by
  have HD : Hid (Code w0 a n zs) := hcd
  have HC : Hid (Cur w0 w g a n cap) := hc
  clear hcd hc
  go_enter Try.func53, Try.ntmps53
  go_wp2_with fail
  refine (l1Once_c HD.out 20 (by omega) _ HC.out).mono ?_
  rintro e w1 ⟨c, rfl, hs1⟩
  cases c with
  | true =>
    go_wp2_with fail
    have HA := Cs.alloc hs1.out.1 (.cells #[.int .i64 0, .int .i64 3, .int .i64 16, .int .i64 (-1)] 2)
    refine (l1Below_c HD.out 4 (by omega) _ HA.1).mono ?_
    rintro e w2 ⟨x, rfl, ⟨hx0, hx1⟩, hs2⟩
    obtain ⟨k, rfl⟩ := Int.eq_ofNat_of_zero_le hx0
    obtain ⟨v, hv, hcell⟩ := few_ints [0, 3, 16, -1] 2 (hs2.out.keep (heap_alloc_new _ _) (Nat.ne_of_gt hs1.out.1.lt)) (by decide) (k := k) (by simp; omega)
    have HV : Hid ((Lit.int .i64 v).wf = true) := hv
    have HS : Hid (Cs w0 g a n cap w w2) := hs1.out.trans (HA.trans hs2.out)
    clear hv hs1 hs2 HA HC
    go_wp2_with fail
    go_ret
    exact ⟨_, rfl, HV.out, HS⟩
  | false =>
    go_wp2_with fail
    have HA := Cs.alloc hs1.out.1 (.cells #[.int .i64 1, .int .i64 2, .int .i64 4, .int .i64 8] 2)
    refine (l1Below_c HD.out 4 (by omega) _ HA.1).mono ?_
    rintro e w2 ⟨x, rfl, ⟨hx0, hx1⟩, hs2⟩
    obtain ⟨k, rfl⟩ := Int.eq_ofNat_of_zero_le hx0
    obtain ⟨v, hv, hcell⟩ := few_ints [1, 2, 4, 8] 2 (hs2.out.keep (heap_alloc_new _ _) (Nat.ne_of_gt hs1.out.1.lt)) (by decide) (k := k) (by simp; omega)
    have HV : Hid ((Lit.int .i64 v).wf = true) := hv
    have HS : Hid (Cs w0 g a n cap w w2) := hs1.out.trans (HA.trans hs2.out)
    clear hv hs1 hs2 HA HC
    go_wp2_with fail
    go_ret
    exact ⟨_, rfl, HV.out, HS⟩

theorem results_4 {fn : Func} {t u v x : Tmp} (h : fn.results = #[.tmp t, .tmp u, .tmp v, .tmp x]) (tmps : Array Value) (P : Program) (w : World) :
    (results fn tmps).run P w = .ok (.tuple #[tmps.getD t undef, tmps.getD u undef, tmps.getD v undef, tmps.getD x undef]) w := by
  simp only [results, h]
  simp

end Go.Proofs.Ytbkddoibefgplaa
