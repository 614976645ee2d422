/- The walk of laws.FnMachines: it returns true at every code, and writes nothing that was there. By tools/genLawMach.py. -/
import Derived.Test.YtcdjfiljlahaeaaHandT
import Derived.Test.YtcdjfiljlahaeaaK11
import Derived.Test.YtcdjfiljlahaeaaK20
import Derived.Test.YtcdjfiljlahaeaaK21
import Derived.Test.YtcdjfiljlahaeaaK24
import Derived.Test.YtcdjfiljlahaeaaK25
import Derived.Deep.RegionHeld3
namespace Go.Proofs.Ytcdjfiljlahaeaa.fnMachines
open Go.RowKit
set_option linter.unusedVariables false

/-- A machine in a variable of the law's: its block, its lists. -/
structure Vm (W : World) (b : Nat) (M : MV) (A : MA) : Prop where
  row : W.heap[b]? = some (.cells #[.int .u64 M.pc, .slice A.ax M.x.length A.cx, .int .i64 M.pr, .slice A.ac M.cs.length A.cc, .slice A.ar M.ram.length A.cr, .int .u64 M.d.t, .int .u64 M.d.cm, .bool M.d.so, .slice A.ai M.d.xs.length A.ci, .slice A.ao M.d.ys.length A.co, .int .i64 M.d.ir, .int .u64 M.hd, .bool M.hl, .bool M.wt] 30 (0, 0))
  sl : MSl W M A

theorem Vm.below {W W' : World} {b : Nat} {M : MV} {A : MA} (h : Vm W b M A) (hb : Below W.heap.size W W') : Vm W' b M A := ⟨dstays hb h.row, h.sl.below hb⟩

theorem Vm.new {W : World} {M : MV} {A : MA} (h : MSl W M A) : Vm (W.alloc (.cells #[.int .u64 M.pc, .slice A.ax M.x.length A.cx, .int .i64 M.pr, .slice A.ac M.cs.length A.cc, .slice A.ar M.ram.length A.cr, .int .u64 M.d.t, .int .u64 M.d.cm, .bool M.d.so, .slice A.ai M.d.xs.length A.ci, .slice A.ao M.d.ys.length A.co, .int .i64 M.d.ir, .int .u64 M.hd, .bool M.hl, .bool M.wt] 30)) W.heap.size M A := ⟨heap_alloc_new _ _, h.below ((Below.refl _ _).alloc (Nat.le_refl _) _)⟩

theorem zero_sl (W : World) : MSl W zeroM zeroA := ⟨fun i hi => absurd hi (Nat.not_lt_zero i), fun i hi => absurd hi (Nat.not_lt_zero i), fun i hi => absurd hi (Nat.not_lt_zero i), fun i hi => absurd hi (Nat.not_lt_zero i), fun i hi => absurd hi (Nat.not_lt_zero i)⟩

set_option maxRecDepth 100000 in
set_option maxHeartbeats 6400000 in
theorem walk (a0 : Option Addr) (len0 cap0 : Nat) (z0 : List Int) (w : World) (w0 : IsRow .u8 w a0 len0 cap0 z0) :
    Calls Try.prog 3 #[.slice a0 len0 cap0] w fun e w' => e = .returned (.bool true) ∧ Below w.heap.size w w' := by
  by_cases hbig : 4096 < len0
  · have hb : decide (4096 < len0) = true := by simpa using hbig
    go_enter Try.func3, Try.ntmps3
    go_wp2_with fail
    refine (big_any a0 len0 cap0 _).mono ?_
    rintro e w1 ⟨rfl, hw1⟩
    subst hw1
    rw [hb]
    go_wp2_with fail
    go_ret
    exact ⟨rfl, Below.refl _ _⟩
  · have hb : decide (4096 < len0) = false := by simpa using hbig
    obtain ⟨zs, hcd⟩ := code_of w0 (by omega)
    have HD : Hid (Code w a0 len0 zs) := hcd
    clear hcd w0 hbig
    go_enter Try.func3, Try.ntmps3
    go_wp2_with fail
    refine (big_any a0 len0 cap0 _).mono ?_
    rintro e w1 ⟨rfl, hw1⟩
    have hw1' := hw1.symm
    subst hw1'
    rw [hb]
    clear hb
    go_wp2_with fail
    refine (DrawNewMachine_c cap0 _ HD.out).mono ?_
    rintro e w2 ⟨rb, n, ram, rfl, hrl, hn, HU, HS, HB⟩
    have HD2 : Hid (Code w2 a0 len0 zs) := ⟨HD.out.len, HD.out.few, HD.out.sl.below HB.out, HD.out.bd⟩
    have HN := dhid (new_len (ram := ram) (by omega))
    have HI := dhid (implNewMachine_any (some ⟨rb, 0, none⟩) n n ram w2 hrl (by omega) HS.out)
    have HSN : Hid (∀ w', Below w2.heap.size w2 w' → Calls Try.prog 8 #[.slice (some ⟨rb, 0, none⟩) n n] w' fun e w'' => ∃ C : MA, e = .returned (.tuple #[.agg (mvc (newM ram) C), .bool (ramOkB n)]) ∧ Fam w'.heap.size w''.heap.size w'' (mvF (newM ram) C) ∧ Below w'.heap.size w' w'') := fun w' hb => specNewMachine_any (some ⟨rb, 0, none⟩) n n ram w' hrl (by omega) (HS.out.below hb)
    have HRK : Hid (∀ w', Calls Try.prog 10 #[.slice (some ⟨rb, 0, none⟩) n n] w' fun e w'' => e = .returned (.bool (ramOkB n)) ∧ w'' = w') := fun w' => implRamOk_any _ _ _ w' (by omega)
    have PA := dhid (fun h => new_right (ram := ram) (by rw [hrl]; exact h))
    have PP := dhid (fun h => new_parts (ram := ram) (by rw [hrl]; exact h))
    have PU := dhid (new_U ram)
    have CVR : Hid (∀ w', Below w2.heap.size w2 w' → (convert 22 9 (.slice (some ⟨rb, 0, none⟩) n n)).run Try.prog w' = .ok (.string (strOfNums ram)) w') := fun w' hb => conv_sl _ _ _ _ _ hrl (HS.out.below hb)
    have RL := dhid hrl
    clear HD HU HS hrl
    generalize newM ram = N at *
    dsimp only [mvc] at HI HSN
    go_wp2_with fail
    refine HI.out.mono ?_
    rintro e w3 ⟨C4, rfl, f3, hb3⟩
    have V3 := dhid (Vm.new f3.msl)
    have B3 : Hid (Below w2.heap.size w2 (w3.alloc (.cells #[.int .u64 N.pc, .slice C4.ax N.x.length C4.cx, .int .i64 N.pr, .slice C4.ac N.cs.length C4.cc, .slice C4.ar N.ram.length C4.cr, .int .u64 N.d.t, .int .u64 N.d.cm, .bool N.d.so, .slice C4.ai N.d.xs.length C4.ci, .slice C4.ao N.d.ys.length C4.co, .int .i64 N.d.ir, .int .u64 N.hd, .bool N.hl, .bool N.wt] 30))) := hb3.alloc hb3.size _
    have S3 := dhid (show w2.heap.size ≤ w3.heap.size from hb3.size)
    clear HI f3 hb3
    go_wp2_with fail
    refine (HSN.out _ B3.out).mono ?_
    rintro e w4 ⟨C6, rfl, f4, hb4⟩
    have hx4 := below_trans hb4 ((Below.refl w4.heap.size w4).alloc (Nat.le_refl _) (.cells #[.int .u64 N.pc, .slice C6.ax N.x.length C6.cx, .int .i64 N.pr, .slice C6.ac N.cs.length C6.cc, .slice C6.ar N.ram.length C6.cr, .int .u64 N.d.t, .int .u64 N.d.cm, .bool N.d.so, .slice C6.ai N.d.xs.length C6.ci, .slice C6.ao N.d.ys.length C6.co, .int .i64 N.d.ir, .int .u64 N.hd, .bool N.hl, .bool N.wt] 30))
    have V4 := dhid (V3.out.below hx4)
    have V6 := dhid (Vm.new f4.msl)
    have B4 := dhid (below_trans B3.out hx4)
    have Z4 := dhid (show w3.heap.size < w4.heap.size by have := hb4.size; rw [World.size_alloc] at this; omega)
    clear hx4 hb4 f4 V3 B3 HSN
    obtain ⟨c0, c1, c2, c3, c4, c5, c6, c7, c8, c9, c10, c11, c12, c13⟩ := cells14 V4.out.row
    obtain ⟨k0, k1, k2, k3, k4, k5, k6, k7, k8, k9, k10, k11, k12, k13⟩ := cells14 V6.out.row
    have tn : (ramOkB n != ramOkB n) = false := by simp
    generalize hro : ramOkB n = ro at *
    go_wp2_with fail
    refine (likeMachine_same N C4 C6 _ HN.out V4.out.sl V6.out.sl).mono ?_
    rintro e w5 ⟨rfl, hb5⟩
    have V5 := dhid (V4.out.below hb5)
    have B5 := dhid (below_trans B4.out hb5)
    clear V4 V6 B4 hb5 c0 c1 c2 c3 c4 c5 c6 c7 c8 c9 c10 c11 c12 c13 k0 k1 k2 k3 k4 k5 k6 k7 k8 k9 k10 k11 k12 k13 tn
    cases ro with
    | false =>
      go_wp2_with fail
      refine (HRK.out _).mono ?_
      rintro e w6 ⟨rfl, rfl⟩
      go_wp2_with fail
      go_ret
      exact ⟨rfl, below_trans HB.out B5.out⟩
    | true =>
      have HMN := dhid (PA.out rfl)
      have HPN := dhid (PP.out rfl)
      clear HRK PA PP
      as_aux_lemma =>
        go_wp2_with fail
        refine (DrawLined_c cap0 _ (show Code w5 a0 len0 zs from ⟨HD2.out.len, HD2.out.few, HD2.out.sl.below B5.out, HD2.out.bd⟩)).mono ?_
        rintro e w6 ⟨L, A8, rfl, hma, hsl, hb6⟩
        have hx6 := below_trans hb6.out ((Below.refl w6.heap.size w6).alloc (Nat.le_refl _) (.cells #[.int .u64 L.pc, .slice A8.ax L.x.length A8.cx, .int .i64 L.pr, .slice A8.ac L.cs.length A8.cc, .slice A8.ar L.ram.length A8.cr, .int .u64 L.d.t, .int .u64 L.d.cm, .bool L.d.so, .slice A8.ai L.d.xs.length A8.ci, .slice A8.ao L.d.ys.length A8.co, .int .i64 L.d.ir, .int .u64 L.hd, .bool L.hl, .bool L.wt] 30))
        have V6 := dhid (V5.out.below hx6)
        have V8 := dhid (Vm.new hsl.out)
        have B6 := dhid (below_trans B5.out hx6)
        have Z6 := dhid (show w3.heap.size < w6.heap.size by have := (Array.getElem?_eq_some_iff.1 V5.out.row).1; have := hb6.out.size; omega)
        clear hx6 hsl hb6 V5 B5
        dsimp only [mvc]
        obtain ⟨c0, c1, c2, c3, c4, c5, c6, c7, c8, c9, c10, c11, c12, c13⟩ := cells14 V8.out.row
        go_wp2_with fail
        refine (implLined_any L A8 _ hma.out.len V8.out.sl hma.out.ucs).mono ?_
        rintro e w7 ⟨A9, rfl, f7, hb7⟩
        have OL := dhid (linedM_len hma.out.len)
        have OU := dhid (lined_U hma.out.ucs)
        have OO := dhid (lined_or L)
        have HSL : Hid (∀ w', MSl w' L A8 → Calls Try.prog 14 #[.agg #[.int .u64 L.pc, .slice A8.ax L.x.length A8.cx, .int .i64 L.pr, .slice A8.ac L.cs.length A8.cc, .slice A8.ar L.ram.length A8.cr, .int .u64 L.d.t, .int .u64 L.d.cm, .bool L.d.so, .slice A8.ai L.d.xs.length A8.ci, .slice A8.ao L.d.ys.length A8.co, .int .i64 L.d.ir, .int .u64 L.hd, .bool L.hl, .bool L.wt]] w' fun e w'' => ∃ C : MA, e = .returned (.agg (mvc (linedM L) C)) ∧ Fam w'.heap.size w''.heap.size w'' (mvF (linedM L) C) ∧ Below w'.heap.size w' w'') := fun w' h => specLined_any L A8 w' hma.out.len h
        generalize linedM L = O at *
        dsimp only [mvc] at HSL ⊢
        have hx7 := below_trans hb7 ((Below.refl w7.heap.size w7).alloc (Nat.le_refl _) (.cells #[.int .u64 O.pc, .slice A9.ax O.x.length A9.cx, .int .i64 O.pr, .slice A9.ac O.cs.length A9.cc, .slice A9.ar O.ram.length A9.cr, .int .u64 O.d.t, .int .u64 O.d.cm, .bool O.d.so, .slice A9.ai O.d.xs.length A9.ci, .slice A9.ao O.d.ys.length A9.co, .int .i64 O.d.ir, .int .u64 O.hd, .bool O.hl, .bool O.wt] 30))
        obtain ⟨W8, hW8⟩ : ∃ W, W = w7.alloc (.cells #[.int .u64 O.pc, .slice A9.ax O.x.length A9.cx, .int .i64 O.pr, .slice A9.ac O.cs.length A9.cc, .slice A9.ar O.ram.length A9.cr, .int .u64 O.d.t, .int .u64 O.d.cm, .bool O.d.so, .slice A9.ai O.d.xs.length A9.ci, .slice A9.ao O.d.ys.length A9.co, .int .i64 O.d.ir, .int .u64 O.hd, .bool O.hl, .bool O.wt] 30) := ⟨_, rfl⟩
        obtain ⟨b4, hb4e⟩ : ∃ b, b = w3.heap.size := ⟨_, rfl⟩
        obtain ⟨b8, hb8e⟩ : ∃ b, b = w6.heap.size := ⟨_, rfl⟩
        obtain ⟨b9, hb9e⟩ : ∃ b, b = w7.heap.size := ⟨_, rfl⟩
        have B8 : Hid (Below w2.heap.size w2 W8) := by rw [hW8]; exact below_trans B6.out hx7
        have V4 : Hid (Vm W8 b4 N C4) := by rw [hW8, hb4e]; exact V6.out.below hx7
        have V8' : Hid (Vm W8 b8 L A8) := by rw [hW8, hb8e]; exact V8.out.below hx7
        have V9 : Hid (Vm W8 b9 O A9) := by rw [hW8, hb9e]; exact Vm.new f7.msl
        rw [← hb4e, ← hb8e]
        clear hx7 hb7 f7 V6 V8 B6 c0 c1 c2 c3 c4 c5 c6 c7 c8 c9 c10 c11 c12 c13
        go_wp2_with fail
        rw [← hb9e, ← hW8]
        clear hb4e hb8e hb9e hW8 Z6
        obtain ⟨Q, hQ⟩ : ∃ Q : World → Prop, Q = fun W => Vm W b4 N C4 ∧ Vm W b8 L A8 ∧ Vm W b9 O A9 ∧ Below w2.heap.size w2 W := ⟨_, rfl⟩
        have PB : Hid (∀ W W', Q W → Below W.heap.size W W' → Q W') := by rw [hQ]; exact fun W W' h hb => ⟨h.1.below hb, h.2.1.below hb, h.2.2.1.below hb, below_trans h.2.2.2 hb⟩
        have P4 : Hid (∀ W, Q W → Vm W b4 N C4) := by rw [hQ]; exact fun W h => h.1
        have P8 : Hid (∀ W, Q W → Vm W b8 L A8) := by rw [hQ]; exact fun W h => h.2.1
        have P9 : Hid (∀ W, Q W → Vm W b9 O A9) := by rw [hQ]; exact fun W h => h.2.2.1
        have PE : Hid (∀ W, Q W → Below w2.heap.size w2 W) := by rw [hQ]; exact fun W h => h.2.2.2
        have q0 : Q W8.drew := PB.out W8 _ (by rw [hQ]; exact ⟨V4.out, V8'.out, V9.out, B8.out⟩) (Below.refl _ _).drew
        clear hQ V4 V8' V9 B8
        have KS : Hid (∀ w', Q w' → Q w') := fun w' h => h
        have K4 : Hid (∀ w', Q w' → w'.cell? ⟨b4, 0, none⟩ = some (.int .u64 N.pc) ∧ w'.cell? ⟨b4, 1, none⟩ = some (.slice C4.ax N.x.length C4.cx) ∧ w'.cell? ⟨b4, 2, none⟩ = some (.int .i64 N.pr) ∧ w'.cell? ⟨b4, 3, none⟩ = some (.slice C4.ac N.cs.length C4.cc) ∧ w'.cell? ⟨b4, 4, none⟩ = some (.slice C4.ar N.ram.length C4.cr) ∧ w'.cell? ⟨b4, 5, none⟩ = some (.int .u64 N.d.t) ∧ w'.cell? ⟨b4, 6, none⟩ = some (.int .u64 N.d.cm) ∧ w'.cell? ⟨b4, 7, none⟩ = some (.bool N.d.so) ∧ w'.cell? ⟨b4, 8, none⟩ = some (.slice C4.ai N.d.xs.length C4.ci) ∧ w'.cell? ⟨b4, 9, none⟩ = some (.slice C4.ao N.d.ys.length C4.co) ∧ w'.cell? ⟨b4, 10, none⟩ = some (.int .i64 N.d.ir) ∧ w'.cell? ⟨b4, 11, none⟩ = some (.int .u64 N.hd) ∧ w'.cell? ⟨b4, 12, none⟩ = some (.bool N.hl) ∧ w'.cell? ⟨b4, 13, none⟩ = some (.bool N.wt)) := fun w' h => cells14 (P4.out w' h).row
        have K8 : Hid (∀ w', Q w' → w'.cell? ⟨b8, 0, none⟩ = some (.int .u64 L.pc) ∧ w'.cell? ⟨b8, 1, none⟩ = some (.slice A8.ax L.x.length A8.cx) ∧ w'.cell? ⟨b8, 2, none⟩ = some (.int .i64 L.pr) ∧ w'.cell? ⟨b8, 3, none⟩ = some (.slice A8.ac L.cs.length A8.cc) ∧ w'.cell? ⟨b8, 4, none⟩ = some (.slice A8.ar L.ram.length A8.cr) ∧ w'.cell? ⟨b8, 5, none⟩ = some (.int .u64 L.d.t) ∧ w'.cell? ⟨b8, 6, none⟩ = some (.int .u64 L.d.cm) ∧ w'.cell? ⟨b8, 7, none⟩ = some (.bool L.d.so) ∧ w'.cell? ⟨b8, 8, none⟩ = some (.slice A8.ai L.d.xs.length A8.ci) ∧ w'.cell? ⟨b8, 9, none⟩ = some (.slice A8.ao L.d.ys.length A8.co) ∧ w'.cell? ⟨b8, 10, none⟩ = some (.int .i64 L.d.ir) ∧ w'.cell? ⟨b8, 11, none⟩ = some (.int .u64 L.hd) ∧ w'.cell? ⟨b8, 12, none⟩ = some (.bool L.hl) ∧ w'.cell? ⟨b8, 13, none⟩ = some (.bool L.wt)) := fun w' h => cells14 (P8.out w' h).row
        have K9 : Hid (∀ w', Q w' → w'.cell? ⟨b9, 0, none⟩ = some (.int .u64 O.pc) ∧ w'.cell? ⟨b9, 1, none⟩ = some (.slice A9.ax O.x.length A9.cx) ∧ w'.cell? ⟨b9, 2, none⟩ = some (.int .i64 O.pr) ∧ w'.cell? ⟨b9, 3, none⟩ = some (.slice A9.ac O.cs.length A9.cc) ∧ w'.cell? ⟨b9, 4, none⟩ = some (.slice A9.ar O.ram.length A9.cr) ∧ w'.cell? ⟨b9, 5, none⟩ = some (.int .u64 O.d.t) ∧ w'.cell? ⟨b9, 6, none⟩ = some (.int .u64 O.d.cm) ∧ w'.cell? ⟨b9, 7, none⟩ = some (.bool O.d.so) ∧ w'.cell? ⟨b9, 8, none⟩ = some (.slice A9.ai O.d.xs.length A9.ci) ∧ w'.cell? ⟨b9, 9, none⟩ = some (.slice A9.ao O.d.ys.length A9.co) ∧ w'.cell? ⟨b9, 10, none⟩ = some (.int .i64 O.d.ir) ∧ w'.cell? ⟨b9, 11, none⟩ = some (.int .u64 O.hd) ∧ w'.cell? ⟨b9, 12, none⟩ = some (.bool O.hl) ∧ w'.cell? ⟨b9, 13, none⟩ = some (.bool O.wt)) := fun w' h => cells14 (P9.out w' h).row
        have HM : Hid (∀ w', Q w' → Calls Try.prog 13 #[.agg #[.int .u64 N.pc, .slice C4.ax N.x.length C4.cx, .int .i64 N.pr, .slice C4.ac N.cs.length C4.cc, .slice C4.ar N.ram.length C4.cr, .int .u64 N.d.t, .int .u64 N.d.cm, .bool N.d.so, .slice C4.ai N.d.xs.length C4.ci, .slice C4.ao N.d.ys.length C4.co, .int .i64 N.d.ir, .int .u64 N.hd, .bool N.hl, .bool N.wt]] w' fun e w'' => e = .returned (.bool true) ∧ Q w'') := fun w' h => (implMachineOk_any N C4 w' HN.out (P4.out w' h).sl PU.out).mono fun e w'' k => ⟨by rw [k.1, HMN.out], PB.out _ _ h k.2⟩
        have HSP : Hid (∀ w', Q w' → Calls Try.prog 14 #[.agg #[.int .u64 L.pc, .slice A8.ax L.x.length A8.cx, .int .i64 L.pr, .slice A8.ac L.cs.length A8.cc, .slice A8.ar L.ram.length A8.cr, .int .u64 L.d.t, .int .u64 L.d.cm, .bool L.d.so, .slice A8.ai L.d.xs.length A8.ci, .slice A8.ao L.d.ys.length A8.co, .int .i64 L.d.ir, .int .u64 L.hd, .bool L.hl, .bool L.wt]] w' fun e w'' => ∃ C : MA, e = .returned (.agg #[.int .u64 O.pc, .slice C.ax O.x.length C.cx, .int .i64 O.pr, .slice C.ac O.cs.length C.cc, .slice C.ar O.ram.length C.cr, .int .u64 O.d.t, .int .u64 O.d.cm, .bool O.d.so, .slice C.ai O.d.xs.length C.ci, .slice C.ao O.d.ys.length C.co, .int .i64 O.d.ir, .int .u64 O.hd, .bool O.hl, .bool O.wt]) ∧ Hid (MSl w'' O C) ∧ Q w'') := fun w' h => (HSL.out w' (P8.out w' h).sl).mono fun e w'' ⟨C, k1, k2, k3⟩ => ⟨C, k1, k2.msl, PB.out _ _ h k3⟩
        have HLK : Hid (∀ (C : MA) w', Q w' → Hid (MSl w' O C) → Calls Try.prog 9 #[.agg #[.int .u64 O.pc, .slice A9.ax O.x.length A9.cx, .int .i64 O.pr, .slice A9.ac O.cs.length A9.cc, .slice A9.ar O.ram.length A9.cr, .int .u64 O.d.t, .int .u64 O.d.cm, .bool O.d.so, .slice A9.ai O.d.xs.length A9.ci, .slice A9.ao O.d.ys.length A9.co, .int .i64 O.d.ir, .int .u64 O.hd, .bool O.hl, .bool O.wt], .agg #[.int .u64 O.pc, .slice C.ax O.x.length C.cx, .int .i64 O.pr, .slice C.ac O.cs.length C.cc, .slice C.ar O.ram.length C.cr, .int .u64 O.d.t, .int .u64 O.d.cm, .bool O.d.so, .slice C.ai O.d.xs.length C.ci, .slice C.ao O.d.ys.length C.co, .int .i64 O.d.ir, .int .u64 O.hd, .bool O.hl, .bool O.wt]] w' fun e w'' => e = .returned (.bool true) ∧ Q w'') := fun C w' h k => (likeMachine_same O A9 C w' OL.out (P9.out w' h).sl k.out).mono fun e w'' k2 => ⟨k2.1, PB.out _ _ h k2.2⟩
        have HLK2 : Hid (∀ (C : MA) w', Q w' → Hid (MSl w' O C) → Calls Try.prog 9 #[.agg #[.int .u64 O.pc, .slice C.ax O.x.length C.cx, .int .i64 O.pr, .slice C.ac O.cs.length C.cc, .slice C.ar O.ram.length C.cr, .int .u64 O.d.t, .int .u64 O.d.cm, .bool O.d.so, .slice C.ai O.d.xs.length C.ci, .slice C.ao O.d.ys.length C.co, .int .i64 O.d.ir, .int .u64 O.hd, .bool O.hl, .bool O.wt], .agg #[.int .u64 O.pc, .slice A9.ax O.x.length A9.cx, .int .i64 O.pr, .slice A9.ac O.cs.length A9.cc, .slice A9.ar O.ram.length A9.cr, .int .u64 O.d.t, .int .u64 O.d.cm, .bool O.d.so, .slice A9.ai O.d.xs.length A9.ci, .slice A9.ao O.d.ys.length A9.co, .int .i64 O.d.ir, .int .u64 O.hd, .bool O.hl, .bool O.wt]] w' fun e w'' => e = .returned (.bool true) ∧ Q w'') := fun C w' h k => (likeMachine_same O C A9 w' OL.out k.out (P9.out w' h).sl).mono fun e w'' k2 => ⟨k2.1, PB.out _ _ h k2.2⟩
        have HMO : Hid (machB O = true → ∀ w', Q w' → Calls Try.prog 13 #[.agg #[.int .u64 O.pc, .slice A9.ax O.x.length A9.cx, .int .i64 O.pr, .slice A9.ac O.cs.length A9.cc, .slice A9.ar O.ram.length A9.cr, .int .u64 O.d.t, .int .u64 O.d.cm, .bool O.d.so, .slice A9.ai O.d.xs.length A9.ci, .slice A9.ao O.d.ys.length A9.co, .int .i64 O.d.ir, .int .u64 O.hd, .bool O.hl, .bool O.wt]] w' fun e w'' => e = .returned (.bool true) ∧ Q w'') := fun hm w' h => (implMachineOk_any O A9 w' OL.out (P9.out w' h).sl OU.out).mono fun e w'' k => ⟨by rw [k.1, hm], PB.out _ _ h k.2⟩
        have HIL : Hid (machB O = true → ∀ w', Q w' → Calls Try.prog 12 #[.agg #[.int .u64 O.pc, .slice A9.ax O.x.length A9.cx, .int .i64 O.pr, .slice A9.ac O.cs.length A9.cc, .slice A9.ar O.ram.length A9.cr, .int .u64 O.d.t, .int .u64 O.d.cm, .bool O.d.so, .slice A9.ai O.d.xs.length A9.ci, .slice A9.ao O.d.ys.length A9.co, .int .i64 O.d.ir, .int .u64 O.hd, .bool O.hl, .bool O.wt]] w' fun e w'' => ∃ C : MA, e = .returned (.agg #[.int .u64 O.pc, .slice C.ax O.x.length C.cx, .int .i64 O.pr, .slice C.ac O.cs.length C.cc, .slice C.ar O.ram.length C.cr, .int .u64 O.d.t, .int .u64 O.d.cm, .bool O.d.so, .slice C.ai O.d.xs.length C.ci, .slice C.ao O.d.ys.length C.co, .int .i64 O.d.ir, .int .u64 O.hd, .bool O.hl, .bool O.wt]) ∧ Hid (MSl w'' O C) ∧ Q w'') := fun hm w' h => (implLined_any O A9 w' OL.out (P9.out w' h).sl OU.out).mono fun e w'' ⟨C, k1, k2, k3⟩ => by
          rw [lined_again hm (OU.out 9) (mach_22 hm).1 (mach_22 hm).2.1] at k1 k2
          exact ⟨C, k1, k2.msl, PB.out _ _ h k3⟩
        have CV4 : Hid (∀ w', Q w' → (convert 22 9 (.slice C4.ar N.ram.length C4.cr)).run Try.prog w' = .ok (.string (strOfNums ram)) w') := fun w' h => by
          have := conv_sl C4.ar N.ram.length C4.cr N.ram w' rfl (P4.out w' h).sl.ram
          rw [this, HPN.out.2]
        have CVQ : Hid (∀ w', Q w' → (convert 22 9 (.slice (some ⟨rb, 0, none⟩) n n)).run Try.prog w' = .ok (.string (strOfNums ram)) w') := fun w' h => CVR.out w' (PE.out w' h)
        have hpc : (N.pc == 2147483648) = true := by rw [HPN.out.1]; rfl
        have OX : Hid (machB O = true → (((O.x.length : Nat) : Int) == 0) = false) := fun h => by rw [(mach_22 h).2.2]; decide
        have OZ : Hid (O = zeroM → (((O.x.length : Nat) : Int) == 0) = true) := fun h => by rw [h]; decide
        clear P4 P8 P9 HSL HMN HPN CVR OL OU HN PU RL
        generalize strOfNums ram = sr at *
        refine wp_region_held_drew (S := Q) (by kernel_rfl) q0 (fun hHeld => ?_)
        refine wpAnyH_take (i := 0) (oi := { dst := some 42, op := _, type := _, pos := _, after := _, guard := _ }) (v := .agg #[.int .u64 N.pc, .slice C4.ax N.x.length C4.cx, .int .i64 N.pr, .slice C4.ac N.cs.length C4.cc, .slice C4.ar N.ram.length C4.cr, .int .u64 N.d.t, .int .u64 N.d.cm, .bool N.d.so, .slice C4.ai N.d.xs.length C4.ci, .slice C4.ao N.d.ys.length C4.co, .int .i64 N.d.ir, .int .u64 N.hd, .bool N.hl, .bool N.wt]) rfl (by kernel_rfl) (by kernel_rfl) (by kernel_rfl) (fun _ _ _ h => h) (Or.inl ⟨by rfl, ?_⟩) (by assumption) ?_
        · intro w' hSw
          obtain ⟨c0, c1, c2, c3, c4, c5, c6, c7, c8, c9, c10, c11, c12, c13⟩ := K4.out w' hSw
          go_simp
        simp only [Act.put, List.setIfInBounds_toArray, List.set_cons_zero, List.set_cons_succ]
        refine rdy 1 43 (fun K hK => ?_)
        go_simp
        refine (HM.out _ q0).mono ?_
        rintro e w9 ⟨rfl, q9⟩
        refine hK.out _ _ q9 (fun hHeld => ?_)
        clear hK
        refine tkL 2 44 (.bool true) ?_
        refine tkL 3 45 (.pointer (some ⟨b4, 0, none⟩)) ?_
        refine wpAnyH_take (i := 4) (oi := { dst := some 46, op := _, type := _, pos := _, after := _, guard := _ }) (v := .int .u64 N.pc) rfl (by kernel_rfl) (by kernel_rfl) (by kernel_rfl) (fun _ _ _ h => h) (Or.inl ⟨by rfl, ?_⟩) (by assumption) ?_
        · intro w' hSw
          obtain ⟨c0, c1, c2, c3, c4, c5, c6, c7, c8, c9, c10, c11, c12, c13⟩ := K4.out w' hSw
          go_simp
        simp only [Act.put, List.setIfInBounds_toArray, List.set_cons_zero, List.set_cons_succ]
        refine tkL 5 47 (.bool true) ?_
        refine tkL 6 48 (.bool true) ?_
        refine tkL 7 49 (.bool true) ?_
        refine tkL 8 50 (.pointer (some ⟨b4, 4, none⟩)) ?_
        refine wpAnyH_take (i := 9) (oi := { dst := some 51, op := _, type := _, pos := _, after := _, guard := _ }) (v := .slice C4.ar N.ram.length C4.cr) rfl (by kernel_rfl) (by kernel_rfl) (by kernel_rfl) (fun _ _ _ h => h) (Or.inl ⟨by rfl, ?_⟩) (by assumption) ?_
        · intro w' hSw
          obtain ⟨c0, c1, c2, c3, c4, c5, c6, c7, c8, c9, c10, c11, c12, c13⟩ := K4.out w' hSw
          go_simp
        simp only [Act.put, List.setIfInBounds_toArray, List.set_cons_zero, List.set_cons_succ]
        refine wpAnyH_take (i := 10) (oi := { dst := some 52, op := _, type := _, pos := _, after := _, guard := _ }) (v := .string sr) rfl (by kernel_rfl) (by kernel_rfl) (by kernel_rfl) (fun _ _ _ h => h) (Or.inl ⟨by rfl, ?_⟩) (by assumption) ?_
        · intro w' hSw
          have cv := CV4.out w' hSw
          go_simp
        simp only [Act.put, List.setIfInBounds_toArray, List.set_cons_zero, List.set_cons_succ]
        refine tkL 11 53 (.slice (some ⟨rb, 0, none⟩) n n) ?_
        refine wpAnyH_take (i := 12) (oi := { dst := some 54, op := _, type := _, pos := _, after := _, guard := _ }) (v := .string sr) rfl (by kernel_rfl) (by kernel_rfl) (by kernel_rfl) (fun _ _ _ h => h) (Or.inl ⟨by rfl, ?_⟩) (by assumption) ?_
        · intro w' hSw
          have cv := CVQ.out w' hSw
          go_simp
        simp only [Act.put, List.setIfInBounds_toArray, List.set_cons_zero, List.set_cons_succ]
        refine tkL 13 55 (.bool true) ?_
        refine tkL 14 56 (.bool true) ?_
        refine tkL 15 57 (.bool true) ?_
        refine wpAnyH_take (i := 16) (oi := { dst := some 58, op := _, type := _, pos := _, after := _, guard := _ }) (v := .agg #[.int .u64 O.pc, .slice A9.ax O.x.length A9.cx, .int .i64 O.pr, .slice A9.ac O.cs.length A9.cc, .slice A9.ar O.ram.length A9.cr, .int .u64 O.d.t, .int .u64 O.d.cm, .bool O.d.so, .slice A9.ai O.d.xs.length A9.ci, .slice A9.ao O.d.ys.length A9.co, .int .i64 O.d.ir, .int .u64 O.hd, .bool O.hl, .bool O.wt]) rfl (by kernel_rfl) (by kernel_rfl) (by kernel_rfl) (fun _ _ _ h => h) (Or.inl ⟨by rfl, ?_⟩) (by assumption) ?_
        · intro w' hSw
          obtain ⟨c0, c1, c2, c3, c4, c5, c6, c7, c8, c9, c10, c11, c12, c13⟩ := K9.out w' hSw
          go_simp
        simp only [Act.put, List.setIfInBounds_toArray, List.set_cons_zero, List.set_cons_succ]
        refine wpAnyH_take (i := 17) (oi := { dst := some 59, op := _, type := _, pos := _, after := _, guard := _ }) (v := .agg #[.int .u64 L.pc, .slice A8.ax L.x.length A8.cx, .int .i64 L.pr, .slice A8.ac L.cs.length A8.cc, .slice A8.ar L.ram.length A8.cr, .int .u64 L.d.t, .int .u64 L.d.cm, .bool L.d.so, .slice A8.ai L.d.xs.length A8.ci, .slice A8.ao L.d.ys.length A8.co, .int .i64 L.d.ir, .int .u64 L.hd, .bool L.hl, .bool L.wt]) rfl (by kernel_rfl) (by kernel_rfl) (by kernel_rfl) (fun _ _ _ h => h) (Or.inl ⟨by rfl, ?_⟩) (by assumption) ?_
        · intro w' hSw
          obtain ⟨c0, c1, c2, c3, c4, c5, c6, c7, c8, c9, c10, c11, c12, c13⟩ := K8.out w' hSw
          go_simp
        simp only [Act.put, List.setIfInBounds_toArray, List.set_cons_zero, List.set_cons_succ]
        refine rdy 18 60 (fun K hK => ?_)
        go_simp
        refine (HSP.out _ q9).mono ?_
        rintro e w10 ⟨C, rfl, sl10, q10⟩
        refine hK.out _ _ q10 (fun hHeld => ?_)
        clear hK
        refine rdy 19 61 (fun K hK => ?_)
        go_simp
        refine (HLK.out C _ q10 sl10).mono ?_
        rintro e w11 ⟨rfl, q11⟩
        refine hK.out _ _ q11 (fun hHeld => ?_)
        clear hK
        refine tkL 20 62 (.bool true) ?_
        refine tkL 21 63 (.bool true) ?_
        refine tkL 22 64 (.pointer (some ⟨b9, 1, none⟩)) ?_
        refine wpAnyH_take (i := 23) (oi := { dst := some 65, op := _, type := _, pos := _, after := _, guard := _ }) (v := .slice A9.ax O.x.length A9.cx) rfl (by kernel_rfl) (by kernel_rfl) (by kernel_rfl) (fun _ _ _ h => h) (Or.inl ⟨by rfl, ?_⟩) (by assumption) ?_
        · intro w' hSw
          obtain ⟨c0, c1, c2, c3, c4, c5, c6, c7, c8, c9, c10, c11, c12, c13⟩ := K9.out w' hSw
          go_simp
        simp only [Act.put, List.setIfInBounds_toArray, List.set_cons_zero, List.set_cons_succ]
        refine tkL 24 66 (.int .i64 (O.x.length : Nat)) ?_
        rcases OO.out with hm | hz
        · have hx := OX.out hm
          refine tkL 25 67 (.bool false) ?_
          refine tkL 26 68 (.bool false) ?_
          refine wpAnyH_take (i := 27) (oi := { dst := some 69, op := _, type := _, pos := _, after := _, guard := _ }) (v := .agg #[.int .u64 O.pc, .slice A9.ax O.x.length A9.cx, .int .i64 O.pr, .slice A9.ac O.cs.length A9.cc, .slice A9.ar O.ram.length A9.cr, .int .u64 O.d.t, .int .u64 O.d.cm, .bool O.d.so, .slice A9.ai O.d.xs.length A9.ci, .slice A9.ao O.d.ys.length A9.co, .int .i64 O.d.ir, .int .u64 O.hd, .bool O.hl, .bool O.wt]) rfl (by kernel_rfl) (by kernel_rfl) (by kernel_rfl) (fun _ _ _ h => h) (Or.inl ⟨by rfl, ?_⟩) (by assumption) ?_
          · intro w' hSw
            obtain ⟨c0, c1, c2, c3, c4, c5, c6, c7, c8, c9, c10, c11, c12, c13⟩ := K9.out w' hSw
            go_simp
          simp only [Act.put, List.setIfInBounds_toArray, List.set_cons_zero, List.set_cons_succ]
          refine rdy 28 70 (fun K hK => ?_)
          go_simp
          refine (HMO.out hm _ q11).mono ?_
          rintro e w12 ⟨rfl, q12⟩
          refine hK.out _ _ q12 (fun hHeld => ?_)
          clear hK
          refine tkL 29 71 (.bool true) ?_
          refine wpAnyH_take (i := 30) (oi := { dst := some 72, op := _, type := _, pos := _, after := _, guard := _ }) (v := .agg #[.int .u64 O.pc, .slice A9.ax O.x.length A9.cx, .int .i64 O.pr, .slice A9.ac O.cs.length A9.cc, .slice A9.ar O.ram.length A9.cr, .int .u64 O.d.t, .int .u64 O.d.cm, .bool O.d.so, .slice A9.ai O.d.xs.length A9.ci, .slice A9.ao O.d.ys.length A9.co, .int .i64 O.d.ir, .int .u64 O.hd, .bool O.hl, .bool O.wt]) rfl (by kernel_rfl) (by kernel_rfl) (by kernel_rfl) (fun _ _ _ h => h) (Or.inl ⟨by rfl, ?_⟩) (by assumption) ?_
          · intro w' hSw
            obtain ⟨c0, c1, c2, c3, c4, c5, c6, c7, c8, c9, c10, c11, c12, c13⟩ := K9.out w' hSw
            go_simp
          simp only [Act.put, List.setIfInBounds_toArray, List.set_cons_zero, List.set_cons_succ]
          refine wpAnyH_take (i := 32) (oi := { dst := some 74, op := _, type := _, pos := _, after := _, guard := _ }) (v := .agg #[.int .u64 O.pc, .slice A9.ax O.x.length A9.cx, .int .i64 O.pr, .slice A9.ac O.cs.length A9.cc, .slice A9.ar O.ram.length A9.cr, .int .u64 O.d.t, .int .u64 O.d.cm, .bool O.d.so, .slice A9.ai O.d.xs.length A9.ci, .slice A9.ao O.d.ys.length A9.co, .int .i64 O.d.ir, .int .u64 O.hd, .bool O.hl, .bool O.wt]) rfl (by kernel_rfl) (by kernel_rfl) (by kernel_rfl) (fun _ _ _ h => h) (Or.inl ⟨by rfl, ?_⟩) (by assumption) ?_
          · intro w' hSw
            obtain ⟨c0, c1, c2, c3, c4, c5, c6, c7, c8, c9, c10, c11, c12, c13⟩ := K9.out w' hSw
            go_simp
          simp only [Act.put, List.setIfInBounds_toArray, List.set_cons_zero, List.set_cons_succ]
          refine rdy 31 73 (fun K hK => ?_)
          go_simp
          refine (HIL.out hm _ q12).mono ?_
          rintro e w13 ⟨C2, rfl, sl13, q13⟩
          refine hK.out _ _ q13 (fun hHeld => ?_)
          clear hK
          refine rdy 33 75 (fun K hK => ?_)
          go_simp
          refine (HLK2.out C2 _ q13 sl13).mono ?_
          rintro e w14 ⟨rfl, q14⟩
          refine hK.out _ _ q14 (fun hHeld => ?_)
          clear hK
          refine tkL 34 76 (.bool true) ?_
          refine tkL 35 77 (.bool true) ?_
          refine tkL 36 78 (.bool true) ?_
          refine tkL 37 2 (.bool true) ?_
          refine wpAnyH_done (by kernel_rfl) ?_ _
          go_wp2_with fail
          go_ret
          exact ⟨rfl, below_trans HB.out (PE.out _ q14)⟩
        · have hx := OZ.out hz
          clear hz
          refine tkL 25 67 (.bool true) ?_
          refine tkL 26 68 (.bool true) ?_
          refine tkR 27 69 ?_
          refine tkR 28 70 ?_
          refine tkR 29 71 ?_
          refine tkR 30 72 ?_
          refine tkR 31 73 ?_
          refine tkR 32 74 ?_
          refine tkR 33 75 ?_
          refine tkR 34 76 ?_
          refine tkL 35 77 (.bool true) ?_
          refine tkL 36 78 (.bool true) ?_
          refine tkL 37 2 (.bool true) ?_
          refine wpAnyH_done (by kernel_rfl) ?_ _
          go_wp2_with fail
          go_ret
          exact ⟨rfl, below_trans HB.out (PE.out _ q11)⟩

end Go.Proofs.Ytcdjfiljlahaeaa.fnMachines
