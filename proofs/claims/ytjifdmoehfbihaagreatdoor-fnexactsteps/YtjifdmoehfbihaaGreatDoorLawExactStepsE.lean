/- The walk of laws.FnExactSteps: it returns true at every argument, and writes nothing that was there. By reckoning; tools/genLawV.py. -/
import Derived.Test.YtjifdmoehfbihaaGreatDoorE1
namespace Go.Proofs.YtjifdmoehfbihaaGreatDoor.fnExactSteps
open Go.RowKit
set_option linter.unusedVariables false

theorem fit_in {w : World} {M : MV} {A : MA} (h : Pj w M A) : Pb M := by
  have u : ∀ {x : Int}, (Lit.int .u64 x).wf = true → U x := fun hx => by have h := Bo hx; exact ⟨h.1, by have := h.2; omega⟩
  exact ⟨h.mw, fun j => yW h.wx j, u h.pc, u h.hd, u h.t, u h.cm⟩

theorem stepsA_len {M : MV} (h : Pb M) (n : Int) : jF (stepsA M n).1 ∧ (stepsA M n).2.length ≤ 1048576 := by
  unfold stepsA
  split
  · rename_i hb
    rw [Bool.and_eq_true, decide_eq_true_eq] at hb
    exact ⟨(steps_gw _ ⟨h.gd hb.1, h.ud⟩).1.len, by have := steps_len n.toNat M; omega⟩
  · exact ⟨⟨by simp [bx], by simp [bx], by simp [bx], by simp [bx, zeroD], by simp [bx, zeroD]⟩, by simp⟩

set_option maxRecDepth 100000 in
theorem walk (M : MV) (A : MA) (n : Int) (w : World) (hin : Pj w M A) (wx0 : (Lit.int .i64 n).wf = true) (hT : qb w) :
    Calls Tryz.prog 4 #[.agg #[.int .u64 M.pc, .slice A.ax M.x.length A.cx, .int .i64 M.pr, .slice A.ac M.cs.length A.cc, .slice A.ar M.ram.length A.cr, .int .u64 M.d.t, .int .u64 M.d.cm, .bool M.d.so, .slice A.ai M.d.xs.length A.ci, .slice A.ao M.d.ys.length A.co, .int .i64 M.d.ir, .int .u64 M.hd, .bool M.hl, .bool M.wt], .int .i64 n] w fun e w' => e = .returned (.bool true) ∧ Below w.heap.size w w' := by
  have hfit : Pb M := fit_in hin
  have HSZ := fun W (_ : Below w.heap.size w W) => uY M.pc A.ax M.x.length A.cx M.pr A.ac M.cs.length A.cc A.ar M.ram.length A.cr M.d.t M.d.cm M.d.so A.ai M.d.xs.length A.ci A.ao M.d.ys.length A.co M.d.ir M.hd M.hl M.wt 1048576 W (by omega) (by omega) hin.lx hin.lcs hin.lram hin.lxs hin.lys
  obtain ⟨sz, hsz⟩ : ∃ s, NT M.x.length M.cs.length M.ram.length M.d.xs.length M.d.ys.length 1048576 = s := ⟨_, rfl⟩
  rw [hsz] at HSZ
  refine cn (S := Bs w [(aO M A, 28)]) (args := [.agg (aO M A), .int .i64 n]) [(aO M A, 28)] Tryz.func4 ?_
  by_cases hsm : M.x.length + M.cs.length + M.ram.length + M.d.xs.length + M.d.ys.length ≤ 1048576
  case neg =>
    obtain rfl : -1 = sz := by rw [← hsz]; unfold NT; rw [if_neg (by omega)]
    exact bm (t := 4) (v := .bool true) Bs.eng { cv := [(18, gB HSZ)] } 60 (Bs.start _ _) (fun w' h => ⟨rfl, h.2⟩)
  have hl : jF M := ⟨by omega, by omega, by omega, by omega, by omega⟩
  have d0 : decide (sz < 0) = false := by rw [decide_eq_false_iff_not, ← hsz]; unfold NT; rw [if_pos (by omega)]; omega
  have HTD := fun W (hb : Below w.heap.size w W) => (uX M A W hl (hin.sl.below hb)).mono fun e w'' ⟨gx, gc, gr, gi, go, h1, h2, h3⟩ => (⟨_, h1, h2, h3⟩ : ∃ C : MA, e = Ending.returned (.agg (aO M C)) ∧ bp W.heap.size w''.heap.size w'' (aH M C) ∧ Below W.heap.size W w'')
  have HS := fun (C : MA) W (f : uO W M C) => specSteps_any M C n W hl f hfit
  have HI := fun (C : MA) W (f : uO W M C) (t : qb W) => implSteps_any M C n W hl f hfit t
  obtain ⟨hrl, hrn⟩ := stepsA_len hfit n
  generalize stepsA M n = V at HS HI hrl hrn
  obtain ⟨R, zs⟩ := V
  dsimp only [mlQ] at HS HI hrl hrn
  have ez : decide (zs = zs) = true := decide_eq_true rfl
  have n1 : decide (((1 : Int) + (M.x.length : Int) + (M.cs.length : Int) + (M.ram.length : Int) + (M.d.xs.length : Int) + (M.d.ys.length : Int)) < 0) = false := by rw [decide_eq_false_iff_not]; omega
  have n2 : decide ((1 + (R.x.length : Int) + R.cs.length + R.ram.length + R.d.xs.length + R.d.ys.length) < 0) = false := by rw [decide_eq_false_iff_not]; omega
  have n3 : decide ((1 + (R.x.length : Int) + R.cs.length + R.ram.length + R.d.xs.length + R.d.ys.length) + (zs.length : Int) < 0) = false := by rw [decide_eq_false_iff_not]; omega
  have n4 : ((1 + (R.x.length : Int) + R.cs.length + R.ram.length + R.d.xs.length + R.d.ys.length) + (zs.length : Int) != (1 + (R.x.length : Int) + R.cs.length + R.ram.length + R.d.xs.length + R.d.ys.length) + (zs.length : Int)) = false := by simp
  have hR := hrl.x
  have hR2 := hrl.cs
  have hR3 := hrl.ram
  have hR4 := hrl.xs
  have hR5 := hrl.ys
  clear hsz wx0
  refine aW Bs.eng { eq := [(20, au d0)], cv := [(18, gB HSZ)] } 60 (Bs.start _ _) (fun W h => HTD W h.2) ?_
  rintro W1 e W2 h1 ⟨CA, rfl, fAz9, b2⟩
  refine ⟨_, 0, rfl, gp (by kernel_rfl), ?_⟩
  have V2 : Vs w [⟨w.heap.size, aO M A, 28, []⟩] W2 := ⟨fun x hx => by rw [List.mem_singleton.1 hx]; exact an b2 (h1.1 0 _ rfl), aa h1.2 b2⟩
  refine aR (Vs W2 [⟨w.heap.size, aO M A, 28, []⟩]) (aW Vs.eng {} 30 V2.at (fun W h => HS CA W (fAz9.below h.below).msl) ?_)
  rintro W3 e W4 h3 ⟨CW, aWz9, cWz9, rfl, fWz9, oWz9, b4⟩
  refine ⟨_, 0, rfl, gp (by kernel_rfl), ?_⟩
  have V4 := (V2.to h3.below).to b4
  refine Ng (rows0 _) {} 30 2 (gF (T := 32) (z := .agg (aO bx zeroA)) (by kernel_rfl) W4) ?_
  refine oz (rows0 _) {} 30 (bj (ty := 32) (cells := aO R CW) (heap_alloc_new W4 _) (by kernel_rfl) (by kernel_rfl) (gA R CW)) ?_
  have V5 := V4.new (cs := aO R CW) (Value.agg (aO bx zeroA)).cells 32
  have b5 := new_below W4 (Value.agg (aO bx zeroA)).cells (aO R CW) 32
  generalize (W4.alloc (.cells (Value.agg (aO bx zeroA)).cells 32)).setRow W4.heap.size (aO R CW) = W5 at *
  have fW5 := fWz9.below b5
  have lW5 := (fam_lone oWz9).below b5
  have s0 := V2.below.size
  have s3 := h3.below.size
  have s4 := b4.size
  have s5 := b5.size
  refine cW (rows0 _) {} 2 ?_
  refine aE [.code (aG 5 (bD Tryz.f4))] [(1, .int .i64 n, 0), (2, .pointer (some ⟨w.heap.size, 0, none⟩), 1), (6, .pointer (some ⟨W4.heap.size, 0, none⟩), 2), (7, .slice aWz9 zs.length cWz9, 0)] ?_
  clear h1 b2 HSZ d0 fAz9 V2 h3 fWz9 oWz9 b4 b5 V4
  refine aR (Vs W5 [⟨w.heap.size, aO M A, 28, []⟩, ⟨W4.heap.size, aO R CW, 32, []⟩]) (aW Vs.eng {} 30 V5.at (fun W h => HTD W (aa V5.below h.below)) ?_)
  rintro W6 e W7 h6 ⟨CX, rfl, fXz9, b7⟩
  refine ⟨_, 0, rfl, gp (by kernel_rfl), ?_⟩
  have V7 := (V5.to h6.below).to b7
  refine Ng (rows0 _) {} 30 3 (gF (T := 32) (z := .agg (aO bx zeroA)) (by kernel_rfl) W7) ?_
  refine oz (rows0 _) {} 30 (bj (ty := 32) (cells := aO M CX) (heap_alloc_new W7 _) (by kernel_rfl) (by kernel_rfl) (gA M CX)) ?_
  have V8 := V7.new (cs := aO M CX) (Value.agg (aO bx zeroA)).cells 32
  have b8 := new_below W7 (Value.agg (aO bx zeroA)).cells (aO M CX) 32
  generalize (W7.alloc (.cells (Value.agg (aO bx zeroA)).cells 32)).setRow W7.heap.size (aO M CX) = W8 at *
  have fW8 := ((fW5.below h6.below).below b7).below b8
  have lW8 := ((lW5.below h6.below).below b7).below b8
  have fX8 := fXz9.below b8
  have s6 := h6.below.size
  have s7 := b7.size
  have s8 := b8.size
  refine cW (rows0 _) {} 1 ?_
  refine aE [.code (aG 6 (bD Tryz.f4))] [(1, .int .i64 n, 0), (2, .pointer (some ⟨w.heap.size, 0, none⟩), 1), (6, .pointer (some ⟨W4.heap.size, 0, none⟩), 2), (7, .slice aWz9 zs.length cWz9, 0), (8, .pointer (some ⟨W7.heap.size, 0, none⟩), 3)] ?_
  clear fW5 lW5 fXz9 h6 b7 b8 V7
  refine aR (Vs W8 [⟨w.heap.size, aO M A, 28, []⟩, ⟨W4.heap.size, aO R CW, 32, []⟩, ⟨W7.heap.size, aO M CX, 32, []⟩]) (aW Vs.eng {} 30 V8.at (fun W h => HI CX W (fX8.below h.below).msl (hT.below (aa V8.below h.below))) ?_)
  rintro W9 e W10 h9 ⟨CQ, aQz9, cQz9, rfl, fQz9, oQz9, b10⟩
  refine ⟨_, 0, rfl, gp (by kernel_rfl), ?_⟩
  have V10 := (V8.to h9.below).to b10
  refine Ng (rows0 _) {} 30 4 (gF (T := 32) (z := .agg (aO bx zeroA)) (by kernel_rfl) W10) ?_
  refine oz (rows0 _) {} 30 (bj (ty := 32) (cells := aO R CQ) (heap_alloc_new W10 _) (by kernel_rfl) (by kernel_rfl) (gA R CQ)) ?_
  have V11 := V10.new (cs := aO R CQ) (Value.agg (aO bx zeroA)).cells 32
  have b11 := new_below W10 (Value.agg (aO bx zeroA)).cells (aO R CQ) 32
  generalize (W10.alloc (.cells (Value.agg (aO bx zeroA)).cells 32)).setRow W10.heap.size (aO R CQ) = W11 at *
  have fW11 := ((fW8.below h9.below).below b10).below b11
  have lW11 := ((lW8.below h9.below).below b10).below b11
  have fX11 := ((fX8.below h9.below).below b10).below b11
  have fQ11 := fQz9.below b11
  have lQ11 := (fam_lone oQz9).below b11
  have s9 := h9.below.size
  have s10 := b10.size
  have s11 := b11.size
  refine cW (rows0 _) {} 2 ?_
  refine aE [.code (aG 7 (bD Tryz.f4))] [(1, .int .i64 n, 0), (2, .pointer (some ⟨w.heap.size, 0, none⟩), 1), (6, .pointer (some ⟨W4.heap.size, 0, none⟩), 2), (7, .slice aWz9 zs.length cWz9, 0), (8, .pointer (some ⟨W7.heap.size, 0, none⟩), 3), (9, .pointer (some ⟨W10.heap.size, 0, none⟩), 4), (10, .slice aQz9 zs.length cQz9, 0)] ?_
  clear fW8 lW8 fX8 fQz9 oQz9 h9 b10 b11 V10 V8 V5
  refine aR (Vs W11 [⟨w.heap.size, aO M A, 28, []⟩, ⟨W4.heap.size, aO R CW, 32, []⟩, ⟨W7.heap.size, aO M CX, 32, []⟩, ⟨W10.heap.size, aO R CQ, 32, []⟩]) (aW Vs.eng { cv := [(38, lq Vs.to fun W h => iR R CQ CW W hrl (fQ11.below h.below).msl (fW11.below h.below).msl), (43, lq Vs.to fun W h => ez ▸ eqInt64S_any aQz9 aWz9 zs.length zs.length cQz9 cWz9 zs zs W rfl rfl hrn hrn (lQ11.below h.below).li (lW11.below h.below).li)] } 60 V11.at (fun W h => HTD W (aa V11.below h.below)) ?_)
  rintro W12 e W13 h12 ⟨CZ, rfl, fZz9, b13⟩
  refine ⟨_, 0, rfl, fun _ => h12.to b13, ?_⟩
  refine mr (iR M CX CZ W13 hl (fX11.below (aa h12.below b13)).msl fZz9.msl) fun e W14 hr => ?_
  obtain ⟨rfl, b14⟩ := hr
  refine ⟨_, 0, rfl, fun _ => (h12.to b13).to b14, ?_⟩
  refine aW Vs.eng {} 60 ((h12.to b13).to b14) (fun W h => mS M CX 1 _ _ W hl (by omega) (by omega) (by have := h.below.size; omega) (fX11.below h.below)) ?_
  rintro W15 e W16 h15 ⟨rfl, -, kXz9⟩
  refine ⟨_, 0, rfl, gp (by kernel_rfl), ?_⟩
  have k15 := kXz9.keep (fX11.below h15.below)
  have s15 := h15.below.size
  have s16 := kXz9.size
  have V16 := (V11.to h15.below).mark kXz9 (fX11.below h15.below) (by omega) (by omega) (ne_ty _ mvF_ty (by kernel_rfl))
  have fW16 := (fW11.below h15.below).keep k15 (by omega)
  have lW16 := (lW11.below h15.below).keep k15 (by omega)
  have fQ16 := (fQ11.below h15.below).keep k15 (by omega)
  have lQ16 := (lQ11.below h15.below).keep k15 (by omega)
  refine cW (rows0 _) {} 2 ?_
  refine aE [.code (aG 11 (bD Tryz.f4))] [(1, .int .i64 n, 0), (2, .pointer (some ⟨w.heap.size, 0, none⟩), 1), (6, .pointer (some ⟨W4.heap.size, 0, none⟩), 2), (7, .slice aWz9 zs.length cWz9, 0), (9, .pointer (some ⟨W10.heap.size, 0, none⟩), 4), (10, .slice aQz9 zs.length cQz9, 0), (11, .int .i64 ((1 : Int) + (M.x.length : Int) + (M.cs.length : Int) + (M.ram.length : Int) + (M.d.xs.length : Int) + (M.d.ys.length : Int)), 0)] ?_
  clear h12 fZz9 b13 b14 h15 kXz9 k15 fW11 lW11 fX11 fQ11 lQ11
  refine aR (Vs W16 [⟨w.heap.size, aO M A, 28, []⟩, ⟨W4.heap.size, aO R CW, 32, []⟩, ⟨W7.heap.size, aO M CX, 32, []⟩, ⟨W10.heap.size, aO R CQ, 32, []⟩]) (aW Vs.eng { eq := [(55, au n1)], cv := [(59, lq Vs.to fun W h => iR R CQ CW W hrl (fQ16.below h.below).msl (fW16.below h.below).msl), (65, lq Vs.to fun W h => ez ▸ eqInt64S_any aQz9 aWz9 zs.length zs.length cQz9 cWz9 zs zs W rfl rfl hrn hrn (lQ16.below h.below).li (lW16.below h.below).li)] } 60 V16.at (fun W h => mS R CQ 1 _ _ W hrl (by omega) (by omega) (by have := h.below.size; omega) (fQ16.below h.below)) ?_)
  rintro W17 e W18 h17 ⟨rfl, fQ18, kQz9⟩
  refine ⟨_, 0, rfl, gp (by kernel_rfl), ?_⟩
  have k17 := kQz9.keep (fQ16.below h17.below)
  have s17 := h17.below.size
  have s18 := kQz9.size
  have V18 := (V16.to h17.below).mark kQz9 (fQ16.below h17.below) (by omega) (by omega) (ne_ty _ mvF_ty (by kernel_rfl))
  have fW18 := (fW16.below h17.below).keep k17 (by omega)
  have lW18 := (lW16.below h17.below).keep k17 (by omega)
  have lQ18 := (lQ16.below h17.below).type kQz9 (fQ16.below h17.below) (ne_tyF _ _ mvF_ty one_ty (by kernel_rfl))
  refine cW (rows0 _) {} 2 ?_
  refine aE [.code (aG 14 (bD Tryz.f4))] [(1, .int .i64 n, 0), (2, .pointer (some ⟨w.heap.size, 0, none⟩), 1), (6, .pointer (some ⟨W4.heap.size, 0, none⟩), 2), (7, .slice aWz9 zs.length cWz9, 0), (9, .pointer (some ⟨W10.heap.size, 0, none⟩), 4), (10, .slice aQz9 zs.length cQz9, 0), (12, .int .i64 (1 + (R.x.length : Int) + R.cs.length + R.ram.length + R.d.xs.length + R.d.ys.length), 0)] ?_
  clear h17 kQz9 k17 fW16 lW16 fQ16 lQ16
  refine aR (Vs W18 [⟨w.heap.size, aO M A, 28, []⟩, ⟨W4.heap.size, aO R CW, 32, []⟩, ⟨W7.heap.size, aO M CX, 32, []⟩, ⟨W10.heap.size, aO R CQ, 32, []⟩]) (aW Vs.eng {} 30 V18.at (fun W h => markInt64S_any aQz9 zs.length cQz9 _ (1 + (R.x.length : Int) + R.cs.length + R.ram.length + R.d.xs.length + R.d.ys.length) zs W hrn (by omega) (by omega) ((lQ18.below h.below).own _ (List.mem_singleton.2 rfl))) ?_)
  rintro W19 e W20 h19 ⟨rfl, oQ20, gr⟩
  refine ⟨_, 0, rfl, gp (by kernel_rfl), ?_⟩
  have lQ19 := lQ18.below h19.below
  have kLz9 := eU.of_grown (L := [⟨2, .slice aQz9 zs.length cQz9, zs.length, zs.map (Value.int .i64)⟩]) gr (List.mem_singleton.2 rfl)
  have k19 := kLz9.keep lQ19
  have s19 := h19.below.size
  have s20 := kLz9.size
  have V20 := (V18.to h19.below).mark kLz9 lQ19 (by omega) (by omega) (ne_ty _ one_ty (by kernel_rfl))
  have fW20 := (fW18.below h19.below).type kLz9 lQ19 (ne_tyF _ _ one_ty mvF_ty (by kernel_rfl))
  have lW20 := (lW18.below h19.below).keep k19 (by omega)
  have fQ20 := (fQ18.below h19.below).type kLz9 lQ19 (ne_tyF _ _ one_ty mvF_ty (by kernel_rfl))
  refine cW (rows0 _) {} 2 ?_
  refine aE [.code (aG 15 (bD Tryz.f4))] [(1, .int .i64 n, 0), (2, .pointer (some ⟨w.heap.size, 0, none⟩), 1), (6, .pointer (some ⟨W4.heap.size, 0, none⟩), 2), (7, .slice aWz9 zs.length cWz9, 0), (9, .pointer (some ⟨W10.heap.size, 0, none⟩), 4), (10, .slice aQz9 zs.length cQz9, 0), (12, .int .i64 ((1 + (R.x.length : Int) + R.cs.length + R.ram.length + R.d.xs.length + R.d.ys.length) + (zs.length : Int)), 0)] ?_
  clear h19 gr kLz9 k19 fW18 lW18 fQ18 lQ18 lQ19
  refine aR (Vs W20 [⟨w.heap.size, aO M A, 28, []⟩, ⟨W4.heap.size, aO R CW, 32, []⟩, ⟨W7.heap.size, aO M CX, 32, []⟩, ⟨W10.heap.size, aO R CQ, 32, []⟩]) (aW Vs.eng { eq := [(78, au n2), (83, au n3), (86, au n4)], cv := [(76, lq Vs.to fun W h => mT R CQ 1 W hrl (by omega) (by omega) (fQ20.below h.below).rsl.1 (fQ20.below h.below).rsl.2.1 (fQ20.below h.below).rsl.2.2.1 (fQ20.below h.below).rsl.2.2.2.1 (fQ20.below h.below).rsl.2.2.2.2), (81, lq Vs.to fun W h => (heldInt64S_any aQz9 zs.length cQz9 (1 + (R.x.length : Int) + R.cs.length + R.ram.length + R.d.xs.length + R.d.ys.length) W hrn (by omega) (by omega) (gy (dF oQ20 h.below))).mono fun e w' k => (⟨k.1, by rw [k.2]; exact Below.refl _ _⟩ : _ ∧ Below W.heap.size W w'))] } 120 V20.at (fun W h => HTD W (aa V20.below h.below)) ?_)
  rintro W21 e W22 h21 ⟨CP, rfl, fPz9, b22⟩
  refine ⟨_, 0, rfl, gp (by kernel_rfl), ?_⟩
  have V22 := (V20.to h21.below).to b22
  have b20 := aa h21.below b22
  refine aR (Vs W22 [⟨w.heap.size, aO M A, 28, []⟩, ⟨W4.heap.size, aO R CW, 32, []⟩, ⟨W7.heap.size, aO M CX, 32, []⟩, ⟨W10.heap.size, aO R CQ, 32, []⟩]) (aW Vs.eng {} 30 V22.at (fun W h => HI CP W (fPz9.below h.below).msl (hT.below (aa V22.below h.below))) ?_)
  rintro W23 e W24 h23 ⟨CK, aKz9, cKz9, rfl, fKz9, oKz9, b24⟩
  refine ⟨_, 0, rfl, gp (by kernel_rfl), ?_⟩
  have V24 := (V22.to h23.below).to b24
  refine Ng (rows0 _) {} 30 5 (gF (T := 32) (z := .agg (aO bx zeroA)) (by kernel_rfl) W24) ?_
  refine oz (rows0 _) {} 30 (bj (ty := 32) (cells := aO R CK) (heap_alloc_new W24 _) (by kernel_rfl) (by kernel_rfl) (gA R CK)) ?_
  have V25 := V24.new (cs := aO R CK) (Value.agg (aO bx zeroA)).cells 32
  have b25 := new_below W24 (Value.agg (aO bx zeroA)).cells (aO R CK) 32
  generalize (W24.alloc (.cells (Value.agg (aO bx zeroA)).cells 32)).setRow W24.heap.size (aO R CK) = W25 at *
  have fK25 := fKz9.below b25
  have lK25 := (fam_lone oKz9).below b25
  have b20 := aa (aa (aa b20 h23.below) b24) b25
  have fW25 := fW20.below b20
  have lW25 := lW20.below b20
  have fQ25 := fQ20.below b20
  refine cW (rows0 _) {} 2 ?_
  refine aE [.code (aG 22 (bD Tryz.f4))] [(1, .int .i64 n, 0), (2, .pointer (some ⟨w.heap.size, 0, none⟩), 1), (6, .pointer (some ⟨W4.heap.size, 0, none⟩), 2), (7, .slice aWz9 zs.length cWz9, 0), (9, .pointer (some ⟨W10.heap.size, 0, none⟩), 4), (10, .slice aQz9 zs.length cQz9, 0), (14, .pointer (some ⟨W24.heap.size, 0, none⟩), 5), (15, .slice aKz9 zs.length cKz9, 0), (12, .int .i64 ((1 + (R.x.length : Int) + R.cs.length + R.ram.length + R.d.xs.length + R.d.ys.length) + (zs.length : Int)), 0)] ?_
  refine aR (Vs W25 [⟨w.heap.size, aO M A, 28, []⟩, ⟨W4.heap.size, aO R CW, 32, []⟩, ⟨W7.heap.size, aO M CX, 32, []⟩, ⟨W10.heap.size, aO R CQ, 32, []⟩, ⟨W24.heap.size, aO R CK, 32, []⟩]) ?_
  exact bm (t := 4) (v := .bool true) Vs.eng { eq := [(108, au n2), (113, au n3), (116, au n4)], cv := [(96, lq Vs.to fun W h => iR R CK CW W hrl (fK25.below h.below).msl (fW25.below h.below).msl), (101, lq Vs.to fun W h => ez ▸ eqInt64S_any aKz9 aWz9 zs.length zs.length cKz9 cWz9 zs zs W rfl rfl hrn hrn (lK25.below h.below).li (lW25.below h.below).li), (106, lq Vs.to fun W h => mT R CQ 1 W hrl (by omega) (by omega) (fQ25.below h.below).rsl.1 (fQ25.below h.below).rsl.2.1 (fQ25.below h.below).rsl.2.2.1 (fQ25.below h.below).rsl.2.2.2.1 (fQ25.below h.below).rsl.2.2.2.2), (111, lq Vs.to fun W h => (heldInt64S_any aQz9 zs.length cQz9 (1 + (R.x.length : Int) + R.cs.length + R.ram.length + R.d.xs.length + R.d.ys.length) W hrn (by omega) (by omega) (gy (dF oQ20 (aa b20 h.below)))).mono fun e w' k => (⟨k.1, by rw [k.2]; exact Below.refl _ _⟩ : _ ∧ Below W.heap.size W w'))] } 150 V25.at (fun w' h => ⟨rfl, aa V25.below h.below⟩)

end Go.Proofs.YtjifdmoehfbihaaGreatDoor.fnExactSteps
