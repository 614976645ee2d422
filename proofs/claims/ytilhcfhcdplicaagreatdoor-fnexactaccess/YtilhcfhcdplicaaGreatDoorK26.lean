/- Own lemmas. -/
import Derived.Test.YtilhcfhcdplicaaGreatDoorHandT
import Derived.Test.YtilhcfhcdplicaaGreatDoorK05
import Derived.Test.YtilhcfhcdplicaaGreatDoorK12
import Derived.Test.YtilhcfhcdplicaaGreatDoorK24
import Derived.Test.YtilhcfhcdplicaaGreatDoorK25
import Derived.Deep.RegionHeld3
namespace Go.Proofs.YtilhcfhcdplicaaGreatDoor
open Go.RowKit
set_option linter.unusedVariables false

theorem lineM_len (M : MV) : (lineM M).cs.length = M.cs.length := by simp [lineM]

theorem MLen.line {M : MV} (h : MLen M) : MLen (lineM M) := ⟨h.x, by rw [lineM_len]; exact h.cs, h.ram, h.xs, h.ys⟩

theorem fam_zeroM (B E : Nat) (w : World) : Fam B E w (mvF zeroM zeroA) := by
  refine ⟨fun r hr => ?_, fun r hr k e => ?_, ?_⟩
  · simp only [mvF, List.mem_cons, List.not_mem_nil, or_false] at hr
    rcases hr with rfl | rfl | rfl | rfl | rfl <;> exact ⟨rfl, .inl ⟨rfl, rfl⟩⟩
  · simp only [mvF, List.mem_cons, List.not_mem_nil, or_false] at hr
    rcases hr with rfl | rfl | rfl | rfl | rfl <;> cases e
  · simp only [mvF, List.pairwise_cons, List.mem_cons, List.not_mem_nil, or_false]
    refine ⟨fun s _ k e => ?_, fun s _ k e => ?_, fun s _ k e => ?_, fun s _ k e => ?_, fun s h => h.elim, List.Pairwise.nil⟩ <;> cases e

def goodA (M : MV) (size kind : Int) : Bool := machB M && sizeB size && decide (1 ≤ kind ∧ kind ≤ 3) && !((kind == 1) && (size != 4))

def accessM (M : MV) (addr size kind x : Int) : Int × MV × Int := if goodA M size kind = true then accV M addr size kind x else (0, zeroM, 99)

theorem mvc_one (M : MV) (A : MA) : (mvc M A).all (·.oneCell') = true := by
  unfold mvc
  kernel_rfl

theorem fam_row9 {B E : Nat} {w : World} {L : List FRow} (h : Fam B E w L) (g : Nat) (hg : ∀ q ∈ L, q.v.ownBlock ≠ some g) (cs : Array Value) : Fam B E (w.setRow g cs) L :=
  ⟨fun r hr => fown_of (h.own r hr) (fun k e => setRow_other w g k cs (fun e2 => hg r hr (by rw [← e2]; exact e))), h.hi, h.ne⟩

set_option maxRecDepth 100000 in
set_option maxHeartbeats 12800000 in
theorem specAccess_any (M : MV) (A : MA) (addr size kind x : Int) (w : World) (hl : MLen M) (hs : MSl w M A) (hw : MW M) (ha : U addr) (hx : U x) :
    Calls Tryz.prog 12 #[.agg #[.int .u64 M.pc, .slice A.ax M.x.length A.cx, .int .i64 M.pr, .slice A.ac M.cs.length A.cc, .slice A.ar M.ram.length A.cr, .int .u64 M.d.t, .int .u64 M.d.cm, .bool M.d.so, .slice A.ai M.d.xs.length A.ci, .slice A.ao M.d.ys.length A.co, .int .i64 M.d.ir, .int .u64 M.hd, .bool M.hl, .bool M.wt], .int .u64 addr, .int .i64 size, .int .i64 kind, .int .u64 x] w fun e w' => ∃ C' : MA, e = .returned (.tuple #[.int .u64 (accessM M addr size kind x).1, .agg (mvc (accessM M addr size kind x).2.1 C'), .int .i64 (accessM M addr size kind x).2.2]) ∧ Fam w.heap.size w'.heap.size w' (mvF (accessM M addr size kind x).2.1 C') ∧ Below w.heap.size w w' := by
  have B0 : Below w.heap.size w ((w.alloc (.cells #[.int .u64 M.pc, .slice A.ax M.x.length A.cx, .int .i64 M.pr, .slice A.ac M.cs.length A.cc, .slice A.ar M.ram.length A.cr, .int .u64 M.d.t, .int .u64 M.d.cm, .bool M.d.so, .slice A.ai M.d.xs.length A.ci, .slice A.ao M.d.ys.length A.co, .int .i64 M.d.ir, .int .u64 M.hd, .bool M.hl, .bool M.wt] 29)).alloc (.cells #[.int .u64 0, .slice none 0 0, .int .i64 0, .slice none 0 0, .slice none 0 0, .int .u64 0, .int .u64 0, .bool false, .slice none 0 0, .slice none 0 0, .int .i64 0, .int .u64 0, .bool false, .bool false] 29)) := ((Below.refl _ _).alloc (Nat.le_refl _) _).alloc (by simp) _
  obtain ⟨ra, rb⟩ := rows2 (w := w) (o1 := .cells #[.int .u64 M.pc, .slice A.ax M.x.length A.cx, .int .i64 M.pr, .slice A.ac M.cs.length A.cc, .slice A.ar M.ram.length A.cr, .int .u64 M.d.t, .int .u64 M.d.cm, .bool M.d.so, .slice A.ai M.d.xs.length A.ci, .slice A.ao M.d.ys.length A.co, .int .i64 M.d.ir, .int .u64 M.hd, .bool M.hl, .bool M.wt] 29) (o2 := .cells #[.int .u64 0, .slice none 0 0, .int .i64 0, .slice none 0 0, .slice none 0 0, .int .u64 0, .int .u64 0, .bool false, .slice none 0 0, .slice none 0 0, .int .i64 0, .int .u64 0, .bool false, .bool false] 29) (Below.refl _ _)
  have HK : Hid (∀ w', Below w.heap.size w w' → Calls Tryz.prog 18 #[.agg #[.int .u64 M.pc, .slice A.ax M.x.length A.cx, .int .i64 M.pr, .slice A.ac M.cs.length A.cc, .slice A.ar M.ram.length A.cr, .int .u64 M.d.t, .int .u64 M.d.cm, .bool M.d.so, .slice A.ai M.d.xs.length A.ci, .slice A.ao M.d.ys.length A.co, .int .i64 M.d.ir, .int .u64 M.hd, .bool M.hl, .bool M.wt]] w' fun e w'' => e = .returned (.bool (machB M)) ∧ Below w'.heap.size w' w'') := fun w' hb => specMachineOk_any M A w' hl (hs.below hb)
  have HS : Hid (∀ w', Calls Tryz.prog 42 #[.int .i64 size] w' fun e w'' => e = .returned (.bool (sizeB size)) ∧ w'' = w') := fun w' => specSize_any size w'
  have HI : Hid (∀ w', Calls Tryz.prog 43 #[.int .i64 kind] w' fun e w'' => e = .returned (.bool (decide (1 ≤ kind ∧ kind ≤ 3))) ∧ w'' = w') := fun w' => l6Kind_any kind w'
  have HC : Hid (∀ w', Below w.heap.size w w' → Calls Tryz.prog 44 #[.agg #[.int .u64 M.pc, .slice A.ax M.x.length A.cx, .int .i64 M.pr, .slice A.ac M.cs.length A.cc, .slice A.ar M.ram.length A.cr, .int .u64 M.d.t, .int .u64 M.d.cm, .bool M.d.so, .slice A.ai M.d.xs.length A.ci, .slice A.ao M.d.ys.length A.co, .int .i64 M.d.ir, .int .u64 M.hd, .bool M.hl, .bool M.wt]] w' fun e w'' => ∃ E : MA, e = .returned (.agg #[.int .u64 M.pc, .slice E.ax M.x.length E.cx, .int .i64 M.pr, .slice E.ac M.cs.length E.cc, .slice E.ar M.ram.length E.cr, .int .u64 M.d.t, .int .u64 M.d.cm, .bool M.d.so, .slice E.ai M.d.xs.length E.ci, .slice E.ao M.d.ys.length E.co, .int .i64 M.d.ir, .int .u64 M.hd, .bool M.hl, .bool M.wt]) ∧ Fam w'.heap.size w''.heap.size w'' (mvF M E) ∧ Below w'.heap.size w' w'') := fun w' hb => l9Copy_any M A w' hl (hs.below hb)
  have HA : Hid (machB M = true → sizeB size = true → (1 ≤ kind ∧ kind ≤ 3) → ∀ (E : MA) (B r : Nat) (w' : World), Mp B r M E w' → Calls Tryz.prog 45 #[.pointer (some ⟨r, 0, none⟩), .slice none 0 0, .int .u64 addr, .int .i64 size, .int .i64 kind, .int .u64 x] w' fun e w'' => e = .returned (.tuple #[.int .u64 (accV M addr size kind x).1, .int .i64 (accV M addr size kind x).2.2]) ∧ ∃ A', Mp B r (accV M addr size kind x).2.1 A' w'' ∧ Kx r (mvF M E) (mvF (accV M addr size kind x).2.1 A') w' w'') := fun h1 h2 h3 E B r w' h => l9Access_any M E B r addr size kind x w' h hl hw h1 h2 h3.1 h3.2 ha hx
  obtain ⟨V, hV⟩ : ∃ V, V = accessM M addr size kind x := ⟨_, rfl⟩
  rw [← hV]
  unfold accessM goodA at hV
  have BH := dhid B0
  have RA := dhid ra
  have RB := dhid rb
  clear hl hs hw ha hx B0 ra rb
  cases hmk : machB M with
  | false =>
    rw [hmk] at HK
    have F : Hid (V = (0, zeroM, 99)) := by show _ = _; rw [hV, hmk]; rfl
    clear hV HA HC
    go_enter Tryz.func12, Tryz.ntmps12
    go_wp2_with fail
    refine (HK.out _ BH.out).mono ?_
    rintro e w1 ⟨rfl, hb1⟩
    have RES := dhid (dstays hb1 RB.out)
    have BB := dhid (below_trans BH.out hb1)
    clear hb1 RA RB BH
    obtain ⟨s0, s1, s2, s3, s4, s5, s6, s7, s8, s9, s10, s11, s12, s13⟩ := cells14 RES.out
    obtain ⟨y0, y1, y2, y3, y4, y5, y6, y7, y8, y9, y10, y11, y12, y13⟩ := froz14 RES.out
    go_wp2_with fail
    exact bodyPost_ret (results_tct8 Tryz.results12 _ _ _ _ _ _ _ rfl (row_put14 RES.out (.int .u64 0) (.slice none 0 0) (.int .i64 0) (.slice none 0 0) (.slice none 0 0) (.int .u64 0) (.int .u64 0) (.bool false) (.slice none 0 0) (.slice none 0 0) (.int .i64 0) (.int .u64 0) (.bool false) (.bool false)) Tryz.underlying29 rfl mac_size) rfl ⟨zeroA, by rw [F.out]; rfl, by rw [F.out]; exact fam_zeroM _ _ _, below_put14 BB.out (by omega) (.int .u64 0) (.slice none 0 0) (.int .i64 0) (.slice none 0 0) (.slice none 0 0) (.int .u64 0) (.int .u64 0) (.bool false) (.slice none 0 0) (.slice none 0 0) (.int .i64 0) (.int .u64 0) (.bool false) (.bool false)⟩
  | true =>
    rw [hmk] at HK HA
    cases hsz : sizeB size with
    | false =>
      rw [hsz] at HS
      have F : Hid (V = (0, zeroM, 99)) := by show _ = _; rw [hV, hmk, hsz]; rfl
      clear hV HA HC
      go_enter Tryz.func12, Tryz.ntmps12
      go_wp2_with fail
      refine (HK.out _ BH.out).mono ?_
      rintro e w1 ⟨rfl, hb1⟩
      have RES := dhid (dstays hb1 RB.out)
      have BB := dhid (below_trans BH.out hb1)
      clear hb1 RA RB BH
      obtain ⟨s0, s1, s2, s3, s4, s5, s6, s7, s8, s9, s10, s11, s12, s13⟩ := cells14 RES.out
      obtain ⟨y0, y1, y2, y3, y4, y5, y6, y7, y8, y9, y10, y11, y12, y13⟩ := froz14 RES.out
      go_wp2_with fail
      refine (HS.out _).mono ?_
      rintro e w2 ⟨rfl, hw2⟩
      subst w2
      go_wp2_with fail
      exact bodyPost_ret (results_tct8 Tryz.results12 _ _ _ _ _ _ _ rfl (row_put14 RES.out (.int .u64 0) (.slice none 0 0) (.int .i64 0) (.slice none 0 0) (.slice none 0 0) (.int .u64 0) (.int .u64 0) (.bool false) (.slice none 0 0) (.slice none 0 0) (.int .i64 0) (.int .u64 0) (.bool false) (.bool false)) Tryz.underlying29 rfl mac_size) rfl ⟨zeroA, by rw [F.out]; rfl, by rw [F.out]; exact fam_zeroM _ _ _, below_put14 BB.out (by omega) (.int .u64 0) (.slice none 0 0) (.int .i64 0) (.slice none 0 0) (.slice none 0 0) (.int .u64 0) (.int .u64 0) (.bool false) (.slice none 0 0) (.slice none 0 0) (.int .i64 0) (.int .u64 0) (.bool false) (.bool false)⟩
    | true =>
      rw [hsz] at HS HA
      by_cases hkd : 1 ≤ kind ∧ kind ≤ 3
      · rw [decide_eq_true hkd] at HI
        cases hk1 : (kind == 1) with
        | false =>
          have F : Hid (V = accV M addr size kind x) := by show _ = _; rw [hV, hmk, hsz, decide_eq_true hkd, hk1]; rfl
          clear hmk hsz
          clear hV
          have HA2 := HA.out (by trivial) (by trivial) hkd
          clear HA
          have HAX := dhid HA2
          clear HA2
          generalize accV M addr size kind x = U3 at *
          obtain ⟨y, R, code⟩ := U3
          go_enter Tryz.func12, Tryz.ntmps12
          go_wp2_with fail
          refine (HK.out _ BH.out).mono ?_
          rintro e w1 ⟨rfl, hb1⟩
          have RA1 := dhid (dstays hb1 RA.out)
          have RB1 := dhid (dstays hb1 RB.out)
          have B1 := dhid (below_trans BH.out hb1)
          clear hb1 RA RB BH
          obtain ⟨a0, a1, a2, a3, a4, a5, a6, a7, a8, a9, a10, a11, a12, a13⟩ := cells14 RA1.out
          go_wp2_with fail
          refine (HS.out _).mono ?_
          rintro e w2 ⟨rfl, hw2⟩
          subst w2
          go_wp2_with fail
          refine (HI.out _).mono ?_
          rintro e w3 ⟨rfl, hw3⟩
          subst w3
          go_wp2_with fail
          refine (HC.out _ B1.out).mono ?_
          rintro e w4 ⟨E, rfl, fm4, hb4⟩
          have hr4 : w.heap.size + 1 < w4.heap.size := (Array.getElem?_eq_some_iff.1 (dstays hb4 RB1.out)).1
          have hr1 : w.heap.size + 1 < w1.heap.size := (Array.getElem?_eq_some_iff.1 RB1.out).1
          have MP5 : Hid (Mp w1.heap.size w4.heap.size M E (w4.alloc (.cells #[.int .u64 M.pc, .slice E.ax M.x.length E.cx, .int .i64 M.pr, .slice E.ac M.cs.length E.cc, .slice E.ar M.ram.length E.cr, .int .u64 M.d.t, .int .u64 M.d.cm, .bool M.d.so, .slice E.ai M.d.xs.length E.ci, .slice E.ao M.d.ys.length E.co, .int .i64 M.d.ir, .int .u64 M.hd, .bool M.hl, .bool M.wt] 29))) := ⟨heap_alloc_new _ _, (fm4.below ((Below.refl _ _).alloc (Nat.le_refl _) _)).low (Nat.le_refl _) (by simp), fun q hq e => by have := fm4.hi q hq _ e; omega, hb4.size⟩
          have B5 := dhid ((below_trans B1.out hb4).alloc (below_trans B1.out hb4).size (.cells #[.int .u64 M.pc, .slice E.ax M.x.length E.cx, .int .i64 M.pr, .slice E.ac M.cs.length E.cc, .slice E.ar M.ram.length E.cr, .int .u64 M.d.t, .int .u64 M.d.cm, .bool M.d.so, .slice E.ai M.d.xs.length E.ci, .slice E.ao M.d.ys.length E.co, .int .i64 M.d.ir, .int .u64 M.hd, .bool M.hl, .bool M.wt] 29))
          have RB5 := dhid (row_al8 (dstays hb4 RB1.out) (.cells #[.int .u64 M.pc, .slice E.ax M.x.length E.cx, .int .i64 M.pr, .slice E.ac M.cs.length E.cc, .slice E.ar M.ram.length E.cr, .int .u64 M.d.t, .int .u64 M.d.cm, .bool M.d.so, .slice E.ai M.d.xs.length E.ci, .slice E.ao M.d.ys.length E.co, .int .i64 M.d.ir, .int .u64 M.hd, .bool M.hl, .bool M.wt] 29))
          have Z4 := dhid (And.intro hb4.size (And.intro hr4 hr1))
          clear hb4 fm4 RA1 RB1 B1 hr4 hr1
          clear a0 a1 a2 a3 a4 a5 a6 a7 a8 a9 a10 a11 a12 a13
          go_wp2_with fail
          refine (HAX.out E w1.heap.size w4.heap.size _ MP5.out).mono ?_
          rintro e w6 ⟨rfl, A', mp6, kx6⟩
          have UB := MP5.out.under kx6
          have B6 := dhid (B5.out.trans (UB.mono (by have := B5.out.size; have := Z4.out; omega)))
          have RB6 := dhid ((UB.block (w.heap.size + 1) (by have := Z4.out; omega)).trans RB5.out)
          have MP6 := dhid mp6
          clear mp6 kx6 UB MP5 B5 RB5 HAX HC HK HS HI
          obtain ⟨r, hr⟩ : ∃ r, r = w4.heap.size := ⟨_, rfl⟩
          have hrl : w.heap.size + 1 < r := by have := Z4.out; omega
          rw [← hr] at MP6 ⊢
          have Z5 := dhid (show w.heap.size + 1 < w1.heap.size from Z4.out.2.2)
          clear hr Z4
          go_wp2_with fail
          obtain ⟨Q, hQ⟩ : ∃ Q : World → Prop, Q = fun W => W.heap[r]? = some (.cells (mvc R A') 29 (0, 0)) := ⟨_, rfl⟩
          have KS : Hid (∀ w', Q w' → (w'.cell? ⟨r, 0, none⟩ = some (.int .u64 R.pc) ∧ w'.cell? ⟨r, 1, none⟩ = some (.slice A'.ax R.x.length A'.cx) ∧ w'.cell? ⟨r, 2, none⟩ = some (.int .i64 R.pr) ∧ w'.cell? ⟨r, 3, none⟩ = some (.slice A'.ac R.cs.length A'.cc) ∧ w'.cell? ⟨r, 4, none⟩ = some (.slice A'.ar R.ram.length A'.cr) ∧ w'.cell? ⟨r, 5, none⟩ = some (.int .u64 R.d.t) ∧ w'.cell? ⟨r, 6, none⟩ = some (.int .u64 R.d.cm) ∧ w'.cell? ⟨r, 7, none⟩ = some (.bool R.d.so) ∧ w'.cell? ⟨r, 8, none⟩ = some (.slice A'.ai R.d.xs.length A'.ci) ∧ w'.cell? ⟨r, 9, none⟩ = some (.slice A'.ao R.d.ys.length A'.co) ∧ w'.cell? ⟨r, 10, none⟩ = some (.int .i64 R.d.ir) ∧ w'.cell? ⟨r, 11, none⟩ = some (.int .u64 R.hd) ∧ w'.cell? ⟨r, 12, none⟩ = some (.bool R.hl) ∧ w'.cell? ⟨r, 13, none⟩ = some (.bool R.wt)) ∧ Q w') := fun w' h => ⟨by rw [hQ] at h; exact cells14 h, h⟩
          have QI : Hid (∀ W, W.heap[r]? = some (.cells (mvc R A') 29 (0, 0)) → Q W) := by rw [hQ]; exact fun W h => h
          clear hQ
          have q6 : Q w6.drew := QI.out _ MP6.out.row
          refine wp_region_held_drew (S := (fun w' => (w'.cell? ⟨r, 0, none⟩ = some (.int .u64 R.pc) ∧ w'.cell? ⟨r, 1, none⟩ = some (.slice A'.ax R.x.length A'.cx) ∧ w'.cell? ⟨r, 2, none⟩ = some (.int .i64 R.pr) ∧ w'.cell? ⟨r, 3, none⟩ = some (.slice A'.ac R.cs.length A'.cc) ∧ w'.cell? ⟨r, 4, none⟩ = some (.slice A'.ar R.ram.length A'.cr) ∧ w'.cell? ⟨r, 5, none⟩ = some (.int .u64 R.d.t) ∧ w'.cell? ⟨r, 6, none⟩ = some (.int .u64 R.d.cm) ∧ w'.cell? ⟨r, 7, none⟩ = some (.bool R.d.so) ∧ w'.cell? ⟨r, 8, none⟩ = some (.slice A'.ai R.d.xs.length A'.ci) ∧ w'.cell? ⟨r, 9, none⟩ = some (.slice A'.ao R.d.ys.length A'.co) ∧ w'.cell? ⟨r, 10, none⟩ = some (.int .i64 R.d.ir) ∧ w'.cell? ⟨r, 11, none⟩ = some (.int .u64 R.hd) ∧ w'.cell? ⟨r, 12, none⟩ = some (.bool R.hl) ∧ w'.cell? ⟨r, 13, none⟩ = some (.bool R.wt)) ∧ Q w')) (by kernel_rfl) (KS.out _ q6) (fun hHeld => ?_)
          refine tkL 0 48 (.int .u64 y) ?_
          refine tkL 1 49 (.agg #[.int .u64 R.pc, .slice A'.ax R.x.length A'.cx, .int .i64 R.pr, .slice A'.ac R.cs.length A'.cc, .slice A'.ar R.ram.length A'.cr, .int .u64 R.d.t, .int .u64 R.d.cm, .bool R.d.so, .slice A'.ai R.d.xs.length A'.ci, .slice A'.ao R.d.ys.length A'.co, .int .i64 R.d.ir, .int .u64 R.hd, .bool R.hl, .bool R.wt]) ?_
          refine tkL 2 50 (.int .i64 code) ?_
          refine tkL 3 10 (.int .u64 y) ?_
          have q7 : Q (w6.drew.setRow (w.heap.size + 1) #[.int .u64 R.pc, .slice A'.ax R.x.length A'.cx, .int .i64 R.pr, .slice A'.ac R.cs.length A'.cc, .slice A'.ar R.ram.length A'.cr, .int .u64 R.d.t, .int .u64 R.d.cm, .bool R.d.so, .slice A'.ai R.d.xs.length A'.ci, .slice A'.ao R.d.ys.length A'.co, .int .i64 R.d.ir, .int .u64 R.hd, .bool R.hl, .bool R.wt]) := QI.out _ ((setRow_other _ _ _ _ (by omega)).trans MP6.out.row)
          refine wpAnyH_ready (rs := [4]) (by kernel_rfl) (by simp) ?_
          refine AllReadyH.cons (o := { dst := none, op := _, type := _, pos := _, after := _, guard := _ }) rfl (fun K hK => ?_) AllReadyH.nil
          refine wpH_row9 (by rfl) 29 (.tmp 11) (.tmp 49) rfl (w.heap.size + 1) rfl #[.int .u64 0, .slice none 0 0, .int .i64 0, .slice none 0 0, .slice none 0 0, .int .u64 0, .int .u64 0, .bool false, .slice none 0 0, .slice none 0 0, .int .i64 0, .int .u64 0, .bool false, .bool false] #[.int .u64 R.pc, .slice A'.ax R.x.length A'.cx, .int .i64 R.pr, .slice A'.ac R.cs.length A'.cc, .slice A'.ar R.ram.length A'.cr, .int .u64 R.d.t, .int .u64 R.d.cm, .bool R.d.so, .slice A'.ai R.d.xs.length A'.ci, .slice A'.ao R.d.ys.length A'.co, .int .i64 R.d.ir, .int .u64 R.hd, .bool R.hl, .bool R.wt] rfl 29 (show w6.drew.heap[w.heap.size + 1]? = _ from RB6.out) mac_size rfl (mvc_one R A') ?_
          simp only [Act.put]
          refine hK.out _ _ (KS.out _ q7) (fun hHeld => ?_)
          clear hK
          refine tkL 5 12 (.int .i64 code) ?_
          refine wpAnyH_done (by kernel_rfl) ?_ _
          go_wp2_with fail
          exact bodyPost_ret (results_tct8 Tryz.results12 _ _ _ _ _ _ _ rfl (setRow_heap _ _ _ _ _ _ (show w6.drew.heap[w.heap.size + 1]? = _ from RB6.out)) Tryz.underlying29 rfl mac_size) rfl ⟨A', by rw [F.out]; rfl, by rw [F.out]; exact (fam_row9 (MP6.out.fam.below (Below.refl _ _).drew) (w.heap.size + 1) (fun q hq e => by have h1 := ((MP6.out.fam.own q hq).lt _ e).1; have := Z5.out; omega) #[.int .u64 R.pc, .slice A'.ax R.x.length A'.cx, .int .i64 R.pr, .slice A'.ac R.cs.length A'.cc, .slice A'.ar R.ram.length A'.cr, .int .u64 R.d.t, .int .u64 R.d.cm, .bool R.d.so, .slice A'.ai R.d.xs.length A'.ci, .slice A'.ao R.d.ys.length A'.co, .int .i64 R.d.ir, .int .u64 R.hd, .bool R.hl, .bool R.wt]).low (by have := Z5.out; omega) (by rw [setRow_size]; exact Nat.le_refl _), by exact row_below B6.out.drew (by omega) #[.int .u64 R.pc, .slice A'.ax R.x.length A'.cx, .int .i64 R.pr, .slice A'.ac R.cs.length A'.cc, .slice A'.ar R.ram.length A'.cr, .int .u64 R.d.t, .int .u64 R.d.cm, .bool R.d.so, .slice A'.ai R.d.xs.length A'.ci, .slice A'.ao R.d.ys.length A'.co, .int .i64 R.d.ir, .int .u64 R.hd, .bool R.hl, .bool R.wt]⟩
        | true =>
          cases hs4 : (size != 4) with
          | true =>
            have F : Hid (V = (0, zeroM, 99)) := by show _ = _; rw [hV, hmk, hsz, decide_eq_true hkd, hk1, hs4]; rfl
            clear hV HA HC
            go_enter Tryz.func12, Tryz.ntmps12
            go_wp2_with fail
            refine (HK.out _ BH.out).mono ?_
            rintro e w1 ⟨rfl, hb1⟩
            have RES := dhid (dstays hb1 RB.out)
            have BB := dhid (below_trans BH.out hb1)
            clear hb1 RA RB BH
            obtain ⟨s0, s1, s2, s3, s4, s5, s6, s7, s8, s9, s10, s11, s12, s13⟩ := cells14 RES.out
            obtain ⟨y0, y1, y2, y3, y4, y5, y6, y7, y8, y9, y10, y11, y12, y13⟩ := froz14 RES.out
            go_wp2_with fail
            refine (HS.out _).mono ?_
            rintro e w2 ⟨rfl, hw2⟩
            subst w2
            go_wp2_with fail
            refine (HI.out _).mono ?_
            rintro e w3 ⟨rfl, hw3⟩
            subst w3
            go_wp2_with fail
            exact bodyPost_ret (results_tct8 Tryz.results12 _ _ _ _ _ _ _ rfl (row_put14 RES.out (.int .u64 0) (.slice none 0 0) (.int .i64 0) (.slice none 0 0) (.slice none 0 0) (.int .u64 0) (.int .u64 0) (.bool false) (.slice none 0 0) (.slice none 0 0) (.int .i64 0) (.int .u64 0) (.bool false) (.bool false)) Tryz.underlying29 rfl mac_size) rfl ⟨zeroA, by rw [F.out]; rfl, by rw [F.out]; exact fam_zeroM _ _ _, below_put14 BB.out (by omega) (.int .u64 0) (.slice none 0 0) (.int .i64 0) (.slice none 0 0) (.slice none 0 0) (.int .u64 0) (.int .u64 0) (.bool false) (.slice none 0 0) (.slice none 0 0) (.int .i64 0) (.int .u64 0) (.bool false) (.bool false)⟩
          | false =>
            have F : Hid (V = accV M addr size kind x) := by show _ = _; rw [hV, hmk, hsz, decide_eq_true hkd, hk1, hs4]; rfl
            clear hmk hsz
            clear hV
            have HA2 := HA.out (by trivial) (by trivial) hkd
            clear HA
            have HAX := dhid HA2
            clear HA2
            generalize accV M addr size kind x = U3 at *
            obtain ⟨y, R, code⟩ := U3
            go_enter Tryz.func12, Tryz.ntmps12
            go_wp2_with fail
            refine (HK.out _ BH.out).mono ?_
            rintro e w1 ⟨rfl, hb1⟩
            have RA1 := dhid (dstays hb1 RA.out)
            have RB1 := dhid (dstays hb1 RB.out)
            have B1 := dhid (below_trans BH.out hb1)
            clear hb1 RA RB BH
            obtain ⟨a0, a1, a2, a3, a4, a5, a6, a7, a8, a9, a10, a11, a12, a13⟩ := cells14 RA1.out
            go_wp2_with fail
            refine (HS.out _).mono ?_
            rintro e w2 ⟨rfl, hw2⟩
            subst w2
            go_wp2_with fail
            refine (HI.out _).mono ?_
            rintro e w3 ⟨rfl, hw3⟩
            subst w3
            go_wp2_with fail
            refine (HC.out _ B1.out).mono ?_
            rintro e w4 ⟨E, rfl, fm4, hb4⟩
            have hr4 : w.heap.size + 1 < w4.heap.size := (Array.getElem?_eq_some_iff.1 (dstays hb4 RB1.out)).1
            have hr1 : w.heap.size + 1 < w1.heap.size := (Array.getElem?_eq_some_iff.1 RB1.out).1
            have MP5 : Hid (Mp w1.heap.size w4.heap.size M E (w4.alloc (.cells #[.int .u64 M.pc, .slice E.ax M.x.length E.cx, .int .i64 M.pr, .slice E.ac M.cs.length E.cc, .slice E.ar M.ram.length E.cr, .int .u64 M.d.t, .int .u64 M.d.cm, .bool M.d.so, .slice E.ai M.d.xs.length E.ci, .slice E.ao M.d.ys.length E.co, .int .i64 M.d.ir, .int .u64 M.hd, .bool M.hl, .bool M.wt] 29))) := ⟨heap_alloc_new _ _, (fm4.below ((Below.refl _ _).alloc (Nat.le_refl _) _)).low (Nat.le_refl _) (by simp), fun q hq e => by have := fm4.hi q hq _ e; omega, hb4.size⟩
            have B5 := dhid ((below_trans B1.out hb4).alloc (below_trans B1.out hb4).size (.cells #[.int .u64 M.pc, .slice E.ax M.x.length E.cx, .int .i64 M.pr, .slice E.ac M.cs.length E.cc, .slice E.ar M.ram.length E.cr, .int .u64 M.d.t, .int .u64 M.d.cm, .bool M.d.so, .slice E.ai M.d.xs.length E.ci, .slice E.ao M.d.ys.length E.co, .int .i64 M.d.ir, .int .u64 M.hd, .bool M.hl, .bool M.wt] 29))
            have RB5 := dhid (row_al8 (dstays hb4 RB1.out) (.cells #[.int .u64 M.pc, .slice E.ax M.x.length E.cx, .int .i64 M.pr, .slice E.ac M.cs.length E.cc, .slice E.ar M.ram.length E.cr, .int .u64 M.d.t, .int .u64 M.d.cm, .bool M.d.so, .slice E.ai M.d.xs.length E.ci, .slice E.ao M.d.ys.length E.co, .int .i64 M.d.ir, .int .u64 M.hd, .bool M.hl, .bool M.wt] 29))
            have Z4 := dhid (And.intro hb4.size (And.intro hr4 hr1))
            clear hb4 fm4 RA1 RB1 B1 hr4 hr1
            clear a0 a1 a2 a3 a4 a5 a6 a7 a8 a9 a10 a11 a12 a13
            go_wp2_with fail
            refine (HAX.out E w1.heap.size w4.heap.size _ MP5.out).mono ?_
            rintro e w6 ⟨rfl, A', mp6, kx6⟩
            have UB := MP5.out.under kx6
            have B6 := dhid (B5.out.trans (UB.mono (by have := B5.out.size; have := Z4.out; omega)))
            have RB6 := dhid ((UB.block (w.heap.size + 1) (by have := Z4.out; omega)).trans RB5.out)
            have MP6 := dhid mp6
            clear mp6 kx6 UB MP5 B5 RB5 HAX HC HK HS HI
            obtain ⟨r, hr⟩ : ∃ r, r = w4.heap.size := ⟨_, rfl⟩
            have hrl : w.heap.size + 1 < r := by have := Z4.out; omega
            rw [← hr] at MP6 ⊢
            have Z5 := dhid (show w.heap.size + 1 < w1.heap.size from Z4.out.2.2)
            clear hr Z4
            go_wp2_with fail
            obtain ⟨Q, hQ⟩ : ∃ Q : World → Prop, Q = fun W => W.heap[r]? = some (.cells (mvc R A') 29 (0, 0)) := ⟨_, rfl⟩
            have KS : Hid (∀ w', Q w' → (w'.cell? ⟨r, 0, none⟩ = some (.int .u64 R.pc) ∧ w'.cell? ⟨r, 1, none⟩ = some (.slice A'.ax R.x.length A'.cx) ∧ w'.cell? ⟨r, 2, none⟩ = some (.int .i64 R.pr) ∧ w'.cell? ⟨r, 3, none⟩ = some (.slice A'.ac R.cs.length A'.cc) ∧ w'.cell? ⟨r, 4, none⟩ = some (.slice A'.ar R.ram.length A'.cr) ∧ w'.cell? ⟨r, 5, none⟩ = some (.int .u64 R.d.t) ∧ w'.cell? ⟨r, 6, none⟩ = some (.int .u64 R.d.cm) ∧ w'.cell? ⟨r, 7, none⟩ = some (.bool R.d.so) ∧ w'.cell? ⟨r, 8, none⟩ = some (.slice A'.ai R.d.xs.length A'.ci) ∧ w'.cell? ⟨r, 9, none⟩ = some (.slice A'.ao R.d.ys.length A'.co) ∧ w'.cell? ⟨r, 10, none⟩ = some (.int .i64 R.d.ir) ∧ w'.cell? ⟨r, 11, none⟩ = some (.int .u64 R.hd) ∧ w'.cell? ⟨r, 12, none⟩ = some (.bool R.hl) ∧ w'.cell? ⟨r, 13, none⟩ = some (.bool R.wt)) ∧ Q w') := fun w' h => ⟨by rw [hQ] at h; exact cells14 h, h⟩
            have QI : Hid (∀ W, W.heap[r]? = some (.cells (mvc R A') 29 (0, 0)) → Q W) := by rw [hQ]; exact fun W h => h
            clear hQ
            have q6 : Q w6.drew := QI.out _ MP6.out.row
            refine wp_region_held_drew (S := (fun w' => (w'.cell? ⟨r, 0, none⟩ = some (.int .u64 R.pc) ∧ w'.cell? ⟨r, 1, none⟩ = some (.slice A'.ax R.x.length A'.cx) ∧ w'.cell? ⟨r, 2, none⟩ = some (.int .i64 R.pr) ∧ w'.cell? ⟨r, 3, none⟩ = some (.slice A'.ac R.cs.length A'.cc) ∧ w'.cell? ⟨r, 4, none⟩ = some (.slice A'.ar R.ram.length A'.cr) ∧ w'.cell? ⟨r, 5, none⟩ = some (.int .u64 R.d.t) ∧ w'.cell? ⟨r, 6, none⟩ = some (.int .u64 R.d.cm) ∧ w'.cell? ⟨r, 7, none⟩ = some (.bool R.d.so) ∧ w'.cell? ⟨r, 8, none⟩ = some (.slice A'.ai R.d.xs.length A'.ci) ∧ w'.cell? ⟨r, 9, none⟩ = some (.slice A'.ao R.d.ys.length A'.co) ∧ w'.cell? ⟨r, 10, none⟩ = some (.int .i64 R.d.ir) ∧ w'.cell? ⟨r, 11, none⟩ = some (.int .u64 R.hd) ∧ w'.cell? ⟨r, 12, none⟩ = some (.bool R.hl) ∧ w'.cell? ⟨r, 13, none⟩ = some (.bool R.wt)) ∧ Q w')) (by kernel_rfl) (KS.out _ q6) (fun hHeld => ?_)
            refine tkL 0 48 (.int .u64 y) ?_
            refine tkL 1 49 (.agg #[.int .u64 R.pc, .slice A'.ax R.x.length A'.cx, .int .i64 R.pr, .slice A'.ac R.cs.length A'.cc, .slice A'.ar R.ram.length A'.cr, .int .u64 R.d.t, .int .u64 R.d.cm, .bool R.d.so, .slice A'.ai R.d.xs.length A'.ci, .slice A'.ao R.d.ys.length A'.co, .int .i64 R.d.ir, .int .u64 R.hd, .bool R.hl, .bool R.wt]) ?_
            refine tkL 2 50 (.int .i64 code) ?_
            refine tkL 3 10 (.int .u64 y) ?_
            have q7 : Q (w6.drew.setRow (w.heap.size + 1) #[.int .u64 R.pc, .slice A'.ax R.x.length A'.cx, .int .i64 R.pr, .slice A'.ac R.cs.length A'.cc, .slice A'.ar R.ram.length A'.cr, .int .u64 R.d.t, .int .u64 R.d.cm, .bool R.d.so, .slice A'.ai R.d.xs.length A'.ci, .slice A'.ao R.d.ys.length A'.co, .int .i64 R.d.ir, .int .u64 R.hd, .bool R.hl, .bool R.wt]) := QI.out _ ((setRow_other _ _ _ _ (by omega)).trans MP6.out.row)
            refine wpAnyH_ready (rs := [4]) (by kernel_rfl) (by simp) ?_
            refine AllReadyH.cons (o := { dst := none, op := _, type := _, pos := _, after := _, guard := _ }) rfl (fun K hK => ?_) AllReadyH.nil
            refine wpH_row9 (by rfl) 29 (.tmp 11) (.tmp 49) rfl (w.heap.size + 1) rfl #[.int .u64 0, .slice none 0 0, .int .i64 0, .slice none 0 0, .slice none 0 0, .int .u64 0, .int .u64 0, .bool false, .slice none 0 0, .slice none 0 0, .int .i64 0, .int .u64 0, .bool false, .bool false] #[.int .u64 R.pc, .slice A'.ax R.x.length A'.cx, .int .i64 R.pr, .slice A'.ac R.cs.length A'.cc, .slice A'.ar R.ram.length A'.cr, .int .u64 R.d.t, .int .u64 R.d.cm, .bool R.d.so, .slice A'.ai R.d.xs.length A'.ci, .slice A'.ao R.d.ys.length A'.co, .int .i64 R.d.ir, .int .u64 R.hd, .bool R.hl, .bool R.wt] rfl 29 (show w6.drew.heap[w.heap.size + 1]? = _ from RB6.out) mac_size rfl (mvc_one R A') ?_
            simp only [Act.put]
            refine hK.out _ _ (KS.out _ q7) (fun hHeld => ?_)
            clear hK
            refine tkL 5 12 (.int .i64 code) ?_
            refine wpAnyH_done (by kernel_rfl) ?_ _
            go_wp2_with fail
            exact bodyPost_ret (results_tct8 Tryz.results12 _ _ _ _ _ _ _ rfl (setRow_heap _ _ _ _ _ _ (show w6.drew.heap[w.heap.size + 1]? = _ from RB6.out)) Tryz.underlying29 rfl mac_size) rfl ⟨A', by rw [F.out]; rfl, by rw [F.out]; exact (fam_row9 (MP6.out.fam.below (Below.refl _ _).drew) (w.heap.size + 1) (fun q hq e => by have h1 := ((MP6.out.fam.own q hq).lt _ e).1; have := Z5.out; omega) #[.int .u64 R.pc, .slice A'.ax R.x.length A'.cx, .int .i64 R.pr, .slice A'.ac R.cs.length A'.cc, .slice A'.ar R.ram.length A'.cr, .int .u64 R.d.t, .int .u64 R.d.cm, .bool R.d.so, .slice A'.ai R.d.xs.length A'.ci, .slice A'.ao R.d.ys.length A'.co, .int .i64 R.d.ir, .int .u64 R.hd, .bool R.hl, .bool R.wt]).low (by have := Z5.out; omega) (by rw [setRow_size]; exact Nat.le_refl _), by exact row_below B6.out.drew (by omega) #[.int .u64 R.pc, .slice A'.ax R.x.length A'.cx, .int .i64 R.pr, .slice A'.ac R.cs.length A'.cc, .slice A'.ar R.ram.length A'.cr, .int .u64 R.d.t, .int .u64 R.d.cm, .bool R.d.so, .slice A'.ai R.d.xs.length A'.ci, .slice A'.ao R.d.ys.length A'.co, .int .i64 R.d.ir, .int .u64 R.hd, .bool R.hl, .bool R.wt]⟩
      · rw [decide_eq_false hkd] at HI
        have F : Hid (V = (0, zeroM, 99)) := by show _ = _; rw [hV, hmk, hsz, decide_eq_false hkd]; rfl
        clear hV HA HC
        go_enter Tryz.func12, Tryz.ntmps12
        go_wp2_with fail
        refine (HK.out _ BH.out).mono ?_
        rintro e w1 ⟨rfl, hb1⟩
        have RES := dhid (dstays hb1 RB.out)
        have BB := dhid (below_trans BH.out hb1)
        clear hb1 RA RB BH
        obtain ⟨s0, s1, s2, s3, s4, s5, s6, s7, s8, s9, s10, s11, s12, s13⟩ := cells14 RES.out
        obtain ⟨y0, y1, y2, y3, y4, y5, y6, y7, y8, y9, y10, y11, y12, y13⟩ := froz14 RES.out
        go_wp2_with fail
        refine (HS.out _).mono ?_
        rintro e w2 ⟨rfl, hw2⟩
        subst w2
        go_wp2_with fail
        refine (HI.out _).mono ?_
        rintro e w3 ⟨rfl, hw3⟩
        subst w3
        go_wp2_with fail
        exact bodyPost_ret (results_tct8 Tryz.results12 _ _ _ _ _ _ _ rfl (row_put14 RES.out (.int .u64 0) (.slice none 0 0) (.int .i64 0) (.slice none 0 0) (.slice none 0 0) (.int .u64 0) (.int .u64 0) (.bool false) (.slice none 0 0) (.slice none 0 0) (.int .i64 0) (.int .u64 0) (.bool false) (.bool false)) Tryz.underlying29 rfl mac_size) rfl ⟨zeroA, by rw [F.out]; rfl, by rw [F.out]; exact fam_zeroM _ _ _, below_put14 BB.out (by omega) (.int .u64 0) (.slice none 0 0) (.int .i64 0) (.slice none 0 0) (.slice none 0 0) (.int .u64 0) (.int .u64 0) (.bool false) (.slice none 0 0) (.slice none 0 0) (.int .i64 0) (.int .u64 0) (.bool false) (.bool false)⟩

end Go.Proofs.YtilhcfhcdplicaaGreatDoor
