/- impl.viewBy: the place that a number leads to, and how it is seen by it. -/
import Derived.Test.YtgcbdlfljplkbabCsrL
namespace Go.Proofs.Ytgcbdlfljplkbab
open Go.RowKit
set_option linter.unusedVariables false

structure Vw where
  at_ : Int
  num : Int
  rd : Int
  wr : Int
  ok : Bool

def Vw.cells (v : Vw) : Array Value := #[.int .i64 v.num, .int .u64 v.rd, .int .u64 v.wr]

def findV (n m : Int) : Nat → Nat → Vw
  | 0, _ => ⟨-1, 0, 0, 0, false⟩
  | f + 1, k => if ((ckAt k).1 == n) = true then ⟨k, n, 18446744073709551615, 18446744073709551615, true⟩
    else if ((ckAt k).2.sees && (viewN (ckAt k).2 == n)) = true then ⟨k, viewN (ckAt k).2, viewR m (ckAt k).2, viewW m (ckAt k).2, true⟩ else findV n m f (k + 1)

theorem findV_own (n m : Int) (k : Nat) (hk : k < 22) (r : Int × CK) (hr : r = ckAt k) (h : (r.1 == n) = true) : findV n m (22 - k) k = ⟨k, n, 18446744073709551615, 18446744073709551615, true⟩ := by
  subst hr
  rw [show 22 - k = (22 - (k + 1)) + 1 from by omega, findV, if_pos h]

theorem findV_seen (n m : Int) (k : Nat) (hk : k < 22) (r : Int × CK) (hr : r = ckAt k) (h : (r.1 == n) = false) (h2 : r.2.sees = true) (h3 : (viewN r.2 == n) = true) : findV n m (22 - k) k = ⟨k, viewN r.2, viewR m r.2, viewW m r.2, true⟩ := by
  subst hr
  rw [show 22 - k = (22 - (k + 1)) + 1 from by omega, findV, if_neg (by rw [h]; decide), h2, h3]; rfl

theorem findV_next (n m : Int) (k : Nat) (hk : k < 22) (r : Int × CK) (hr : r = ckAt k) (h : (r.1 == n) = false) (h2 : (r.2.sees && (viewN r.2 == n)) = false) : findV n m (22 - k) k = findV n m (22 - (k + 1)) (k + 1) := by
  subst hr
  rw [show 22 - k = (22 - (k + 1)) + 1 from by omega, findV, if_neg (by rw [h]; decide), h2, if_neg (by decide)]

theorem view_found (k : CK) (hk : k.sees = true) (w : World) : (method 244 k.ty k.val "loop.example/g00134/impl.view").run Try.prog w = .ok (k.viewF, k.val) w := by
  cases k <;> first | (cases hk; done) | kernel_rfl

theorem view_enters (k : CK) (hk : k.sees = true) : (Try.prog.funcs[k.viewF]?).map (fun fn => (fn.name == "runtime.NumGoroutine", fn.body.isSome)) = some (false, true) := by
  cases k <;> first | (cases hk; done) | kernel_rfl

theorem view_has (k : CK) (hk : k.sees = true) (xT : TypeId) (w : World) : (Instr.typeAssert (.iface k.ty k.val) xT 104 true).run Try.prog w = .ok (.tuple #[.iface k.ty k.val, .bool true]) w := by
  cases k <;> first | (cases hk; done) | exact run_typeAssert_hasB Try.underlying104 (by kernel_rfl) _ xT w

theorem view_lacks (k : CK) (hk : k.sees = false) (xT : TypeId) (w : World) : (Instr.typeAssert (.iface k.ty k.val) xT 104 true).run Try.prog w = .ok (.tuple #[.nilIface, .bool false]) w := by
  cases k <;> first | (cases hk; done) | exact run_typeAssert_lacksB Try.underlying104 (by kernel_rfl) (by kernel_rfl) _ xT w

theorem results_tct {P : Program} {fn : Func} {s p u : Tmp} {ty : TypeId} (h : fn.results = #[.tmp s, .cell p ty, .tmp u]) (tmps : Array Value) (w : World) (g : Nat) (t : TypeId) (cs : Array Value) (fr : Nat × Nat) (d : TypeDesc)
    (hp : tmps.getD p undef = .pointer (some ⟨g, 0, none⟩)) (hg : w.heap[g]? = some (.cells cs t fr))
    (hu : P.underlying ty = some d) (hd : (match d with | .struct _ | .array _ _ => true | _ => false) = true) (hi : (P.info? ty).map (·.size) = some cs.size) :
    (results fn tmps).run P w = .ok (.tuple #[tmps.getD s undef, .agg cs, tmps.getD u undef]) w := by
  have h1 : (results fn tmps).run P w = ((asAddr (tmps.getD p undef)).run P w).andThen fun a w₁ => ((loadVar ty a).run P w₁).andThen fun v w₂ => .ok (.tuple #[tmps.getD s undef, v, tmps.getD u undef]) w₂ := by
    simp only [results, h]
    simp [Sem.run_bind, Result.andThen]
  rw [h1, hp]
  simp [asAddr, run_loadVar_row w g t ty cs fr d hg hu hd hi]

/-- A row behind a store into it. -/
theorem heap_setCell {w : World} {g : Nat} {cs : Array Value} {t : TypeId} {fr : Nat × Nat} (h : w.heap[g]? = some (.cells cs t fr)) (i : Nat) (v : Value) :
    (w.setCell ⟨g, i, none⟩ v).heap[g]? = some (.cells (cs.setIfInBounds i v) t fr) := by
  simp [World.setCell, Array.getElem?_modify, h]

theorem vw_size : (Try.prog.info? 72).map (·.size) = some 3 := by kernel_rfl

theorem vw_one (a b c : Int) : (#[Value.int .i64 a, .int .u64 b, .int .u64 c] : Array Value).all (·.oneCell') = true := by
  simp [Value.oneCell']

set_option maxRecDepth 100000 in
set_option maxHeartbeats 1600000 in
theorem viewBy_any (n m : Int) (w : World) :
    Calls Try.prog 47 #[.int .i64 n, .int .u64 m] w fun e w' => e = .returned (.tuple #[.int .i64 (findV n m 22 0).at_, .agg (findV n m 22 0).cells, .bool (findV n m 22 0).ok]) ∧ Below w.heap.size w w' := by
  obtain ⟨V, hV⟩ : ∃ V, V = findV n m 22 0 := ⟨_, rfl⟩
  rw [← hV]
  obtain ⟨w0, hw0⟩ : ∃ w0, w0 = w.alloc (.cells #[.int .i64 0, .int .u64 0, .int .u64 0] 72) := ⟨_, rfl⟩
  have HW0 : Hid (w0 = w.alloc (.cells #[.int .i64 0, .int .u64 0, .int .u64 0] 72)) := hw0
  have hV0 : Hid (findV n m (22 - 0) 0 = V) := hV.symm
  have hg0 : w0.heap[w.heap.size]? = some (.cells #[.int .i64 0, .int .u64 0, .int .u64 0] 72 (0, 0)) := by rw [hw0]; exact heap_alloc_new _ _
  have HG0 : Hid (w0.heap[w.heap.size]? = some (.cells #[.int .i64 0, .int .u64 0, .int .u64 0] 72 (0, 0))) := hg0
  have hlt0 : w.heap.size < w0.heap.size := by rw [hw0]; simp
  have HB0 : Hid (Below w.heap.size w w0) := by show Below _ _ _; rw [hw0]; exact (Below.refl _ _).alloc (Nat.le_refl _) _
  clear hV hg0
  go_enter Try.func47, Try.ntmps47
  go_wp2_with fail
  rw [← hw0]
  clear hw0
  refine (csrRows_T _).mono ?_
  rintro e w1 ⟨T, rfl, HT, hb⟩
  go_wp2_with fail
  go_loopw [13] (fun i wr => ∃ k : Nat, k ≤ 22 ∧ i = .int .i64 k ∧ Hid (findV n m (22 - k) k = V) ∧ Below w0.heap.size w0 wr)
    (fun i _ => 22 - (intOf i).toNat)
  case atStart => exact ⟨0, by omega, rfl, hV0, hb⟩
  case round =>
    obtain ⟨k, hk, rfl, hf, hbel⟩ := hrel
    by_cases hlt : k < 22
    · obtain ⟨r, hr⟩ : ∃ r, r = ckAt k := ⟨_, rfl⟩
      have HR : Hid (r = ckAt k) := hr
      clear hr
      have dk : decide ((k : Int) < 22) = true := by simp; omega
      have hgr : wr.heap[w.heap.size]? = some (.cells #[.int .i64 0, .int .u64 0, .int .u64 0] 72 (0, 0)) := by rw [hbel.block _ hlt0]; exact HG0.out
      cases d1 : (r.1 == n) with
      | true =>
        have F : Hid (V = ⟨k, n, 18446744073709551615, 18446744073709551615, true⟩) := hf.out.symm.trans (findV_own n m k hlt r HR.out d1)
        have hgr2 : ∀ o, (wr.alloc o).heap[w.heap.size]? = some (.cells #[.int .i64 0, .int .u64 0, .int .u64 0] 72 (0, 0)) := by
          intro o
          rw [((Below.refl wr.heap.size wr).alloc (Nat.le_refl _) o).block _ (Nat.lt_of_lt_of_le hlt0 hbel.size)]; exact hgr
        have HGR : Hid (∀ o, (wr.alloc o).heap[w.heap.size]? = some (.cells #[.int .i64 0, .int .u64 0, .int .u64 0] 72 (0, 0))) := hgr2
        clear hgr hgr2
        go_wp2_with (first | refine wpList_indexC HT .i64 k hlt r HR rfl (.tmp 12) (.tmp 13) rfl rfl rfl ?_ | (refine wpList_store_rowTo rfl 72 (.tmp 5) (.tmp 23) rfl rfl w.heap.size #[.int .i64 n, .int .u64 18446744073709551615, .int .u64 18446744073709551615] rfl rfl 72 _ (HGR.out _) vw_size rfl (vw_one _ _ _) ?_))
        refine bodyPost_ret (results_tct Try.results47 _ _ w.heap.size _ _ _ _ rfl (setRow_heap _ _ _ _ _ _ (HGR.out _)) Try.underlying72 rfl vw_size) rfl ⟨by rw [F.out]; rfl, ?_⟩
        exact below_setRow (Below.alloc (below_trans HB0.out hbel) (below_trans HB0.out hbel).size _) (Nat.le_refl _) _
      | false =>
        cases d2 : r.2.sees with
        | false =>
          have F : Hid (findV n m (22 - (k + 1)) (k + 1) = V) := (findV_next n m k hlt r HR.out d1 (by rw [d2]; rfl)).symm.trans hf.out
          have hla := view_lacks r.2 d2
          clear hgr
          go_wp2_with (first | refine wpList_indexC HT .i64 k hlt r HR rfl (.tmp 12) (.tmp 13) rfl rfl rfl ?_)
          go_roundw
          case rel => exact ⟨k + 1, by omega, by go_num, F, hbel.alloc hbel.size _⟩
          case measure => simp [intOf]; omega
        | true =>
          have hha := view_has r.2 d2
          have mf := view_found r.2 d2
          have en := enters_g (view_enters r.2 d2)
          clear hgr
          go_wp2_with (first | refine wpList_indexC HT .i64 k hlt r HR rfl (.tmp 12) (.tmp 13) rfl rfl rfl ?_)
          refine (view_any r.2 d2 m _).mono ?_
          rintro e w2 ⟨rfl, hb2⟩
          have B2 : Below w0.heap.size w0 w2 := below_trans (hbel.alloc hbel.size _) hb2
          have HB2 : Hid (Below w0.heap.size w0 w2) := B2
          have hg2 : w2.heap[w.heap.size]? = some (.cells #[.int .i64 0, .int .u64 0, .int .u64 0] 72 (0, 0)) := by rw [B2.block _ hlt0]; exact HG0.out
          have hlt2 : w.heap.size < w2.heap.size := Nat.lt_of_lt_of_le hlt0 B2.size
          have HG2 : Hid (w2.heap[w.heap.size]? = some (.cells #[.int .i64 0, .int .u64 0, .int .u64 0] 72 (0, 0))) := hg2
          have hg3 : ∀ o, (w2.alloc o).heap[w.heap.size]? = some (.cells #[.int .i64 0, .int .u64 0, .int .u64 0] 72 (0, 0)) := by
            intro o
            rw [((Below.refl w2.heap.size w2).alloc (Nat.le_refl _) o).block _ hlt2]; exact hg2
          have HG3 : Hid (∀ o, (w2.alloc o).heap[w.heap.size]? = some (.cells #[.int .i64 0, .int .u64 0, .int .u64 0] 72 (0, 0))) := hg3
          have vn : Hid (r.1 == n) = Hid (r.1 == n) := rfl
          obtain ⟨vN, hvN⟩ : ∃ v, viewN r.2 = v := ⟨_, rfl⟩
          obtain ⟨vR, hvR⟩ : ∃ v, viewR m r.2 = v := ⟨_, rfl⟩
          obtain ⟨vW, hvW⟩ : ∃ v, viewW m r.2 = v := ⟨_, rfl⟩
          have NX : Hid ((vN == n) = false → Hid (findV n m (22 - (k + 1)) (k + 1) = V)) := fun h => (findV_next n m k hlt r HR.out d1 (by rw [d2, hvN, h]; rfl)).symm.trans hf.out
          have SN : Hid ((vN == n) = true → Hid (V = ⟨k, vN, vR, vW, true⟩)) := fun h => hf.out.symm.trans (by rw [findV_seen n m k hlt r HR.out d1 d2 (by rw [hvN]; exact h), hvN, hvR, hvW])
          rw [hvN, hvR, hvW]
          clear vn hvN hvR hvW hg2 hg3 B2 hb2 mf en hha
          cases d3 : (vN == n) with
          | false =>
            have F := NX.out d3
            clear NX SN
            go_wp2_with fail
            go_roundw
            case rel => exact ⟨k + 1, by omega, by go_num, F, HB2.out.alloc HB2.out.size _⟩
            case measure => simp [intOf]; omega
          | true =>
            have F := SN.out d3
            clear NX SN
            have c0 : w2.cell? ⟨w.heap.size, 0, none⟩ = some (.int .i64 0) := cell_of_row _ _ _ _ _ _ HG2.out
            have c1 : w2.cell? ⟨w.heap.size, 1, none⟩ = some (.int .u64 0) := cell_of_row _ _ _ _ _ _ HG2.out
            have c2 : w2.cell? ⟨w.heap.size, 2, none⟩ = some (.int .u64 0) := cell_of_row _ _ _ _ _ _ HG2.out
            have f0 : w2.frozen? ⟨w.heap.size, 0, none⟩ = false := frozen_of_row _ _ _ _ _ HG2.out
            have f1 : w2.frozen? ⟨w.heap.size, 1, none⟩ = false := frozen_of_row _ _ _ _ _ HG2.out
            have f2 : w2.frozen? ⟨w.heap.size, 2, none⟩ = false := frozen_of_row _ _ _ _ _ HG2.out
            go_wp2_with fail
            go_region
            all_goals go_wp2_with fail
            have hrow : ((((w2.setCell ⟨w.heap.size, 0, none⟩ (.int .i64 vN)).setCell ⟨w.heap.size, 1, none⟩ (.int .u64 vR)).setCell ⟨w.heap.size, 2, none⟩ (.int .u64 vW)).alloc (.cells #[.int .i64 vN, .int .u64 vR, .int .u64 vW] 72)).drew.heap[w.heap.size]? = some (.cells #[.int .i64 vN, .int .u64 vR, .int .u64 vW] 72 (0, 0)) := by
              show (World.alloc _ _).heap[w.heap.size]? = _
              rw [((Below.refl _ _).alloc (Nat.le_refl _) _).block _ (by simpa [World.setCell] using hlt2)]
              exact heap_setCell (heap_setCell (heap_setCell HG2.out 0 _) 1 _) 2 _
            refine bodyPost_ret (results_tct Try.results47 _ _ w.heap.size _ _ _ _ rfl hrow Try.underlying72 rfl vw_size) rfl ⟨by rw [F.out]; rfl, ?_⟩
            have B3 := below_trans HB0.out HB2.out
            refine Below.drew (Below.alloc (((B3.setCell (Nat.le_refl _) _).setCell (Nat.le_refl _) _).setCell (Nat.le_refl _) _) ?_ _)
            simpa [World.setCell] using B3.size
    · have hk2 : k = 22 := by omega
      subst hk2
      have F : Hid (V = ⟨-1, 0, 0, 0, false⟩) := hf.out.symm
      have hgr : wr.heap[w.heap.size]? = some (.cells #[.int .i64 0, .int .u64 0, .int .u64 0] 72 (0, 0)) := by rw [hbel.block _ hlt0]; exact HG0.out
      have HGR : Hid (wr.heap[w.heap.size]? = some (.cells #[.int .i64 0, .int .u64 0, .int .u64 0] 72 (0, 0))) := hgr
      clear hgr
      go_wp2_with (first | (refine wpList_store_rowTo rfl 72 (.tmp 5) (.tmp 41) rfl rfl w.heap.size #[.int .i64 0, .int .u64 0, .int .u64 0] rfl rfl 72 _ HGR.out vw_size rfl (vw_one _ _ _) ?_))
      refine bodyPost_ret (results_tct Try.results47 _ _ w.heap.size _ _ _ _ rfl (setRow_heap _ _ _ _ _ _ HGR.out) Try.underlying72 rfl vw_size) rfl ⟨by rw [F.out]; rfl, ?_⟩
      exact below_setRow (below_trans HB0.out hbel) (Nat.le_refl _) _

end Go.Proofs.Ytgcbdlfljplkbab
