/- impl.viewBy: the place that a number leads to, and how it is seen by it. -/
import Derived.Test.YtaicnnkcdpdhaacDoorCsrL
namespace Go.Proofs.YtaicnnkcdpdhaacDoor
open Go.RowKit
set_option linter.unusedVariables false

structure Vw where
  at_ : Int
  num : Int
  rd : Int
  wr : Int
  ok : Bool

def Vw.cells (v : Vw) : Array Value := #[.int .i64 v.num, .int .u64 v.rd, .int .u64 v.wr]

def findV (n m : Int) : Nat → Nat → Vw
  | 0, _ => ⟨-1, 0, 0, 0, false⟩
  | f + 1, k => if ((ckAt k).1 == n) = true then ⟨k, n, 18446744073709551615, 18446744073709551615, true⟩
    else if ((ckAt k).2.sees && (viewN (ckAt k).2 == n)) = true then ⟨k, viewN (ckAt k).2, viewR m (ckAt k).2, viewW m (ckAt k).2, true⟩ else findV n m f (k + 1)

theorem findV_own (n m : Int) (k : Nat) (hk : k < 22) (r : Int × CK) (hr : r = ckAt k) (h : (r.1 == n) = true) : findV n m (22 - k) k = ⟨k, n, 18446744073709551615, 18446744073709551615, true⟩ := by
  subst hr
  rw [show 22 - k = (22 - (k + 1)) + 1 from by omega, findV, if_pos h]

theorem findV_seen (n m : Int) (k : Nat) (hk : k < 22) (r : Int × CK) (hr : r = ckAt k) (h : (r.1 == n) = false) (h2 : r.2.sees = true) (h3 : (viewN r.2 == n) = true) : findV n m (22 - k) k = ⟨k, viewN r.2, viewR m r.2, viewW m r.2, true⟩ := by
  subst hr
  rw [show 22 - k = (22 - (k + 1)) + 1 from by omega, findV, if_neg (by rw [h]; decide), h2, h3]; rfl

theorem findV_next (n m : Int) (k : Nat) (hk : k < 22) (r : Int × CK) (hr : r = ckAt k) (h : (r.1 == n) = false) (h2 : (r.2.sees && (viewN r.2 == n)) = false) : findV n m (22 - k) k = findV n m (22 - (k + 1)) (k + 1) := by
  subst hr
  rw [show 22 - k = (22 - (k + 1)) + 1 from by omega, findV, if_neg (by rw [h]; decide), h2, if_neg (by decide)]

theorem results_tct {P : Program} {fn : Func} {s p u : Tmp} {ty : TypeId} (h : fn.results = #[.tmp s, .cell p ty, .tmp u]) (tmps : Array Value) (w : World) (g : Nat) (t : TypeId) (cs : Array Value) (fr : Nat × Nat) (d : TypeDesc)
    (hp : tmps.getD p undef = .pointer (some ⟨g, 0, none⟩)) (hg : w.heap[g]? = some (.cells cs t fr))
    (hu : P.underlying ty = some d) (hd : (match d with | .struct _ | .array _ _ => true | _ => false) = true) (hi : (P.info? ty).map (·.size) = some cs.size) :
    (results fn tmps).run P w = .ok (.tuple #[tmps.getD s undef, .agg cs, tmps.getD u undef]) w := by
  have h1 : (results fn tmps).run P w = ((asAddr (tmps.getD p undef)).run P w).andThen fun a w₁ => ((loadVar ty a).run P w₁).andThen fun v w₂ => .ok (.tuple #[tmps.getD s undef, v, tmps.getD u undef]) w₂ := by
    simp only [results, h]
    simp [Sem.run_bind, Result.andThen]
  rw [h1, hp]
  simp [asAddr, run_loadVar_row w g t ty cs fr d hg hu hd hi]

/-- A row behind a store into it. -/
theorem heap_setCell {w : World} {g : Nat} {cs : Array Value} {t : TypeId} {fr : Nat × Nat} (h : w.heap[g]? = some (.cells cs t fr)) (i : Nat) (v : Value) :
    (w.setCell ⟨g, i, none⟩ v).heap[g]? = some (.cells (cs.setIfInBounds i v) t fr) := by
  simp [World.setCell, Array.getElem?_modify, h]

theorem vw_one (a b c : Int) : (#[Value.int .i64 a, .int .u64 b, .int .u64 c] : Array Value).all (·.oneCell') = true := by
  simp [Value.oneCell']

end Go.Proofs.YtaicnnkcdpdhaacDoor
