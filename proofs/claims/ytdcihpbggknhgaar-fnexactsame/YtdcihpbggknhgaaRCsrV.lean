/- impl.viewBy: the place that a number leads to, and how it is seen by it. impl.leftBy and the small functions: what a write leaves; who may reach a register. The program's NewCsrs, Place, ReadCsr and WriteCsr, and the model's NewCsrs. The program's WriteCsr. -/
import Derived.Test.YtdcihpbggknhgaaRCsrL
namespace Go.Proofs.YtdcihpbggknhgaaR
open Go.RowKit
set_option linter.unusedVariables false

structure Vw where
  at_ : Int
  num : Int
  rd : Int
  wr : Int
  ok : Bool

def Vw.cells (v : Vw) : Array Value := #[.int .i64 v.num, .int .u64 v.rd, .int .u64 v.wr]

def findV (n m : Int) : Nat → Nat → Vw
  | 0, _ => ⟨-1, 0, 0, 0, false⟩
  | f + 1, k => if ((ckAt k).1 == n) = true then ⟨k, n, 18446744073709551615, 18446744073709551615, true⟩
    else if ((ckAt k).2.sees && (viewN (ckAt k).2 == n)) = true then ⟨k, viewN (ckAt k).2, viewR m (ckAt k).2, viewW m (ckAt k).2, true⟩ else findV n m f (k + 1)

theorem findV_own (n m : Int) (k : Nat) (hk : k < 22) (r : Int × CK) (hr : r = ckAt k) (h : (r.1 == n) = true) : findV n m (22 - k) k = ⟨k, n, 18446744073709551615, 18446744073709551615, true⟩ := by
  subst hr
  rw [show 22 - k = (22 - (k + 1)) + 1 from by omega, findV, if_pos h]

theorem findV_seen (n m : Int) (k : Nat) (hk : k < 22) (r : Int × CK) (hr : r = ckAt k) (h : (r.1 == n) = false) (h2 : r.2.sees = true) (h3 : (viewN r.2 == n) = true) : findV n m (22 - k) k = ⟨k, viewN r.2, viewR m r.2, viewW m r.2, true⟩ := by
  subst hr
  rw [show 22 - k = (22 - (k + 1)) + 1 from by omega, findV, if_neg (by rw [h]; decide), h2, h3]; rfl

theorem findV_next (n m : Int) (k : Nat) (hk : k < 22) (r : Int × CK) (hr : r = ckAt k) (h : (r.1 == n) = false) (h2 : (r.2.sees && (viewN r.2 == n)) = false) : findV n m (22 - k) k = findV n m (22 - (k + 1)) (k + 1) := by
  subst hr
  rw [show 22 - k = (22 - (k + 1)) + 1 from by omega, findV, if_neg (by rw [h]; decide), h2, if_neg (by decide)]

theorem results_tct {P : Program} {fn : Func} {s p u : Tmp} {ty : TypeId} (h : fn.results = #[.tmp s, .cell p ty, .tmp u]) (tmps : Array Value) (w : World) (g : Nat) (t : TypeId) (cs : Array Value) (fr : Nat × Nat) (d : TypeDesc)
    (hp : tmps.getD p undef = .pointer (some ⟨g, 0, none⟩)) (hg : w.heap[g]? = some (.cells cs t fr))
    (hu : P.underlying ty = some d) (hd : (match d with | .struct _ | .array _ _ => true | _ => false) = true) (hi : (P.info? ty).map (·.size) = some cs.size) :
    (results fn tmps).run P w = .ok (.tuple #[tmps.getD s undef, .agg cs, tmps.getD u undef]) w := by
  have h1 : (results fn tmps).run P w = ((asAddr (tmps.getD p undef)).run P w).andThen fun a w₁ => ((loadVar ty a).run P w₁).andThen fun v w₂ => .ok (.tuple #[tmps.getD s undef, v, tmps.getD u undef]) w₂ := by
    simp only [results, h]
    simp [Sem.run_bind, Result.andThen]
  rw [h1, hp]
  simp [asAddr, run_loadVar_row w g t ty cs fr d hg hu hd hi]

/-- A row behind a store into it. -/
theorem heap_setCell {w : World} {g : Nat} {cs : Array Value} {t : TypeId} {fr : Nat × Nat} (h : w.heap[g]? = some (.cells cs t fr)) (i : Nat) (v : Value) :
    (w.setCell ⟨g, i, none⟩ v).heap[g]? = some (.cells (cs.setIfInBounds i v) t fr) := by
  simp [World.setCell, Array.getElem?_modify, h]

theorem vw_one (a b c : Int) : (#[Value.int .i64 a, .int .u64 b, .int .u64 c] : Array Value).all (·.oneCell') = true := by
  simp [Value.oneCell']

end Go.Proofs.YtdcihpbggknhgaaR

namespace Go.Proofs.YtdcihpbggknhgaaR
open Go.RowKit
set_option linter.unusedVariables false

def CK.goodB : CK → Bool
  | .addr e => decide (e < 4) | _ => true

theorem ck_good : ∀ k, k < 22 → (ckAt k).2.goodB = true := by decide

/-- The bits that a write may turn, less those that stay. -/
def turnsV (c : Int) (k : CK) (wr x : Int) : Int := if k.holds = true then bits .andNot .u64 wr (staysV c k x) else wr

def leftV (l : List Int) (k : Nat) (wr x : Int) : Int :=
  bits .or .u64 (bits .andNot .u64 (l.getD k 0) (turnsV (l.getD 16 0) (ckAt k).2 wr x)) (bits .and .u64 (fitV (ckAt k).2 x) (turnsV (l.getD 16 0) (ckAt k).2 wr x))

theorem fit_keeps1 (k : CK) (x : Int) (h0 : 0 ≤ x) (h1 : x < 18446744073709551616) (w : World) (p : Addr) (u : Value) (hp : w.cell? p = some u) :
    Calls Try.prog k.fitF #[k.val, .int .u64 x] w fun e w' => e = .returned (.int .u64 (fitV k x)) ∧ Below w.heap.size w w' ∧ w'.cell? p = some u :=
  (fit_any k x h0 h1 w).mono fun e w' h => ⟨h.1, h.2, (h.2.cell (World.block_lt_of_cell? _ _ hp)).trans hp⟩

theorem run_field1 (n : Int) (t : TypeId) (v : Value) (w : World) : (Instr.field 65 (.agg #[.int .i64 n, .iface t v]) 1).run Try.prog w = .ok (.iface t v) w := by kernel_rfl

theorem privOk_any (p : Int) (w : World) : Calls Try.prog 50 #[.int .i64 p] w fun e w' => e = .returned (.bool (privB p)) ∧ w' = w := by
  have F : Hid (privB p = ((p == 0) || (p == 1) || (p == 3))) := (rfl : privB p = _)
  cases d0 : (p == 0) with
  | true =>
    rw [d0] at F
    go_enter Try.func50, Try.ntmps50
    go_wp2_with fail
    go_ret
    exact ⟨by rw [F.out]; rfl, rfl⟩
  | false =>
    cases d1 : (p == 1) with
    | true =>
      rw [d0, d1] at F
      go_enter Try.func50, Try.ntmps50
      go_wp2_with fail
      go_ret
      exact ⟨by rw [F.out]; rfl, rfl⟩
    | false =>
      rw [d0, d1] at F
      go_enter Try.func50, Try.ntmps50
      go_wp2_with fail
      go_ret
      exact ⟨by rw [F.out]; rfl, rfl⟩

/-- Who may reach a register by its number. -/
def reachB (n p : Int) : Bool := privB p && decide (bits .and .i64 (n / 256) 3 ≤ p)

def onlyB (n : Int) : Bool := (bits .and .i64 (n / 1024) 3 == 3)

def fixB (n : Int) : Bool := (n == 769) || (n == 3860)

def fixV (n : Int) : Int := if n = 769 then 9223372036856090881 else 0

end Go.Proofs.YtdcihpbggknhgaaR

namespace Go.Proofs.YtdcihpbggknhgaaR
open Go.RowKit
set_option linter.unusedVariables false

theorem below_dN' {B : Nat} {a w : World} (h : Below B a w) (n : Nat) : Below B a (w.drewN n) := ⟨h.os, h.tape, h.output, h.size, h.block⟩

theorem own_nilW (w : World) (base : Nat) : w.ownsRow base 22 1 (.slice none 0 0) 0 (([] : List Int).map (Value.int .u64)) := ⟨rfl, .inl ⟨rfl, rfl⟩⟩

theorem findV_bd (n m : Int) : ∀ f k, k + f ≤ 22 → (findV n m f k).ok = true → ∃ j : Nat, j < 22 ∧ (findV n m f k).at_ = (j : Int) := by
  intro f
  induction f with
  | zero => intro k _ h; cases h
  | succ f ih =>
    intro k hk
    unfold findV
    split
    · intro _; exact ⟨k, by omega, rfl⟩
    · split
      · intro _; exact ⟨k, by omega, rfl⟩
      · exact ih (k + 1) (by omega)

/-- What the program's ReadCsr hands back. -/
def mayI (m : Nat) (l : List Int) (n p : Int) : Bool := fitsOk m l && reachB n p

def readIB (m : Nat) (l : List Int) (n p : Int) : Bool := mayI m l n p && ((findV n (l.getD 2 0) 22 0).ok || fixB n)

def readIV (m : Nat) (l : List Int) (n p : Int) : Int :=
  if mayI m l n p = true then (if (findV n (l.getD 2 0) 22 0).ok = true then bits .and .u64 (l.getD (findV n (l.getD 2 0) 22 0).at_.toNat 0) (findV n (l.getD 2 0) 22 0).rd else fixV n) else 0

theorem fitsOk_len {m : Nat} {l : List Int} (h : fitsOk m l = true) : m = 22 := by
  simp only [fitsOk, Bool.and_eq_true, decide_eq_true_eq] at h
  exact h.1

end Go.Proofs.YtdcihpbggknhgaaR

namespace Go.Proofs.YtdcihpbggknhgaaR
open Go.RowKit
set_option linter.unusedVariables false

def writeIB (m : Nat) (l : List Int) (n p : Int) : Bool := mayI m l n p && !onlyB n && ((findV n (l.getD 2 0) 22 0).ok || fixB n)

/-- The registers behind a write. -/
def writeI (l : List Int) (n x : Int) : List Int :=
  if (findV n (l.getD 2 0) 22 0).ok = true then l.set (findV n (l.getD 2 0) 22 0).at_.toNat (leftV l (findV n (l.getD 2 0) 22 0).at_.toNat (findV n (l.getD 2 0) 22 0).wr x) else l

def writeIL (m : Nat) (l : List Int) (n p x : Int) : List Int := if writeIB m l n p = true then writeI l n x else []

theorem own_lower {w : World} {base base' : Nat} {e : TypeId} {size : Nat} {v : Value} {n : Nat} {xs : List Value} (h : w.ownsRow base e size v n xs) (hb : base' ≤ base) : w.ownsRow base' e size v n xs := by
  obtain ⟨h1, h2⟩ := h
  refine ⟨h1, ?_⟩
  rcases h2 with h2 | ⟨g, cap, cur, hv, hg, r⟩
  · exact Or.inl h2
  · exact Or.inr ⟨g, cap, cur, hv, Nat.le_trans hb hg, r⟩

end Go.Proofs.YtdcihpbggknhgaaR
