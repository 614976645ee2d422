/- impl.leftBy and the small functions: what a write leaves; who may reach a register. -/
import Derived.Test.YtaicnnkcdpdhaacDoorCsrM
namespace Go.Proofs.YtaicnnkcdpdhaacDoor
open Go.RowKit
set_option linter.unusedVariables false

def CK.goodB : CK → Bool
  | .addr e => decide (e < 4) | _ => true

theorem ck_good : ∀ k, k < 22 → (ckAt k).2.goodB = true := by decide

/-- The bits that a write may turn, less those that stay. -/
def turnsV (c : Int) (k : CK) (wr x : Int) : Int := if k.holds = true then bits .andNot .u64 wr (staysV c k x) else wr

def leftV (l : List Int) (k : Nat) (wr x : Int) : Int :=
  bits .or .u64 (bits .andNot .u64 (l.getD k 0) (turnsV (l.getD 16 0) (ckAt k).2 wr x)) (bits .and .u64 (fitV (ckAt k).2 x) (turnsV (l.getD 16 0) (ckAt k).2 wr x))

theorem fit_keeps1 (k : CK) (x : Int) (h0 : 0 ≤ x) (h1 : x < 18446744073709551616) (w : World) (p : Addr) (u : Value) (hp : w.cell? p = some u) :
    Calls Tryd.prog k.fitF #[k.val, .int .u64 x] w fun e w' => e = .returned (.int .u64 (fitV k x)) ∧ Below w.heap.size w w' ∧ w'.cell? p = some u :=
  (fit_any k x h0 h1 w).mono fun e w' h => ⟨h.1, h.2, (h.2.cell (World.block_lt_of_cell? _ _ hp)).trans hp⟩

theorem run_field1 (n : Int) (t : TypeId) (v : Value) (w : World) : (Instr.field 61 (.agg #[.int .i64 n, .iface t v]) 1).run Tryd.prog w = .ok (.iface t v) w := by kernel_rfl

theorem privOk_any (p : Int) (w : World) : Calls Tryd.prog 33 #[.int .i64 p] w fun e w' => e = .returned (.bool (privB p)) ∧ w' = w := by
  have F : Hid (privB p = ((p == 0) || (p == 1) || (p == 3))) := (rfl : privB p = _)
  cases d0 : (p == 0) with
  | true =>
    rw [d0] at F
    go_enter Tryd.func33, Tryd.ntmps33
    go_wp2_with fail
    go_ret
    exact ⟨by rw [F.out]; rfl, rfl⟩
  | false =>
    cases d1 : (p == 1) with
    | true =>
      rw [d0, d1] at F
      go_enter Tryd.func33, Tryd.ntmps33
      go_wp2_with fail
      go_ret
      exact ⟨by rw [F.out]; rfl, rfl⟩
    | false =>
      rw [d0, d1] at F
      go_enter Tryd.func33, Tryd.ntmps33
      go_wp2_with fail
      go_ret
      exact ⟨by rw [F.out]; rfl, rfl⟩

/-- Who may reach a register by its number. -/
def reachB (n p : Int) : Bool := privB p && decide (bits .and .i64 (n / 256) 3 ≤ p)

def onlyB (n : Int) : Bool := (bits .and .i64 (n / 1024) 3 == 3)

def fixB (n : Int) : Bool := (n == 769) || (n == 3860)

def fixV (n : Int) : Int := if n = 769 then 9223372036856090881 else 0

end Go.Proofs.YtaicnnkcdpdhaacDoor
