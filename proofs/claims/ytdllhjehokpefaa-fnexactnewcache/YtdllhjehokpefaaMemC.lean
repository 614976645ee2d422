/- Contracts over memory: the laws' helpers, and chapter 1's functions, the program's and the model's. -/
import Derived.Test.YtdllhjehokpefaaProg
import Derived.Test.YtdllhjehokpefaaMem
namespace Go.Proofs.Ytdllhjehokpefaa
open Go.RowKit
set_option linter.unusedVariables false

theorem Try.info5 : (Try.prog.info? 5).map (fun i => (i.zero, i.size, i.bytes)) = some (some (.int .u8 0), 1, 1) := by kernel_rfl

/-- What impl.ramPlace answers. -/
def placeB (n : Nat) (addr size : Int) : Int := if okB n addr size then addr - 2147483648 else 0

/-- What Load answers. -/
def loadB (zs : List Int) (n : Nat) (addr size : Int) : Int := if okB n addr size then le zs (addr - 2147483648).toNat size.toNat else 0

/-- Eight bytes of a memory, a name each, and the number that they are. -/
theorem eight (g p n : Nat) (zs : List Int) (w : World) (hz : zs.length = n) (hp : p + 8 ≤ n) (hs : Sl .u8 w (some ⟨g, 0, none⟩) zs) (hw : ∀ y ∈ zs, (Lit.int .u8 y).wf = true) :
    ∃ b0 b1 b2 b3 b4 b5 b6 b7 : Int, ∃ B : { bs : List Int // bs = [b0, b1, b2, b3, b4, b5, b6, b7] },
      w.cell? ⟨g, p, none⟩ = some (.int .u8 b0) ∧ w.cell? ⟨g, p + 1, none⟩ = some (.int .u8 b1) ∧ w.cell? ⟨g, p + 2, none⟩ = some (.int .u8 b2) ∧ w.cell? ⟨g, p + 3, none⟩ = some (.int .u8 b3) ∧
      w.cell? ⟨g, p + 4, none⟩ = some (.int .u8 b4) ∧ w.cell? ⟨g, p + 5, none⟩ = some (.int .u8 b5) ∧ w.cell? ⟨g, p + 6, none⟩ = some (.int .u8 b6) ∧ w.cell? ⟨g, p + 7, none⟩ = some (.int .u8 b7) ∧
      Hid (∀ i, 0 ≤ B.1.getD i 0 ∧ B.1.getD i 0 ≤ 255) ∧ Hid (le B.1 0 8 = le zs p 8) := by
  have c : ∀ i, i < 8 → w.cell? ⟨g, p + i, none⟩ = some (.int .u8 (zs.getD (p + i) 0)) := by
    intro i hi
    obtain ⟨b, off, e, _, hc⟩ := hs (p + i) (by omega)
    simp only [Option.some.injEq, Addr.mk.injEq, and_true] at e
    obtain ⟨rfl, rfl⟩ := e
    rw [Nat.zero_add] at hc
    exact hc
  have bd := byte_bd hw
  refine ⟨_, _, _, _, _, _, _, _, ⟨[zs.getD p 0, zs.getD (p + 1) 0, zs.getD (p + 2) 0, zs.getD (p + 3) 0, zs.getD (p + 4) 0, zs.getD (p + 5) 0, zs.getD (p + 6) 0, zs.getD (p + 7) 0], rfl⟩, c 0 (by omega), c 1 (by omega), c 2 (by omega), c 3 (by omega), c 4 (by omega), c 5 (by omega), c 6 (by omega), c 7 (by omega), ?_, ?_⟩
  · intro i
    match i with
    | 0 => exact bd p
    | 1 => exact bd (p + 1)
    | 2 => exact bd (p + 2)
    | 3 => exact bd (p + 3)
    | 4 => exact bd (p + 4)
    | 5 => exact bd (p + 5)
    | 6 => exact bd (p + 6)
    | 7 => exact bd (p + 7)
    | i + 8 => simp
  · show le [zs.getD p 0, zs.getD (p + 1) 0, zs.getD (p + 2) 0, zs.getD (p + 3) 0, zs.getD (p + 4) 0, zs.getD (p + 5) 0, zs.getD (p + 6) 0, zs.getD (p + 7) 0] 0 8 = le zs p 8
    rfl

/-- A slice of no bytes whose block is new. -/
theorem own_empty (w : World) (o : Obj) (ho : o = .cells #[] 5 (0, 0)) : (w.alloc o).ownsRow w.heap.size 5 1 (.slice (some ⟨w.heap.size, 0, none⟩) 0 0) 0 (([] : List Int).map (Value.int .u8)) := by
  subst ho
  exact World.ownsRow_lit w #[] 0 (Nat.le_refl _) (by unfold maxLen; omega) rfl

def storeLen (zs : List Int) (n : Nat) (addr size x : Int) : Nat := (storeB zs n addr size x).length

theorem byte_of (x : Int) (k : Nat) : IntKind.u8.wrap (x / 2 ^ (8 * k)) = x / 256 ^ k % 256 := by
  rw [pow_8, IntKind.wrap_u8']

theorem own_nil (w : World) (base : Nat) : w.ownsRow base 5 1 (.slice none 0 0) 0 (([] : List Int).map (Value.int .u8)) := World.ownsRow_nil w base 5 1

def dg (zs : List Int) : Int := zs.foldl (fun h b => (h * 257 + b + 1) % 1000000007) 0

theorem dg_acc (zs : List Int) : ∀ h : Int, 0 ≤ h → h < 1000000007 → 0 ≤ zs.foldl (fun h b => (h * 257 + b + 1) % 1000000007) h ∧ zs.foldl (fun h b => (h * 257 + b + 1) % 1000000007) h < 1000000007 := by
  induction zs with
  | nil => intro h h0 h1; exact ⟨h0, h1⟩
  | cons z zs ih => intro h h0 h1; rw [List.foldl_cons]; exact ih _ (by omega) (by omega)

theorem dg_bd (zs : List Int) : 0 ≤ dg zs ∧ dg zs < 1000000007 := dg_acc zs 0 (by omega) (by omega)

theorem dg_take (zs : List Int) (k : Nat) (hk : k < zs.length) : dg (zs.take (k + 1)) = (dg (zs.take k) * 257 + zs.getD k 0 + 1) % 1000000007 := by
  have e : zs.getD k 0 = zs[k] := by simp [List.getD, List.getElem?_eq_getElem hk]
  unfold dg
  rw [List.take_succ_eq_append_getElem hk, List.foldl_append, e]
  rfl

def digB (n : Nat) (zs : List Int) : Int := if ramOkB n then dg zs else 0

end Go.Proofs.Ytdllhjehokpefaa
