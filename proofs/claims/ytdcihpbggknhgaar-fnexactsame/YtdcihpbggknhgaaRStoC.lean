/- Memory stored into and loaded from: what the law over draws needs; strings out of bytes. -/
import Derived.Test.YtdcihpbggknhgaaRMemC
import Derived.Test.YtdcihpbggknhgaaRPutP
import Derived.Test.YtdcihpbggknhgaaRDecC
import Derived.Laws.BytesArg
namespace Go.Proofs.YtdcihpbggknhgaaR
open Go.RowKit
set_option linter.unusedVariables false

theorem widen_low (m : Nat) (h1 : 1 ≤ m) (h8 : m ≤ 8) (x : Int) : widen (8 * m) (x % 256 ^ m) = widen (8 * m) x := by
  unfold widen
  have e : IntKind.u64.wrap (x % 256 ^ m * 2 ^ (64 - 8 * m)) = IntKind.u64.wrap (x * 2 ^ (64 - 8 * m)) := by
    rw [IntKind.wrap_u64, IntKind.wrap_u64, ← pow_8]
    have e2 : (18446744073709551616 : Int) = 2 ^ (64 - 8 * m) * 2 ^ (8 * m) := by
      rw [← Int.pow_add, show (64 - 8 * m) + 8 * m = 64 from by omega]; rfl
    have hp : (0 : Int) < 2 ^ (64 - 8 * m) := Int.pow_pos (by omega)
    rw [e2, Int.mul_comm (x % 2 ^ (8 * m)), Int.mul_comm x, Int.mul_emod_mul_of_pos _ _ hp, Int.mul_emod_mul_of_pos _ _ hp, Int.emod_emod]
  rw [e]

/-- A string out of bytes that lie somewhere. -/
theorem conv_sl (a : Option Addr) (n c : Nat) (zs : List Int) (w : World) (hz : zs.length = n) (hs : Sl .u8 w a zs) :
    (convert 24 9 (.slice a n c)).run Try.prog w = .ok (.string (strOfNums zs)) w := by
  by_cases h0 : n = 0
  · subst h0
    have hz2 : zs = [] := List.eq_nil_of_length_eq_zero hz
    subst hz2
    rw [run_convert_bytes_string w 24 9 5 a 0 c Try.underlying24 Try.underlying5 Try.underlying9]
    cases a <;> simp [Conv.bytesToString, loadCells, strOfNums] <;> rfl
  · obtain ⟨b, off, rfl, _, _⟩ := hs 0 (by omega)
    refine run_convert_bytes_arg w 24 5 Try.underlying24 Try.underlying5 b off n c zs hz (fun i hi => ?_) 9 Try.underlying9
    obtain ⟨b', off', e, _, hc⟩ := hs i (by omega)
    simp only [Option.some.injEq, Addr.mk.injEq, and_true] at e
    obtain ⟨rfl, rfl⟩ := e
    exact hc

theorem Sl.dN {k : IntKind} {w : World} {a : Option Addr} {zs : List Int} (h : Sl k w a zs) (m : Nat) : Sl k (w.drewN m) a zs := h

/-- The first bytes, and those from a place on. -/
theorem Sl.first {w : World} {b off : Nat} {zs : List Int} (h : Sl .u8 w (some ⟨b, off, none⟩) zs) (f : Nat) : Sl .u8 w (some ⟨b, off, none⟩) (zs.take f) := by
  intro i hi
  rw [List.length_take] at hi
  obtain ⟨b', off', e, hlt, hc⟩ := h i (by omega)
  refine ⟨b', off', e, hlt, ?_⟩
  have e2 : (zs.take f).getD i 0 = zs.getD i 0 := by simp [List.getD, show i < f from by omega]
  rw [e2]; exact hc

theorem Sl.from {w : World} {b off : Nat} {zs : List Int} (h : Sl .u8 w (some ⟨b, off, none⟩) zs) (f : Nat) : Sl .u8 w (some ⟨b, off + f, none⟩) (zs.drop f) := by
  intro i hi
  rw [List.length_drop] at hi
  obtain ⟨b', off', e, hlt, hc⟩ := h (f + i) (by omega)
  simp only [Option.some.injEq, Addr.mk.injEq, and_true] at e
  obtain ⟨rfl, rfl⟩ := e
  refine ⟨_, _, rfl, hlt, ?_⟩
  have e2 : (zs.drop f).getD i 0 = zs.getD (f + i) 0 := by simp [List.getD]
  rw [e2, Nat.add_assoc]; exact hc

theorem str_inj {xs ys : List Int} (hx : ∀ y ∈ xs, (Lit.int .u8 y).wf = true) (hy : ∀ y ∈ ys, (Lit.int .u8 y).wf = true) (h : strOfNums xs = strOfNums ys) : xs = ys := by
  have h2 : xs.map (fun n => UInt8.ofNat n.toNat) = ys.map (fun n => UInt8.ofNat n.toNat) := by
    rw [← strOfNums_data, ← strOfNums_data, h]
  have bd : ∀ {l : List Int}, (∀ y ∈ l, (Lit.int .u8 y).wf = true) → l.map (fun n => ((UInt8.ofNat n.toNat).toNat : Int)) = l := by
    intro l hl
    conv => rhs; rw [← List.map_id l]
    refine List.map_congr_left fun y hy => ?_
    have := hl y hy
    have hb : 0 ≤ y ∧ y ≤ 255 := by simpa [Lit.wf, IntKind.min, IntKind.max, IntKind.signed, IntKind.bits] using this
    simp
    omega
  rw [← bd hx, ← bd hy]
  have h3 := congrArg (List.map (fun u : UInt8 => (u.toNat : Int))) h2
  rw [List.map_map, List.map_map] at h3
  exact h3

end Go.Proofs.YtdcihpbggknhgaaR
