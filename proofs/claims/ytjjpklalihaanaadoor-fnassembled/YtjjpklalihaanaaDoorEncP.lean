/- Laying a word out: the program's way and the model's, and that both give a word back that was read. -/
import Derived.Test.YtjjpklalihaanaaDoorDecQ
namespace Go.Proofs.YtjjpklalihaanaaDoor
open Go.RowKit
set_option linter.unusedVariables false

/-- A number as a word. -/
def u64 (y : Int) : Int := IntKind.u64.wrap y

theorem u64_range (y : Int) : 0 ≤ u64 y ∧ u64 y < 18446744073709551616 := by
  unfold u64; rw [IntKind.wrap_u64]; omega

/-- The program's word. -/
def layI1 (f : Fm) (o z m : Int) (rd : Int) : Int := if f.hasRd then bits .or .u64 (bitsI f o z m) (IntKind.u64.wrap (fld (u64 rd) 0 5 * 128)) else bitsI f o z m

def layI2 (f : Fm) (o z m : Int) (rd a : Int) : Int := if f.hasA then bits .or .u64 (layI1 f o z m rd) (IntKind.u64.wrap (fld (u64 a) 0 5 * 32768)) else layI1 f o z m rd

def layI3 (f : Fm) (o z m : Int) (rd a b : Int) : Int := if f.hasB then bits .or .u64 (layI2 f o z m rd a) (IntKind.u64.wrap (fld (u64 b) 0 5 * 1048576)) else layI2 f o z m rd a

def layP (imm : Int) (acc : Int) (l : List (Nat × Nat × Nat)) : Int := l.foldl (fun acc p => bits .or .u64 acc (IntKind.u64.wrap (fld (u64 imm) p.2.2 p.2.1 * 2 ^ p.1))) acc

def layI (f : Fm) (o z m : Int) (i : Ins) : Int := layP i.imm (layI3 f o z m i.rd i.a i.b) f.pcs

/-- The model's word. -/
def base1 (o : Int) (i : Ins) : Int := bits .or .u64 (bits .or .u64 (bits .or .u64 o (i.rd * 128)) (i.a * 32768)) (i.b * 1048576)

def baseS (o z : Int) (i : Ins) : Int := if 0 < z then bits .or .u64 (base1 o i) (z * 4096) else base1 o i

def layS (f : Fm) (o z m : Int) (i : Ins) : Int :=
  match f with
  | .r => bits .or .u64 (baseS o z i) (m * 33554432)
  | .i => bits .or .u64 (baseS o z i) (u64 i.imm % 4096 * 1048576)
  | .c => bits .or .u64 (baseS o z i) (u64 i.imm % 4096 * 1048576)
  | .h => bits .or .u64 (bits .or .u64 (baseS o z i) (u64 i.imm % 64 * 1048576)) (m * 67108864)
  | .w => bits .or .u64 (bits .or .u64 (baseS o z i) (u64 i.imm % 32 * 1048576)) (m * 33554432)
  | .s => bits .or .u64 (bits .or .u64 (baseS o z i) (u64 i.imm % 32 * 128)) (u64 i.imm / 32 % 128 * 33554432)
  | .b => bits .or .u64 (bits .or .u64 (bits .or .u64 (bits .or .u64 (baseS o z i) (u64 i.imm / 2048 % 2 * 128)) (u64 i.imm / 2 % 16 * 256)) (u64 i.imm / 32 % 64 * 33554432)) (u64 i.imm / 4096 % 2 * 2147483648)
  | .u => bits .or .u64 (baseS o z i) (u64 i.imm / 4096 % 1048576 * 4096)
  | .j => bits .or .u64 (bits .or .u64 (bits .or .u64 (bits .or .u64 (baseS o z i) (u64 i.imm / 4096 % 256 * 4096)) (u64 i.imm / 2048 % 2 * 1048576)) (u64 i.imm / 2 % 1024 * 2097152)) (u64 i.imm / 1048576 % 2 * 2147483648)
  | .a => bits .or .u64 (bits .or .u64 (baseS o z i) (u64 i.imm % 4 * 33554432)) (m * 134217728)
  | .x => bits .or .u64 (baseS o z i) (m * 1048576)

/-- What was widened has its low bits. -/
theorem wid12 (v : Int) (h0 : 0 ≤ v) (h1 : v < 4096) : ∃ q : Int, 0 ≤ q ∧ u64 (wrap64 (widen 12 v)) = v + q * 4096 := by
  have e : (2 : Int) ^ (64 - 12) = 4503599627370496 := by decide
  unfold u64 widen
  rw [e, IntKind.wrap_u64, IntKind.wrap_u64, IntKind.wrap_u64]
  unfold wrap64
  by_cases h : v < 2048
  · exact ⟨0, by omega, by omega⟩
  · exact ⟨4503599627370495, by omega, by omega⟩

theorem wid13 (v : Int) (h0 : 0 ≤ v) (h1 : v < 8192) : ∃ q : Int, 0 ≤ q ∧ u64 (wrap64 (widen 13 v)) = v + q * 8192 := by
  have e : (2 : Int) ^ (64 - 13) = 2251799813685248 := by decide
  unfold u64 widen
  rw [e, IntKind.wrap_u64, IntKind.wrap_u64, IntKind.wrap_u64]
  unfold wrap64
  by_cases h : v < 4096
  · exact ⟨0, by omega, by omega⟩
  · exact ⟨2251799813685247, by omega, by omega⟩

theorem wid21 (v : Int) (h0 : 0 ≤ v) (h1 : v < 2097152) : ∃ q : Int, 0 ≤ q ∧ u64 (wrap64 (widen 21 v)) = v + q * 2097152 := by
  have e : (2 : Int) ^ (64 - 21) = 8796093022208 := by decide
  unfold u64 widen
  rw [e, IntKind.wrap_u64, IntKind.wrap_u64, IntKind.wrap_u64]
  unfold wrap64
  by_cases h : v < 1048576
  · exact ⟨0, by omega, by omega⟩
  · exact ⟨8796093022207, by omega, by omega⟩

theorem wid32 (v : Int) (h0 : 0 ≤ v) (h1 : v < 4294967296) : ∃ q : Int, 0 ≤ q ∧ u64 (wrap64 (widen 32 v)) = v + q * 4294967296 := by
  have e : (2 : Int) ^ (64 - 32) = 4294967296 := by decide
  unfold u64 widen
  rw [e, IntKind.wrap_u64, IntKind.wrap_u64, IntKind.wrap_u64]
  unfold wrap64
  by_cases h : v < 2147483648
  · exact ⟨0, by omega, by omega⟩
  · exact ⟨4294967295, by omega, by omega⟩

theorem wid64 (v : Int) (h0 : 0 ≤ v) (h1 : v < 4294967296) : u64 (wrap64 (widen 64 v)) = v := by
  rw [widen64 v h0 (by omega)]; unfold u64; rw [IntKind.wrap_u64]; omega

theorem u64_small (v : Int) (h0 : 0 ≤ v) (h1 : v < 32) : u64 v = v := by
  unfold u64; rw [IntKind.wrap_u64]; omega

theorem wrapUe (y : Int) (h0 : 0 ≤ y) (h1 : y < 18446744073709551616) : IntKind.u64.wrap y = y := by
  rw [IntKind.wrap_u64]; omega

end Go.Proofs.YtjjpklalihaanaaDoor
