/- The model's reading of Imm: l2Imm. -/
import Derived.Test.YtjjpklalihaanaaDoorDecC
namespace Go.Proofs.YtjjpklalihaanaaDoor
open Go.RowKit
set_option linter.unusedVariables false

set_option maxHeartbeats 1600000 in
theorem l2Imm_any (f : Fm) (x : Int) (h0 : 0 ≤ x) (h1 : x < 4294967296) (w : World) :
    Calls Tryd.prog 65 #[.string f.str, .int .u64 x] w fun e w' => e = .returned (.int .i64 (immV f x)) ∧ w' = w := by
  cases f
  case i =>
    simp only [Fm.str]
    go_enter Tryd.func65, Tryd.ntmps65
    go_wp2_with fail
    refine (l1Widen_any (x / 1048576) 12 (by decide) (by decide) _).mono ?_
    rintro e w1 ⟨rfl, rfl⟩
    go_wp2_with fail
    go_ret
    exact ⟨rfl, rfl⟩
  case s =>
    have A1 : IntKind.u64.wrap (x / 33554432 * 32) = x / 33554432 * 32 := by rw [IntKind.wrap_u64]; omega
    have A2 : bits .and .u64 (x / 128) 31 = x / 128 % 32 := and_low (x / 128) 5 (by omega) (by omega) (by decide)
    have A3 : bits .or .u64 (x / 33554432 * 32) (x / 128 % 32) = x / 33554432 * 32 + x / 128 % 32 := by
      have := or64 (x / 33554432 * 32) (x / 128 % 32) 0 5 (by omega) (by omega) (by omega) (by omega) (by omega) (by omega)
      simpa using this
    simp only [Fm.str]
    go_enter Tryd.func65, Tryd.ntmps65
    go_wp2_with fail
    refine (l1Widen_any (x / 33554432 * 32 + x / 128 % 32) 12 (by decide) (by decide) _).mono ?_
    rintro e w1 ⟨rfl, rfl⟩
    go_wp2_with fail
    go_ret
    exact ⟨rfl, rfl⟩
  case b =>
    have A1 : IntKind.u64.wrap (x / 2147483648 * 4096) = x / 2147483648 * 4096 := by rw [IntKind.wrap_u64]; omega
    have A2 : bits .and .u64 (x / 128) 1 = x / 128 % 2 := and_low (x / 128) 1 (by omega) (by omega) (by decide)
    have A3 : IntKind.u64.wrap (x / 128 % 2 * 2048) = x / 128 % 2 * 2048 := by rw [IntKind.wrap_u64]; omega
    have A4 : bits .or .u64 (x / 2147483648 * 4096) (x / 128 % 2 * 2048) = x / 2147483648 * 4096 + x / 128 % 2 * 2048 :=
      or64 (x / 2147483648 * 4096) (x / 128 % 2) 11 1 (by omega) (by omega) (by omega) (by omega) (by omega) (by omega)
    have A5 : bits .and .u64 (x / 33554432) 63 = x / 33554432 % 64 := and_low (x / 33554432) 6 (by omega) (by omega) (by decide)
    have A6 : IntKind.u64.wrap (x / 33554432 % 64 * 32) = x / 33554432 % 64 * 32 := by rw [IntKind.wrap_u64]; omega
    have A7 : bits .or .u64 (x / 2147483648 * 4096 + x / 128 % 2 * 2048) (x / 33554432 % 64 * 32) = x / 2147483648 * 4096 + x / 128 % 2 * 2048 + x / 33554432 % 64 * 32 :=
      or64 (x / 2147483648 * 4096 + x / 128 % 2 * 2048) (x / 33554432 % 64) 5 6 (by omega) (by omega) (by omega) (by omega) (by omega) (by omega)
    have A8 : bits .and .u64 (x / 256) 15 = x / 256 % 16 := and_low (x / 256) 4 (by omega) (by omega) (by decide)
    have A9 : IntKind.u64.wrap (x / 256 % 16 * 2) = x / 256 % 16 * 2 := by rw [IntKind.wrap_u64]; omega
    have A10 : bits .or .u64 (x / 2147483648 * 4096 + x / 128 % 2 * 2048 + x / 33554432 % 64 * 32) (x / 256 % 16 * 2) = x / 2147483648 * 4096 + x / 128 % 2 * 2048 + x / 33554432 % 64 * 32 + x / 256 % 16 * 2 :=
      or64 (x / 2147483648 * 4096 + x / 128 % 2 * 2048 + x / 33554432 % 64 * 32) (x / 256 % 16) 1 4 (by omega) (by omega) (by omega) (by omega) (by omega) (by omega)
    simp only [Fm.str]
    go_enter Tryd.func65, Tryd.ntmps65
    go_wp2_with fail
    refine (l1Widen_any (x / 2147483648 * 4096 + x / 128 % 2 * 2048 + x / 33554432 % 64 * 32 + x / 256 % 16 * 2) 13 (by decide) (by decide) _).mono ?_
    rintro e w1 ⟨rfl, rfl⟩
    go_wp2_with fail
    go_ret
    exact ⟨rfl, rfl⟩
  case u =>
    have A1 : IntKind.u64.wrap (x / 4096 * 4096) = x / 4096 * 4096 := by rw [IntKind.wrap_u64]; omega
    simp only [Fm.str]
    go_enter Tryd.func65, Tryd.ntmps65
    go_wp2_with fail
    refine (l1Widen_any (x / 4096 * 4096) 32 (by decide) (by decide) _).mono ?_
    rintro e w1 ⟨rfl, rfl⟩
    go_wp2_with fail
    go_ret
    exact ⟨rfl, rfl⟩
  case j =>
    have A1 : IntKind.u64.wrap (x / 2147483648 * 1048576) = x / 2147483648 * 1048576 := by rw [IntKind.wrap_u64]; omega
    have A2 : bits .and .u64 (x / 4096) 255 = x / 4096 % 256 := and_low (x / 4096) 8 (by omega) (by omega) (by decide)
    have A3 : IntKind.u64.wrap (x / 4096 % 256 * 4096) = x / 4096 % 256 * 4096 := by rw [IntKind.wrap_u64]; omega
    have A4 : bits .or .u64 (x / 2147483648 * 1048576) (x / 4096 % 256 * 4096) = x / 2147483648 * 1048576 + x / 4096 % 256 * 4096 :=
      or64 (x / 2147483648 * 1048576) (x / 4096 % 256) 12 8 (by omega) (by omega) (by omega) (by omega) (by omega) (by omega)
    have A5 : bits .and .u64 (x / 1048576) 1 = x / 1048576 % 2 := and_low (x / 1048576) 1 (by omega) (by omega) (by decide)
    have A6 : IntKind.u64.wrap (x / 1048576 % 2 * 2048) = x / 1048576 % 2 * 2048 := by rw [IntKind.wrap_u64]; omega
    have A7 : bits .or .u64 (x / 2147483648 * 1048576 + x / 4096 % 256 * 4096) (x / 1048576 % 2 * 2048) = x / 2147483648 * 1048576 + x / 4096 % 256 * 4096 + x / 1048576 % 2 * 2048 :=
      or64 (x / 2147483648 * 1048576 + x / 4096 % 256 * 4096) (x / 1048576 % 2) 11 1 (by omega) (by omega) (by omega) (by omega) (by omega) (by omega)
    have A8 : bits .and .u64 (x / 2097152) 1023 = x / 2097152 % 1024 := and_low (x / 2097152) 10 (by omega) (by omega) (by decide)
    have A9 : IntKind.u64.wrap (x / 2097152 % 1024 * 2) = x / 2097152 % 1024 * 2 := by rw [IntKind.wrap_u64]; omega
    have A10 : bits .or .u64 (x / 2147483648 * 1048576 + x / 4096 % 256 * 4096 + x / 1048576 % 2 * 2048) (x / 2097152 % 1024 * 2) = x / 2147483648 * 1048576 + x / 4096 % 256 * 4096 + x / 1048576 % 2 * 2048 + x / 2097152 % 1024 * 2 :=
      or64 (x / 2147483648 * 1048576 + x / 4096 % 256 * 4096 + x / 1048576 % 2 * 2048) (x / 2097152 % 1024) 1 10 (by omega) (by omega) (by omega) (by omega) (by omega) (by omega)
    simp only [Fm.str]
    go_enter Tryd.func65, Tryd.ntmps65
    go_wp2_with fail
    refine (l1Widen_any (x / 2147483648 * 1048576 + x / 4096 % 256 * 4096 + x / 1048576 % 2 * 2048 + x / 2097152 % 1024 * 2) 21 (by decide) (by decide) _).mono ?_
    rintro e w1 ⟨rfl, rfl⟩
    go_wp2_with fail
    go_ret
    exact ⟨rfl, rfl⟩
  case h =>
    have A1 : bits .and .u64 (x / 1048576) 63 = x / 1048576 % 64 := and_low (x / 1048576) 6 (by omega) (by omega) (by decide)
    have F : Hid (immV .h x = x / 1048576 % 64) := widen64 (x / 1048576 % 64) (by omega) (by omega)
    simp only [Fm.str]
    go_enter Tryd.func65, Tryd.ntmps65
    go_wp2_with fail
    go_ret
    exact ⟨by rw [F.out]; rfl, rfl⟩
  case w =>
    have A1 : bits .and .u64 (x / 1048576) 31 = x / 1048576 % 32 := and_low (x / 1048576) 5 (by omega) (by omega) (by decide)
    have F : Hid (immV .w x = x / 1048576 % 32) := widen64 (x / 1048576 % 32) (by omega) (by omega)
    simp only [Fm.str]
    go_enter Tryd.func65, Tryd.ntmps65
    go_wp2_with fail
    go_ret
    exact ⟨by rw [F.out]; rfl, rfl⟩
  case a =>
    have A1 : bits .and .u64 (x / 33554432) 3 = x / 33554432 % 4 := and_low (x / 33554432) 2 (by omega) (by omega) (by decide)
    have F : Hid (immV .a x = x / 33554432 % 4) := widen64 (x / 33554432 % 4) (by omega) (by omega)
    simp only [Fm.str]
    go_enter Tryd.func65, Tryd.ntmps65
    go_wp2_with fail
    go_ret
    exact ⟨by rw [F.out]; rfl, rfl⟩
  case c =>
    have F : Hid (immV .c x = x / 1048576) := widen64 (x / 1048576) (by omega) (by omega)
    simp only [Fm.str]
    go_enter Tryd.func65, Tryd.ntmps65
    go_wp2_with fail
    go_ret
    exact ⟨by rw [F.out]; rfl, rfl⟩
  case r =>
    have F : Hid (immV .r x = 0) := widen64 (0) (by omega) (by omega)
    simp only [Fm.str]
    go_enter Tryd.func65, Tryd.ntmps65
    go_wp2_with fail
    go_ret
    exact ⟨by rw [F.out]; rfl, rfl⟩
  case x =>
    have F : Hid (immV .x x = 0) := widen64 (0) (by omega) (by omega)
    simp only [Fm.str]
    go_enter Tryd.func65, Tryd.ntmps65
    go_wp2_with fail
    go_ret
    exact ⟨by rw [F.out]; rfl, rfl⟩

end Go.Proofs.YtjjpklalihaanaaDoor
