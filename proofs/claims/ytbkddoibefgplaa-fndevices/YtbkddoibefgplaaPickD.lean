/- The laws' pick: the number that it is. -/
import Derived.Test.YtbkddoibefgplaaMemC
namespace Go.Proofs.Ytbkddoibefgplaa
open Go.RowKit
set_option linter.unusedVariables false

/-- What pick has after some bytes. -/
def pickF (n : Int) (zs : List Int) : Int := zs.foldl (fun k y => (k * 61 + y) % 1000003) n

def pickV (zs : List Int) (m : Int) : Int := pickF zs.length zs % m

theorem pickF_bd (zs : List Int) (n : Int) (h0 : 0 ≤ n) (h1 : n ≤ 1000003) : 0 ≤ pickF n zs ∧ pickF n zs ≤ 1000003 := by
  induction zs generalizing n with
  | nil => exact ⟨h0, h1⟩
  | cons z zs ih => exact ih ((n * 61 + z) % 1000003) (by omega) (by omega)

theorem pickF_more (zs : List Int) (n : Int) (j : Nat) (hj : j < zs.length) : pickF n (zs.take (j + 1)) = (pickF n (zs.take j) * 61 + zs.getD j 0) % 1000003 := by
  have h1 : zs.take (j + 1) = zs.take j ++ [zs.getD j 0] := by
    rw [List.take_succ_eq_append_getElem hj]
    simp [List.getD, List.getElem?_eq_getElem hj]
  rw [h1]
  unfold pickF
  rw [List.foldl_append]
  rfl

theorem pickV_bd (zs : List Int) (m : Int) (hm : 0 < m) : 0 ≤ pickV zs m ∧ pickV zs m < m := ⟨Int.emod_nonneg _ (by omega), Int.emod_lt_of_pos _ hm⟩

set_option maxHeartbeats 1600000 in
theorem pick_det (a : Option Addr) (n cap : Nat) (zs : List Int) (m : Int) (w : World) (hz : zs.length = n) (hn : n ≤ 4097) (hs : Sl .u8 w a zs) (hw : ∀ y ∈ zs, (Lit.int .u8 y).wf = true) (hm : 0 < m) (hm2 : m ≤ 1099511627776) :
    Calls Try.prog 16 #[.slice a n cap, .int .i64 m] w fun e w' => e = .returned (.int .i64 (pickV zs m)) ∧ w' = w := by
  have HS : Hid (Sl .u8 w a zs) := hs
  have HW : Hid (∀ y ∈ zs, (Lit.int .u8 y).wf = true) := hw
  have HZ : Hid (zs.length = n) := hz
  have HV : Hid (pickV zs m = pickF n (zs.take n) % m) := by show _ = _; rw [← hz, List.take_length]; rfl
  generalize pickV zs m = V at *
  clear hs hw hz
  go_enter Try.func16, Try.ntmps16
  go_wp2_with fail
  go_loopw [5, 6] (fun k i wr => ∃ (x : Int) (j : Nat), k = .int .i64 x ∧ i = .int .i64 j ∧ j ≤ n ∧ (0 ≤ x ∧ x ≤ 1000003) ∧ Hid (x = pickF n (zs.take j)) ∧ Hid (wr = w)) (fun _ i _ => n - (intOf i).toNat)
  case atStart => exact ⟨n, 0, rfl, rfl, by omega, by omega, rfl, rfl⟩
  case round =>
    obtain ⟨x, j, rfl, rfl, hj, ⟨hx0, hx1⟩, hxf, hwr⟩ := hrel
    by_cases hlt : j < n
    · obtain ⟨b, off, rfl, hb, hc⟩ := HS.out j (by have := HZ.out; omega)
      have HF := Hid.out hxf ▸ pickF_more zs n j (by have := HZ.out; omega)
      have hy : 0 ≤ zs.getD j 0 ∧ zs.getD j 0 ≤ 255 := by
        have hmem : zs.getD j 0 ∈ zs := by
          rw [List.getD_eq_getElem?_getD, List.getElem?_eq_getElem (by have := HZ.out; omega)]
          exact List.getElem_mem _
        simpa [Lit.wf, IntKind.min, IntKind.max, IntKind.signed, IntKind.bits] using HW.out _ hmem
      have hcw : wr.cell? ⟨b, off + j, none⟩ = some (.int .u8 (zs.getD j 0)) := by rw [hwr.out]; exact hc
      have HG : Hid (pickF n (zs.take (j + 1)) = (x * 61 + zs.getD j 0) % 1000003) := by show _ = _; rw [hxf.out]; exact pickF_more zs n j (by have := HZ.out; omega)
      clear HF
      generalize zs.getD j 0 = y at *
      have e1 : wrap64 (x * 61) = x * 61 := by unfold wrap64; omega
      have e2 : wrap64 (x * 61 + y) = x * 61 + y := by unfold wrap64; omega
      have e3 : (x * 61 + y).tmod 1000003 = (x * 61 + y) % 1000003 := Int.tmod_eq_emod_of_nonneg (by omega)
      have e4 : IntKind.i64.wrap y = y := by rw [IntKind.wrap_i64]; omega
      have d1 : decide ((j : Int) < (n : Int)) = true := by simp; omega
      obtain ⟨q, hq, hq0, hq1⟩ : ∃ q, (x * 61 + y) % 1000003 = q ∧ 0 ≤ q ∧ q ≤ 1000003 := ⟨_, rfl, by omega, by omega⟩
      rw [hq] at HG
      clear hc
      go_wp2_with fail
      go_roundw
      case rel => exact ⟨_, j + 1, rfl, by go_num, by omega, by first | exact ⟨hq0, hq1⟩ | (constructor <;> omega), HG.out.symm, hwr⟩
      case measure => simp [intOf]; omega
    · have hjn : j = n := by omega
      subst hjn
      have d1 : decide ((j : Int) < (j : Int)) = false := by simp
      have e3 : x.tmod m = x % m := Int.tmod_eq_emod_of_nonneg hx0
      have H5 : Hid (V = x % m) := by show _ = _; rw [HV.out, ← hxf.out]
      have hm0 : (m == 0) = false := by simp; omega
      go_wp2_with fail
      go_ret
      exact ⟨by rw [H5.out]; rfl, hwr.out⟩

end Go.Proofs.Ytbkddoibefgplaa
