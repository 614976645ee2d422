/- The walk of laws.FnExactAssemble: both assemble a text alike. -/
import Derived.Test.YtjjpklalihaanaaDoorAsmI
namespace Go.Proofs.YtjjpklalihaanaaDoor
open Go.RowKit
set_option linter.unusedVariables false

noncomputable def asmAll (L : List UInt8) : List Int × Int := if L.length ≤ 20000 then asm [] L 0 [] else ([], 0)

theorem asmAll_len (L : List UInt8) : (asmAll L).1.length ≤ 20000 := by
  unfold asmAll
  split
  · have := asm_len L [] 0 []
    simp at this
    omega
  · simp

theorem specAsm_all (s : ByteArray) (hs : s.size ≤ 1048576) (w : World) :
    Calls Tryd.prog 7 #[.string s] w fun e w' => ∃ v, e = .returned (.tuple #[v, .int .i64 (asmAll s.data.toList).2]) ∧ Lst 33 w w' v (asmAll s.data.toList).1.length ((asmAll s.data.toList).1.map (Value.int .u64)) := by
  have hl : s.data.toList.length = s.size := by rw [Array.length_toList]; rfl
  by_cases h : s.size ≤ 20000
  · have e : asmAll s.data.toList = asm [] s.data.toList 0 [] := by unfold asmAll; rw [if_pos (by omega)]
    rw [e]
    exact specAsm_any s h w
  · have e : asmAll s.data.toList = ([], 0) := by unfold asmAll; rw [if_neg (by omega)]
    rw [e]
    have hg : ((20000 : Int) < (s.size : Int)) := by omega
    have HL0 := lst_empty 33 w
    clear e
    go_enter Tryd.func7, Tryd.ntmps7
    go_wp2_with fail
    go_ret2
    exact ⟨_, rfl, HL0⟩

theorem implAsm_all (s : ByteArray) (hs : s.size ≤ 1048576) (w : World) (hT : Tp w) :
    Calls Tryd.prog 6 #[.string s] w fun e w' => ∃ v, e = .returned (.tuple #[v, .int .i64 (asmAll s.data.toList).2]) ∧ Lst 33 w w' v (asmAll s.data.toList).1.length ((asmAll s.data.toList).1.map (Value.int .u64)) := by
  have hl : s.data.toList.length = s.size := by rw [Array.length_toList]; rfl
  by_cases h : s.size ≤ 20000
  · have e : asmAll s.data.toList = asm [] s.data.toList 0 [] := by unfold asmAll; rw [if_pos (by omega)]
    rw [e]
    exact implAsm_any s h w hT
  · have e : asmAll s.data.toList = ([], 0) := by unfold asmAll; rw [if_neg (by omega)]
    rw [e]
    have hg : ((20000 : Int) < (s.size : Int)) := by omega
    have HL0 : Hid (Lst 33 w w (.slice none 0 0) 0 []) := nil_lst _ (Below.refl _ _)
    clear e
    go_enter Tryd.func6, Tryd.ntmps6
    go_wp2_with fail
    go_ret2
    exact ⟨_, rfl, HL0.out⟩

namespace fnExactAssemble

end fnExactAssemble

end Go.Proofs.YtjjpklalihaanaaDoor
