/- Lists of words: copied, compared, marked, held. Written by tools/genWords.py. -/
import Derived.Test.YtjjpklalihaanaaDoorProg
import Derived.Test.YtjjpklalihaanaaDoorMem
namespace Go.Proofs.YtjjpklalihaanaaDoor
open Go.RowKit
set_option linter.unusedVariables false

theorem infoW : (Tryd.prog.info? 33).map (fun i => (i.zero, i.size, i.bytes)) = some (some (.int .u64 0), 1, 8) := by kernel_rfl

theorem map_set_u64 (zs : List Int) (i : Nat) (y : Int) : (zs.map (Value.int .u64)).set i (.int .u64 y) = (zs.set i y).map (Value.int .u64) := by
  rw [List.map_set]

def marksW (k : Int) (n : Nat) : List Int := (List.range n).map fun (i : Nat) => k + (i : Int)

theorem marksW_len (k : Int) (n : Nat) : (marksW k n).length = n := by simp [marksW]

theorem marksW_get (k : Int) (n i : Nat) (h : i < n) : (marksW k n).getD i 0 = k + (i : Int) := by
  simp [marksW, List.getD, h]

def MkW (xs : List Int) (k : Int) (n j : Nat) : List Int := (marksW k n).take j ++ xs.drop j

theorem MkW_zero (xs : List Int) (k : Int) (n : Nat) : MkW xs k n 0 = xs := by simp [MkW]

theorem MkW_end (xs : List Int) (k : Int) (n : Nat) (h : xs.length = n) : MkW xs k n n = marksW k n := by
  have h1 : xs.drop n = [] := List.drop_of_length_le (by omega)
  have h2 : (marksW k n).take n = marksW k n := List.take_of_length_le (by rw [marksW_len]; omega)
  rw [MkW, h1, h2, List.append_nil]

theorem MkW_len (xs : List Int) (k : Int) (n j : Nat) (h : xs.length = n) (hj : j ≤ n) : (MkW xs k n j).length = n := by
  simp [MkW, marksW_len]; omega

theorem MkW_set (xs : List Int) (k : Int) (n j : Nat) (h : xs.length = n) (hj : j < n) : (MkW xs k n j).set j (k + (j : Int)) = MkW xs k n (j + 1) := by
  unfold MkW
  have h1 : (marksW k n).take (j + 1) = (marksW k n).take j ++ [k + (j : Int)] := by
    rw [List.take_succ_eq_append_getElem (by rw [marksW_len]; exact hj)]
    simp [marksW]
  have h2 : xs.drop j = xs[j] :: xs.drop (j + 1) := List.drop_eq_getElem_cons (by omega)
  have h3 : ((marksW k n).take j).length = j := by rw [List.length_take, marksW_len]; omega
  rw [h1, h2, List.set_append_right _ _ (by omega), h3, Nat.sub_self, List.set_cons_zero, List.append_assoc]
  rfl

end Go.Proofs.YtjjpklalihaanaaDoor
