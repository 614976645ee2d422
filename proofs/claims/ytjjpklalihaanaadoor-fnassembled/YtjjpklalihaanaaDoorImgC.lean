/- A memory out of words: both Images. -/
import Derived.Test.YtjjpklalihaanaaDoorMemC
import Derived.Test.YtjjpklalihaanaaDoorWordsC
import Derived.Test.YtjjpklalihaanaaDoorNameC
import Derived.Test.YtjjpklalihaanaaDoorLstP
namespace Go.Proofs.YtjjpklalihaanaaDoor
open Go.RowKit
set_option linter.unusedVariables false

/-- Words put into a memory from word k on; none if one is too great. -/
def imgPut : List Int → Nat → List Int → Option (List Int)
  | [], _, zs => some zs
  | x :: xs, k, zs => if 4294967296 ≤ x then none else imgPut xs (k + 1) (put zs (4 * k) x 4)

def imgOk (n : Nat) (size : Int) : Bool := decide (4096 ≤ size ∧ size ≤ 65536 ∧ size % 4096 = 0 ∧ (n : Int) ≤ size / 4)

def imgL (ws : List Int) (size : Int) : Option (List Int) := if imgOk ws.length size then imgPut ws 0 (List.replicate size.toNat 0) else none

/-- What an Image answers. -/
def ImgPost (ws : List Int) (size : Int) (w : World) (e : Ending) (w' : World) : Prop :=
  ∃ v, e = .returned (.tuple #[v, .bool (imgL ws size).isSome]) ∧ Lst 5 w w' v ((imgL ws size).getD []).length (((imgL ws size).getD []).map (Value.int .u8))

theorem imgPut_len (ws : List Int) : ∀ (k : Nat) (zs ys : List Int), imgPut ws k zs = some ys → ys.length = zs.length := by
  induction ws with
  | nil => intro k zs ys h; rw [Option.some.inj h]
  | cons x xs ih =>
    intro k zs ys h
    rw [imgPut] at h
    split at h
    · cases h
    · rw [ih _ _ _ h, put_len]

theorem u8_lst {w wr : World} (h : Below w.heap.size w wr) : Lst 5 w (wr.alloc (.cells #[] 5 (0, 0))) (.slice (some ⟨wr.heap.size, 0, none⟩) 0 0) 0 [] :=
  ⟨World.ownsRow_lit wr #[] 0 h.size (by unfold maxLen; omega) rfl, h.alloc h.size _⟩

theorem nil_lst8 {w wr : World} (h : Below w.heap.size w wr) : Lst 5 w wr (.slice none 0 0) 0 [] := ⟨⟨rfl, Or.inl ⟨rfl, rfl⟩⟩, h⟩

theorem byte_at (x : Int) (h0 : 0 ≤ x) (b : Nat) (hb : b < 4) : x / 2 ^ (8 * b) % 256 = x / 256 ^ b % 256 := by
  have : (2 : Int) ^ (8 * b) = 256 ^ b := by rw [Int.pow_mul]; rfl
  rw [this]

set_option maxRecDepth 20000 in
set_option maxHeartbeats 6400000 in
theorem implImage_any (a : Option Addr) (n cap : Nat) (ws : List Int) (size : Int) (w : World) (hz : ws.length = n) (hn : n ≤ 1048576) (hs : Sl .u64 w a ws) (hw : ∀ x ∈ ws, 0 ≤ x ∧ x ≤ 18446744073709551615) (hsz : (Lit.int .i64 size).wf = true) :
    Calls Tryd.prog 11 #[.slice a n cap, .int .i64 size] w (ImgPost ws size w) := by
  obtain ⟨i0, hi, hz0, hz1, hz2⟩ := info_parts Tryd.info5
  have HZ : Hid (ws.length = n) := hz
  have HW : Hid (∀ x ∈ ws, 0 ≤ x ∧ x ≤ 18446744073709551615) := hw
  have HS : Hid (Sl .u64 w a ws) := hs
  clear hz hw hs
  by_cases h1 : 0 ≤ size ∧ size ≤ 65536
  · obtain ⟨m, rfl⟩ : ∃ m : Nat, size = (m : Int) := ⟨size.toNat, by omega⟩
    have hb2 : i0.bytes * m ≤ 281474976710656 := by rw [hz2]; omega
    have hb3 : m ≤ maxLen := by unfold maxLen; omega
    have t1 : ¬ ((m : Int) < 0) := by omega
    have t1' : ¬ ((65536 : Int) < (m : Int)) := by omega
    have hm1 : m ≤ 65536 := by omega
    go_enter Tryd.func11, Tryd.ntmps11
    go_wp2_with (at_make; refine wpList_make_full _ rfl (.tmp 16) (.tmp 16) 22 rfl _ 5 i0 (.int .u8 0) 1 Tryd.underlying22 hi hz0 hz1 .i64 .i64 _ _ m rfl rfl rfl rfl hb2 hb3 (Nat.le_refl _) ?_; intro w2 hown hgrow)
    have HO0 : Hid (w2.ownsRow w.heap.size 5 1 (.slice (some ⟨w.heap.size, 0, none⟩) m m) m ((List.replicate m (0 : Int)).map (Value.int .u8))) := by
      show w2.ownsRow _ _ _ _ _ _
      rw [List.map_replicate, ← toList_madeCells_one]; simpa [Value.cells] using hown
    have HB0 : Hid (Below w.heap.size w w2) := (Below.refl _ _).grown hgrow (Nat.le_refl _) (by intro k h; cases h)
    clear hown hgrow t1 t1' h1 hsz
    refine (implRamOk_any _ m m _ (by omega)).mono ?_
    rintro e w3 ⟨rfl, hw3⟩
    have hw3' := hw3.symm
    subst hw3'
    cases hok : ramOkB m with
    | false =>
      have HR : Hid (imgL ws (m : Int) = none) := by
        show imgL ws (m : Int) = none
        unfold imgL imgOk
        unfold ramOkB at hok
        have hok2 := of_decide_eq_false hok
        rw [decide_eq_false (fun h => hok2 ⟨by omega, by omega, by omega⟩)]
        rfl
      clear hok
      go_wp2_with fail
      go_ret2
      exact ⟨.slice none 0 0, by rw [HR.out]; rfl, by rw [HR.out]; exact nil_lst8 HB0.out⟩
    | true =>
      have hok2 : 4096 ≤ m ∧ m ≤ 65536 ∧ m % 4096 = 0 := of_decide_eq_true hok
      by_cases h3 : (n : Int) ≤ (m : Int) / 4
      · have HOK : Hid (imgL ws (m : Int) = imgPut ws 0 (List.replicate m 0)) := by
          show imgL ws (m : Int) = _
          unfold imgL imgOk
          rw [HZ.out, decide_eq_true ⟨by omega, by omega, by omega, h3⟩]
          rfl
        have t3 : ¬ ((m : Int) / 4 < (n : Int)) := by omega
        have hn4 : 4 * n ≤ m := by omega
        clear hok hok2 h3
        go_wp2_with fail
        go_loopw [31] (fun kv wr => ∃ (k : Nat) (zs : List Int), kv = .int .i64 k ∧ k ≤ n ∧ Hid (wr.ownsRow w.heap.size 5 1 (.slice (some ⟨w.heap.size, 0, none⟩) m m) m (zs.map (Value.int .u8))) ∧ Hid (Below w.heap.size w wr) ∧ Hid (imgPut (ws.drop k) k zs = imgPut ws 0 (List.replicate m 0)))
          (fun kv _ => n - (intOf kv).toNat)
        case atStart => exact ⟨0, List.replicate m 0, rfl, by omega, HO0, HB0, (rfl : imgPut (ws.drop 0) 0 (List.replicate m 0) = imgPut ws 0 (List.replicate m 0))⟩
        case round =>
          obtain ⟨k, zs, rfl, hk, hO, hB, hI⟩ := hrel
          clear HO0 HB0 t3
          by_cases hlt : k < n
          · have hkl : k < ws.length := by rw [HZ.out]; exact hlt
            obtain ⟨b, off, rfl, hbl, hcell0⟩ := HS.out k hkl
            have hcell := (hB.out.cell (p := ⟨b, off + k, none⟩) hbl).trans hcell0
            obtain ⟨x, hx⟩ : ∃ x, x = ws.getD k 0 := ⟨_, rfl⟩
            rw [← hx] at hcell
            have hxe : ws[k] = x := by rw [hx]; simp [List.getD, List.getElem?_eq_getElem hkl]
            have hxb := HW.out x (by rw [← hxe]; exact List.getElem_mem hkl)
            have hI2 := hI.out
            rw [List.drop_eq_getElem_cons hkl, hxe, imgPut] at hI2
            clear hcell0 hbl hx hxe
            by_cases hbig : 4294967296 ≤ x
            · rw [if_pos hbig] at hI2
              have HR : Hid (imgL ws (m : Int) = none) := HOK.out.trans hI2.symm
              have t : (4294967295 < x) := by omega
              clear hI hI2 hkl hbig
              go_wp2_with fail
              go_ret2
              exact ⟨.slice none 0 0, by rw [HR.out]; rfl, by rw [HR.out]; exact nil_lst8 hB.out⟩
            · rw [if_neg hbig] at hI2
              have HI2 : Hid (imgPut (ws.drop (k + 1)) (k + 1) (put zs (4 * k) x 4) = imgPut ws 0 (List.replicate m 0)) := hI2
              have t : ¬ (4294967295 < x) := by omega
              have HZl : Hid (zs.length = m) := by have := hO.out.1; show zs.length = m; simpa using this
              clear hI hI2 hkl hbig
              go_wp2_with fail
              go_loopw [38] (fun bv wx => ∃ (b : Nat), bv = .int .i64 b ∧ b ≤ 4 ∧ Hid (wx.ownsRow w.heap.size 5 1 (.slice (some ⟨w.heap.size, 0, none⟩) m m) m ((put zs (4 * k) x b).map (Value.int .u8))) ∧ Hid (Below w.heap.size w wx))
                (fun bv _ => 4 - (intOf bv).toNat)
              case atStart => exact ⟨0, rfl, by omega, hO, hB⟩
              case round =>
                obtain ⟨b, rfl, hb, hO2, hB2⟩ := hrel
                clear hO hB
                by_cases hb4 : b < 4
                · have hb5 : b = 0 ∨ b = 1 ∨ b = 2 ∨ b = 3 := by omega
                  clear hb hb4
                  rcases hb5 with rfl | rfl | rfl | rfl
                  · have hfr : wr.frozen? ⟨w.heap.size, 4 * k, none⟩ = false := hO2.out.frozenAt (4 * k)
                    have hst := hO2.out.stored (4 * k) (.int .u8 (x % 256))
                    obtain ⟨v3, hv3⟩ : ∃ v, wr.cell? ⟨w.heap.size, 4 * k, none⟩ = some v := by
                      rw [hO2.out.cellAt (4 * k) (by omega)]
                      exact ⟨_, List.getElem?_eq_getElem (by rw [List.length_map, put_len, HZl.out]; omega)⟩
                    rw [map_set_u8] at hst
                    have HO3 : Hid ((wr.setCell ⟨w.heap.size, 4 * k, none⟩ (.int .u8 (x % 256))).ownsRow w.heap.size 5 1 (.slice (some ⟨w.heap.size, 0, none⟩) m m) m ((put zs (4 * k) x (0 + 1)).map (Value.int .u8))) := by
                      have e2 : put zs (4 * k) x (0 + 1) = (put zs (4 * k) x 0).set (4 * k) (x % 256) := by
                        show (put zs (4 * k) x 0).set (4 * k + 0) (x / 256 ^ 0 % 256) = _
                        rw [(by rw [Int.pow_zero, Int.ediv_one] : x / 256 ^ 0 % 256 = x % 256)]; rfl
                      show World.ownsRow _ _ _ _ _ _ _
                      rw [e2]; exact hst.1
                    have HB3 : Hid (Below w.heap.size w (wr.setCell ⟨w.heap.size, 4 * k, none⟩ (.int .u8 (x % 256)))) := hB2.out.setCell (Nat.le_refl _) _
                    clear hst hO2 hB2
                    go_wp2_with fail
                    go_roundw
                    case rel => exact ⟨0 + 1, by go_num, by omega, HO3, HB3⟩
                    case measure => simp [intOf]
                  · have hfr : wr.frozen? ⟨w.heap.size, 4 * k + 1, none⟩ = false := hO2.out.frozenAt (4 * k + 1)
                    have hst := hO2.out.stored (4 * k + 1) (.int .u8 (x / 256 % 256))
                    obtain ⟨v3, hv3⟩ : ∃ v, wr.cell? ⟨w.heap.size, 4 * k + 1, none⟩ = some v := by
                      rw [hO2.out.cellAt (4 * k + 1) (by omega)]
                      exact ⟨_, List.getElem?_eq_getElem (by rw [List.length_map, put_len, HZl.out]; omega)⟩
                    rw [map_set_u8] at hst
                    have HO3 : Hid ((wr.setCell ⟨w.heap.size, 4 * k + 1, none⟩ (.int .u8 (x / 256 % 256))).ownsRow w.heap.size 5 1 (.slice (some ⟨w.heap.size, 0, none⟩) m m) m ((put zs (4 * k) x (1 + 1)).map (Value.int .u8))) := by
                      have e2 : put zs (4 * k) x (1 + 1) = (put zs (4 * k) x 1).set (4 * k + 1) (x / 256 % 256) := by
                        show (put zs (4 * k) x 1).set (4 * k + 1) (x / 256 ^ 1 % 256) = _
                        rw [(by rfl : x / 256 ^ 1 % 256 = x / 256 % 256)]
                      show World.ownsRow _ _ _ _ _ _ _
                      rw [e2]; exact hst.1
                    have HB3 : Hid (Below w.heap.size w (wr.setCell ⟨w.heap.size, 4 * k + 1, none⟩ (.int .u8 (x / 256 % 256)))) := hB2.out.setCell (Nat.le_refl _) _
                    clear hst hO2 hB2
                    go_wp2_with fail
                    go_roundw
                    case rel => exact ⟨1 + 1, by go_num, by omega, HO3, HB3⟩
                    case measure => simp [intOf]
                  · have hfr : wr.frozen? ⟨w.heap.size, 4 * k + 2, none⟩ = false := hO2.out.frozenAt (4 * k + 2)
                    have hst := hO2.out.stored (4 * k + 2) (.int .u8 (x / 65536 % 256))
                    obtain ⟨v3, hv3⟩ : ∃ v, wr.cell? ⟨w.heap.size, 4 * k + 2, none⟩ = some v := by
                      rw [hO2.out.cellAt (4 * k + 2) (by omega)]
                      exact ⟨_, List.getElem?_eq_getElem (by rw [List.length_map, put_len, HZl.out]; omega)⟩
                    rw [map_set_u8] at hst
                    have HO3 : Hid ((wr.setCell ⟨w.heap.size, 4 * k + 2, none⟩ (.int .u8 (x / 65536 % 256))).ownsRow w.heap.size 5 1 (.slice (some ⟨w.heap.size, 0, none⟩) m m) m ((put zs (4 * k) x (2 + 1)).map (Value.int .u8))) := by
                      have e2 : put zs (4 * k) x (2 + 1) = (put zs (4 * k) x 2).set (4 * k + 2) (x / 65536 % 256) := by
                        show (put zs (4 * k) x 2).set (4 * k + 2) (x / 256 ^ 2 % 256) = _
                        rw [(by rfl : x / 256 ^ 2 % 256 = x / 65536 % 256)]
                      show World.ownsRow _ _ _ _ _ _ _
                      rw [e2]; exact hst.1
                    have HB3 : Hid (Below w.heap.size w (wr.setCell ⟨w.heap.size, 4 * k + 2, none⟩ (.int .u8 (x / 65536 % 256)))) := hB2.out.setCell (Nat.le_refl _) _
                    clear hst hO2 hB2
                    go_wp2_with fail
                    go_roundw
                    case rel => exact ⟨2 + 1, by go_num, by omega, HO3, HB3⟩
                    case measure => simp [intOf]
                  · have hfr : wr.frozen? ⟨w.heap.size, 4 * k + 3, none⟩ = false := hO2.out.frozenAt (4 * k + 3)
                    have hst := hO2.out.stored (4 * k + 3) (.int .u8 (x / 16777216))
                    obtain ⟨v3, hv3⟩ : ∃ v, wr.cell? ⟨w.heap.size, 4 * k + 3, none⟩ = some v := by
                      rw [hO2.out.cellAt (4 * k + 3) (by omega)]
                      exact ⟨_, List.getElem?_eq_getElem (by rw [List.length_map, put_len, HZl.out]; omega)⟩
                    rw [map_set_u8] at hst
                    have HO3 : Hid ((wr.setCell ⟨w.heap.size, 4 * k + 3, none⟩ (.int .u8 (x / 16777216))).ownsRow w.heap.size 5 1 (.slice (some ⟨w.heap.size, 0, none⟩) m m) m ((put zs (4 * k) x (3 + 1)).map (Value.int .u8))) := by
                      have e2 : put zs (4 * k) x (3 + 1) = (put zs (4 * k) x 3).set (4 * k + 3) (x / 16777216) := by
                        show (put zs (4 * k) x 3).set (4 * k + 3) (x / 256 ^ 3 % 256) = _
                        rw [(by show x / 16777216 % 256 = _; omega : x / 256 ^ 3 % 256 = x / 16777216)]
                      show World.ownsRow _ _ _ _ _ _ _
                      rw [e2]; exact hst.1
                    have HB3 : Hid (Below w.heap.size w (wr.setCell ⟨w.heap.size, 4 * k + 3, none⟩ (.int .u8 (x / 16777216)))) := hB2.out.setCell (Nat.le_refl _) _
                    clear hst hO2 hB2
                    go_wp2_with fail
                    go_roundw
                    case rel => exact ⟨3 + 1, by go_num, by omega, HO3, HB3⟩
                    case measure => simp [intOf]
                · have hbe : b = 4 := by omega
                  subst hbe
                  go_wp2_with fail
                  go_roundw
                  case rel => exact ⟨k + 1, put zs (4 * k) x 4, by go_num, by omega, hO2, hB2, HI2⟩
                  case measure => simp [intOf]; omega
          · have hke : k = ws.length := by rw [HZ.out]; omega
            have hI2 := hI.out
            rw [hke, List.drop_length, imgPut] at hI2
            have HR : Hid (imgL ws (m : Int) = some zs) := HOK.out.trans hI2.symm
            have HZl : Hid (zs.length = m) := by have := hO.out.1; show zs.length = m; simpa using this
            clear hI hI2 hke
            go_wp2_with fail
            go_ret2
            refine ⟨.slice (some ⟨w.heap.size, 0, none⟩) m m, ?_, ?_⟩
            · rw [HR.out]; rfl
            · rw [HR.out]
              show Lst _ _ _ _ zs.length (zs.map (Value.int .u8))
              rw [HZl.out]
              exact ⟨hO.out, hB.out⟩
      · have HR : Hid (imgL ws (m : Int) = none) := by
          show imgL ws (m : Int) = none
          unfold imgL imgOk
          rw [HZ.out, decide_eq_false (fun h => h3 h.2.2.2)]
          rfl
        have t3 : ((m : Int) / 4 < (n : Int)) := by omega
        clear hok hok2 h3
        go_wp2_with fail
        go_ret2
        exact ⟨.slice none 0 0, by rw [HR.out]; rfl, by rw [HR.out]; exact nil_lst8 HB0.out⟩
  · have HR : Hid (imgL ws size = none) := by
      show imgL ws size = none
      unfold imgL imgOk
      rw [decide_eq_false (fun h => h1 ⟨by omega, h.2.1⟩)]
      rfl
    by_cases h0 : size < 0
    · clear h1 hsz
      go_enter Tryd.func11, Tryd.ntmps11
      go_wp2_with fail
      go_ret2
      exact ⟨.slice none 0 0, by rw [HR.out]; rfl, by rw [HR.out]; exact nil_lst8 (Below.refl _ _)⟩
    · have h9 : 65536 < size := by omega
      clear h1 hsz
      go_enter Tryd.func11, Tryd.ntmps11
      go_wp2_with fail
      go_ret2
      exact ⟨.slice none 0 0, by rw [HR.out]; rfl, by rw [HR.out]; exact nil_lst8 (Below.refl _ _)⟩

end Go.Proofs.YtjjpklalihaanaaDoor
