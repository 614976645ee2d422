/- Own lemmas. -/
import Derived.Test.YtjjpklalihaanaaDoorK06
import Derived.Test.YtjjpklalihaanaaDoorK08
import Derived.Test.YtjjpklalihaanaaDoorK15
import Derived.Test.YtjjpklalihaanaaDoorK20
import Derived.Test.YtjjpklalihaanaaDoorK22
import Derived.Deep.RegionHeld3
namespace Go.Proofs.YtjjpklalihaanaaDoor.fnDecoded
open Go.RowKit
set_option linter.unusedVariables false

theorem enc_true {i : Ins} (h : (encS i).2 = true) : opB i.op = true ∧ dec (encS i).1 = some i := by
  unfold encS at h ⊢
  split at h
  · rename_i hc
    rw [if_pos hc]
    simp only [Bool.and_eq_true, decide_eq_true_eq] at hc
    exact ⟨hc.1.1, hc.2⟩
  · cases h

theorem encS_U (i : Ins) : U (encS i).1 := by
  unfold encS
  split
  · exact word_U i
  · constructor <;> decide

theorem decI_c {u : Int} {i : Ins} (hU : U u) (hd : dec u = some i) (W : World) : Calls Tryd.prog 9 #[.int .u64 u] W fun e w' => e = .returned (.tuple #[.agg #[.int .i64 i.op, .int .i64 i.rd, .int .i64 i.a, .int .i64 i.b, .int .i64 i.imm], .bool true]) ∧ Below W.heap.size W w' := by
  have h := implDecode_any u hU.1 hU.2 W
  have e : decV u = .tuple #[.agg #[.int .i64 i.op, .int .i64 i.rd, .int .i64 i.a, .int .i64 i.b, .int .i64 i.imm], .bool true] := by
    unfold decV; rw [hd]; rfl
  rw [e] at h
  exact h

end Go.Proofs.YtjjpklalihaanaaDoor.fnDecoded

namespace Go.Proofs.YtjjpklalihaanaaDoor
open Go.RowKit
set_option linter.unusedVariables false

theorem asm_go {L : List UInt8} {f i : Nat} {c : UInt8} (hf : f ≤ i) (hc : L[i]? = some c) (h : c ≠ 10) (line : Nat) (ws : List Int) : asm ((L.drop f).take (i - f)) (L.drop i) line ws = asm ((L.drop f).take (i + 1 - f)) (L.drop (i + 1)) line ws := by
  have hi : i < L.length := by
    by_cases hl : i < L.length
    · exact hl
    · rw [List.getElem?_eq_none (by omega)] at hc; cases hc
  have hci : L[i] = c := by rw [List.getElem?_eq_getElem hi] at hc; exact Option.some.inj hc
  rw [List.drop_eq_getElem_cons hi, hci, asm, if_neg h]
  congr 1
  have e : i + 1 - f = (i - f) + 1 := by omega
  rw [e, List.take_succ_eq_append_getElem (by simp; omega)]
  congr 2
  rw [List.getElem_drop]
  simp only [show f + (i - f) = i by omega]
  exact hci.symm

theorem asm_cut {L : List UInt8} {f i : Nat} (hc : L[i]? = some 10) (line : Nat) (ws : List Int) : asm ((L.drop f).take (i - f)) (L.drop i) line ws =
    if skipL ((L.drop f).take (i - f)) then asm ((L.drop (i + 1)).take (i + 1 - (i + 1))) (L.drop (i + 1)) (line + 1) ws
    else if (parF ((L.drop f).take (i - f))).2 then asm ((L.drop (i + 1)).take (i + 1 - (i + 1))) (L.drop (i + 1)) (line + 1) (ws ++ [(encS (parF ((L.drop f).take (i - f))).1).1]) else ([], (line : Int)) := by
  have hi : i < L.length := by
    by_cases hl : i < L.length
    · exact hl
    · rw [List.getElem?_eq_none (by omega)] at hc; cases hc
  have hci : L[i] = 10 := by rw [List.getElem?_eq_getElem hi] at hc; exact Option.some.inj hc
  rw [List.drop_eq_getElem_cons hi, hci, asm, if_pos rfl]
  simp

theorem u64_lst {w wr : World} (h : Below w.heap.size w wr) : Lst 33 w (wr.alloc (.cells #[] 33 (0, 0))) (.slice (some ⟨wr.heap.size, 0, none⟩) 0 0) 0 [] :=
  ⟨World.ownsRow_lit wr #[] 0 h.size (by unfold maxLen; omega) rfl, h.alloc h.size _⟩

set_option maxRecDepth 20000 in
set_option maxHeartbeats 6400000 in
theorem specAsm_any (s : ByteArray) (hs : s.size ≤ 20000) (w : World) :
    Calls Tryd.prog 7 #[.string s] w fun e w' => ∃ v, e = .returned (.tuple #[v, .int .i64 (asm [] s.data.toList 0 []).2]) ∧ Lst 33 w w' v (asm [] s.data.toList 0 []).1.length ((asm [] s.data.toList 0 []).1.map (Value.int .u64)) := by
  obtain ⟨i0, hi, hz0, hz1, hz2⟩ := info_parts infoW
  have hlen : s.data.toList.length = s.size := by rw [Array.length_toList]; rfl
  obtain ⟨L, hL0⟩ : ∃ L, L = s.data.toList := ⟨_, rfl⟩
  have HLs : Hid (L = s.data.toList) := hL0
  rw [← hL0] at hlen ⊢
  have HLen : Hid (L.length = s.size) := hlen
  obtain ⟨R, hR⟩ : ∃ R, R = asm [] L 0 [] := ⟨_, rfl⟩
  rw [← hR]
  have HI0 : Hid (asm ((L.drop 0).take (0 - 0)) (L.drop 0) 0 [] = R) := by
    show _ = _
    rw [hR]; simp
  have HL0 := lst_empty 33 w
  have hg : ¬ ((20000 : Int) < (s.size : Int)) := by omega
  clear hL0 hlen hR
  go_enter Tryd.func7, Tryd.ntmps7
  go_wp2_with fail
  go_loopw [7, 6, 5, 4] (fun iv fv lv ov wr => ∃ (i f line : Nat) (ws : List Int), iv = .int .i64 i ∧ fv = .int .i64 f ∧ lv = .int .i64 line ∧ i ≤ s.size ∧ f ≤ i ∧ line ≤ i ∧ ws.length ≤ i ∧ Hid (Lst 33 w wr ov ws.length (ws.map (Value.int .u64))) ∧
      Hid (asm ((L.drop f).take (i - f)) (L.drop i) line ws = R))
    (fun iv _ _ _ _ => s.size - (intOf iv).toNat)
  case atStart => exact ⟨0, 0, 0, [], rfl, rfl, rfl, by omega, by omega, by omega, by simp, HL0, HI0⟩
  case round =>
    obtain ⟨i, f, line, ws, rfl, rfl, rfl, hi1, hf, hln, hwl, hL, hI⟩ := hrel
    clear HL0 HI0
    obtain ⟨a0, c0, hov⟩ := hL.out.slice
    subst hov
    have hwr : wrap64 ((i : Int) + 1) = ((i + 1 : Nat) : Int) := by unfold wrap64; omega
    have hwl2 : wrap64 ((line : Int) + 1) = ((line + 1 : Nat) : Int) := by unfold wrap64; omega
    by_cases hlt : i < s.size
    · have hat : L[i]? = some (s[i]'hlt) := by rw [HLs.out]; exact str_at s i hlt
      by_cases h10 : (s[i]'hlt).toNat = 10
      · have hc : L[i]? = some 10 := by rw [hat, u8_eq (by decide) h10]; rfl
        have ht : ((((s[i]'hlt).toNat : Nat) : Int) != 10) = false := by rw [h10]; rfl
        have htn : ((s[i]'hlt).toNat != 10) = false := by rw [h10]; rfl
        have hI2 := hI.out
        rw [asm_cut hc] at hI2
        obtain ⟨cur, hcur⟩ : ∃ cur, cur = (L.drop f).take (i - f) := ⟨_, rfl⟩
        rw [← hcur] at hI2
        obtain ⟨S, hS⟩ : ∃ S : ByteArray, S = s.extract f i := ⟨_, rfl⟩
        have HST : Hid (S.data.toList = cur) := by
          show S.data.toList = cur
          rw [hS, ext_take, hcur, HLs.out]
        have HSz : Hid (S.size = cur.length) := by
          show S.size = cur.length
          rw [← HST.out, Array.length_toList]; rfl
        have hSz : S.size ≤ 20000 := by
          rw [HSz.out, hcur, List.length_take, List.length_drop, HLen.out]; omega
        have hS' := hS.symm
        have HI3 : Hid ((if skipL cur then asm ((L.drop (i + 1)).take (i + 1 - (i + 1))) (L.drop (i + 1)) (line + 1) ws else if (parF cur).2 then asm ((L.drop (i + 1)).take (i + 1 - (i + 1))) (L.drop (i + 1)) (line + 1) (ws ++ [(encS (parF cur).1).1]) else ([], (line : Int))) = R) := hI2
        clear hI hI2 hS hcur hat hc h10
        cases hsk : skipL cur with
        | true =>
          rw [hsk] at HI3
          have HI4 : Hid (asm ((L.drop (i + 1)).take (i + 1 - (i + 1))) (L.drop (i + 1)) (line + 1) ws = R) := HI3.out
          clear HI3
          by_cases hS0 : S.size = 0
          · have hE : S.toList.isEmpty = true := by
              rw [Go.ByteArray.toList_eq, HST.out]
              rw [HSz.out] at hS0
              rw [List.eq_nil_of_length_eq_zero hS0]; rfl
            clear hsk hS0
            go_wp2_with fail
            go_roundw
            case rel => exact ⟨i + 1, i + 1, line + 1, ws, rfl, rfl, rfl, by omega, by omega, by omega, by omega, hL, HI4⟩
            case measure => simp [intOf]; omega
          · have hSp : 0 < S.size := by omega
            have hE : S.toList.isEmpty = false := by
              rw [Go.ByteArray.toList_eq, HST.out]
              rw [HSz.out] at hS0
              cases h : cur with
              | nil => rw [h] at hS0; exact absurd rfl hS0
              | cons a b => rfl
            have h35 : (S[0]'hSp).toNat = 35 := by
              have h1 := str_at S 0 hSp
              rw [HST.out, ← List.head?_eq_getElem?] at h1
              have hE2 : cur.isEmpty = false := by rw [← HST.out, ← Go.ByteArray.toList_eq]; exact hE
              unfold skipL at hsk
              rw [hE2, Bool.false_or, h1] at hsk
              have := Option.some.inj (of_decide_eq_true hsk)
              rw [this]; rfl
            have hti : ((((S[0]'hSp).toNat : Nat) : Int) != 35) = false := by rw [h35]; rfl
            have htn2 : ((S[0]'hSp).toNat != 35) = false := by rw [h35]; rfl
            clear hsk hS0 h35
            go_wp2_with fail
            go_roundw
            case rel => exact ⟨i + 1, i + 1, line + 1, ws, rfl, rfl, rfl, by omega, by omega, by omega, by omega, hL, HI4⟩
            case measure => simp [intOf]; omega
        | false =>
          rw [hsk] at HI3
          have HI4 : Hid ((if (parF cur).2 then asm ((L.drop (i + 1)).take (i + 1 - (i + 1))) (L.drop (i + 1)) (line + 1) (ws ++ [(encS (parF cur).1).1]) else ([], (line : Int))) = R) := HI3.out
          clear HI3
          have hsk2 := hsk
          unfold skipL at hsk2
          rw [Bool.or_eq_false_iff] at hsk2
          have hE : S.toList.isEmpty = false := by rw [Go.ByteArray.toList_eq, HST.out]; exact hsk2.1
          have hSp : 0 < S.size := by
            rw [HSz.out]
            cases h : cur with
            | nil => rw [h] at hsk2; cases hsk2.1
            | cons a b => simp
          have h35 : (S[0]'hSp).toNat ≠ 35 := by
            intro h
            have h1 := str_at S 0 hSp
            rw [HST.out, ← List.head?_eq_getElem?, u8_eq (by decide) h] at h1
            rw [h1] at hsk2
            exact absurd hsk2.2 (by decide)
          have hti : ((((S[0]'hSp).toNat : Nat) : Int) != 35) = true := by simp; omega
          have htn2 : ((S[0]'hSp).toNat != 35) = true := by simpa using h35
          clear hsk hsk2 h35
          go_wp2_with fail
          refine (specParse_any S (by omega) _).mono ?_
          rintro e w1 ⟨x, t, rfl, hpr, hb1⟩
          rw [HST.out] at hpr
          rw [parF_of hpr] at HI4
          have HIW : Hid (t = true → IW x) := by
            intro ht
            rcases hpr with ⟨_, h, _⟩ | ⟨h, _⟩
            · exact h
            · rw [ht] at h; cases h
          have HL1 : Hid (Lst 33 w w1 (.slice a0 ws.length c0) ws.length (ws.map (Value.int .u64))) := Lst.below hL.out hb1
          clear hpr hb1 hL
          unfold Ins.val
          cases t with
          | false =>
            have HR2 : Hid (R = ([], (line : Int))) := HI4.out.symm
            have HB1 : Hid (Below w.heap.size w (w1.alloc (.cells #[.int .i64 x.op, .int .i64 x.rd, .int .i64 x.a, .int .i64 x.b, .int .i64 x.imm] 30 (0, 0)))) := below_trans HL1.out.2 ((Below.refl _ _).alloc (Nat.le_refl _) _)
            have HLE := u64_lst HB1.out
            have hsz : (w1.alloc (.cells #[.int .i64 x.op, .int .i64 x.rd, .int .i64 x.a, .int .i64 x.b, .int .i64 x.imm] 30 (0, 0))).heap.size = w1.heap.size + 1 := by simp
            rw [hsz] at HLE
            clear HI4 HL1 hsz
            go_wp2_with fail
            go_ret2
            rw [HR2.out]
            exact ⟨_, rfl, HLE⟩
          | true =>
            have HI5 : Hid (asm ((L.drop (i + 1)).take (i + 1 - (i + 1))) (L.drop (i + 1)) (line + 1) (ws ++ [(encS x).1]) = R) := HI4.out
            have HR1 : Hid ((w1.alloc (.cells #[.int .i64 x.op, .int .i64 x.rd, .int .i64 x.a, .int .i64 x.b, .int .i64 x.imm] 30 (0, 0))).heap[w1.heap.size]? = some (.cells #[.int .i64 x.op, .int .i64 x.rd, .int .i64 x.a, .int .i64 x.b, .int .i64 x.imm] 30 (0, 0))) := heap_alloc_new _ _
            have HE := encS_cc x (HIW.out rfl)
            obtain ⟨y, hy⟩ : ∃ y, y = (encS x).1 := ⟨_, rfl⟩
            obtain ⟨u, hu⟩ : ∃ u, u = (encS x).2 := ⟨_, rfl⟩
            rw [← hy] at HI5
            rw [← hy, ← hu] at HE
            have HEC : Hid _ := HE
            clear HE hy hu HI4
            go_wp2_with fail
            refine (HEC.out _).mono ?_
            rintro e w2 ⟨rfl, hb2⟩
            have HL2 : Hid (Lst 33 w w2 (.slice a0 ws.length c0) ws.length (ws.map (Value.int .u64))) := Lst.below (Lst.below HL1.out ((Below.refl _ _).alloc (Nat.le_refl _) _)) hb2
            clear hb2 HL1 HEC HR1
            go_wp2_with (at_builtin; refine wpList_push1 rfl (.tmp 55) (.tmp 57) 25 33 rfl i0 (.int .u64 0) 8 Tryd.underlying25 hi hz0 hz1 hz2 rfl (by decide) _ ws.length (ws.map (Value.int .u64)) (.int .u64 y) rfl rfl rfl HL2.out (by omega) ?_; intro a' c' w' hL' hg')
            have HL' : Hid (Lst 33 w w' (.slice a' (ws.length + 1) c') (ws ++ [y]).length ((ws ++ [y]).map (Value.int .u64))) := by
              show Lst _ _ _ _ _ _
              simpa using hL'
            clear hL' hg'
            go_roundw
            case rel => exact ⟨i + 1, i + 1, line + 1, ws ++ [y], rfl, rfl, rfl, by omega, by omega, by omega, by simp; omega, HL', HI5⟩
            case measure => simp [intOf]; omega
      · have hne : (s[i]'hlt) ≠ 10 := fun h => h10 (by rw [h]; rfl)
        have HI2 : Hid (asm ((L.drop f).take (i + 1 - f)) (L.drop (i + 1)) line ws = R) := (asm_go hf hat hne line ws).symm.trans hI.out
        have ht : ((((s[i]'hlt).toNat : Nat) : Int) != 10) = true := by simp; omega
        have htn : ((s[i]'hlt).toNat != 10) = true := by simpa using h10
        clear hI hat hne h10
        go_wp2_with fail
        go_roundw
        case rel => exact ⟨i + 1, f, line, ws, rfl, rfl, rfl, by omega, by omega, by omega, by omega, hL, HI2⟩
        case measure => simp [intOf]; omega
    · have hie : i = L.length := by rw [HLen.out]; omega
      have hI2 := hI.out
      rw [hie, List.drop_length, asm] at hI2
      by_cases hfs : f < s.size
      · have hcu : ((L.drop f).take (L.length - f)).isEmpty = false := by
          cases h : (L.drop f).take (L.length - f) with
          | nil =>
            have := congrArg List.length h
            simp [HLen.out] at this
            omega
          | cons a b => rfl
        rw [hcu] at hI2
        have HR2 : Hid (R = ([], (line : Int))) := hI2.symm
        have HLE := u64_lst hL.out.2
        clear hI2 hI hie hcu
        go_wp2_with fail
        go_ret2
        rw [HR2.out]
        exact ⟨_, rfl, HLE⟩
      · have hcu : ((L.drop f).take (L.length - f)).isEmpty = true := by
          rw [List.drop_eq_nil_of_le (by rw [HLen.out]; omega)]; simp
        rw [hcu] at hI2
        have HR2 : Hid (R = (ws, -1)) := hI2.symm
        clear hI2 hI hie hcu
        go_wp2_with fail
        go_ret2
        rw [HR2.out]
        exact ⟨_, rfl, hL.out⟩

def strSz : Value → Nat
  | .string s => s.size
  | _ => 0

theorem nil_lst (e : TypeId) {w wr : World} (h : Below w.heap.size w wr) : Lst e w wr (.slice none 0 0) 0 [] := ⟨⟨rfl, Or.inl ⟨rfl, rfl⟩⟩, h⟩

theorem ops_grown {W w' : World} {bm base e : Nat} {v : Value} {n : Nat} {xs : List Value} (h : OpsAt W bm) (ho : W.ownsRow base e 1 v n xs) (hg : W.grownBy w' v.ownBlock) : OpsAt w' bm := by
  obtain ⟨c, hc⟩ := h
  refine ⟨c, ?_⟩
  rw [hg.block bm (row_lt' hc) (fun e1 => ?_)]
  · exact hc
  · rcases ho.2 with ⟨e2, _⟩ | ⟨g, cap, cur, e2, hgg, hh, _⟩
    · rw [e2] at e1; cases e1
    · rw [e2] at e1
      have e3 : bm = g := Option.some.inj e1
      rw [e3, hh] at hc
      cases hc

set_option maxRecDepth 20000 in
set_option maxHeartbeats 6400000 in
theorem implAsm_any (s : ByteArray) (hs : s.size ≤ 20000) (w : World) (hT : Tp w) :
    Calls Tryd.prog 6 #[.string s] w fun e w' => ∃ v, e = .returned (.tuple #[v, .int .i64 (asm [] s.data.toList 0 []).2]) ∧ Lst 33 w w' v (asm [] s.data.toList 0 []).1.length ((asm [] s.data.toList 0 []).1.map (Value.int .u64)) := by
  obtain ⟨i0, hi, hz0, hz1, hz2⟩ := info_parts infoW
  have HTp : Hid (Tp w) := hT
  obtain ⟨R, hR⟩ : ∃ R, R = asm [] s.data.toList 0 [] := ⟨_, rfl⟩
  have HI0 : Hid (asm [] s.data.toList 0 [] = R) := hR.symm
  rw [← hR]
  have hg : ¬ ((20000 : Int) < (s.size : Int)) := by omega
  clear hR hT
  go_enter Tryd.func6, Tryd.ntmps6
  go_wp2_with fail
  refine (opsByName_any _).mono ?_
  rintro e w1 ⟨bm, rfl, HO, _, hb1⟩
  have HB1 : Hid (Below w.heap.size w w1) := hb1
  have HL0 := u64_lst hb1
  have HO1 : Hid (OpsAt (w1.alloc (.cells #[] 33 (0, 0))) bm) := HO.out.keep ((Below.refl _ _).alloc (Nat.le_refl _) _)
  clear hb1 HO HB1
  go_wp2_with fail
  go_loopw [0, 5, 6] (fun tv ov nv wr => ∃ (T : ByteArray) (n : Nat) (ws : List Int), tv = .string T ∧ nv = .int .i64 n ∧ T.size ≤ 20000 ∧ n + T.size ≤ 20000 ∧ ws.length ≤ n ∧ Hid (Lst 33 w wr ov ws.length (ws.map (Value.int .u64))) ∧ Hid (OpsAt wr bm) ∧
      Hid (asm [] T.data.toList n ws = R))
    (fun tv _ _ _ => strSz tv)
  case atStart => exact ⟨s, 0, [], rfl, rfl, hs, by omega, by simp, HL0, HO1, HI0⟩
  case round =>
    obtain ⟨T, n, ws, rfl, rfl, hT1, hn, hwl, hL, hOp, hI⟩ := hrel
    clear HL0 HO1 HI0
    obtain ⟨a0, c0, hov⟩ := hL.out.slice
    subst hov
    have hwn : wrap64 ((n : Int) + 1) = ((n + 1 : Nat) : Int) := by unfold wrap64; omega
    have HTl : Hid (T.data.toList.length = T.size) := by show _ = _; rw [Array.length_toList]; rfl
    by_cases hT0 : T.size = 0
    · have hnil : T.data.toList = [] := List.eq_nil_of_length_eq_zero (by rw [HTl.out]; exact hT0)
      have hE : T.toList.isEmpty = true := by rw [Go.ByteArray.toList_eq, hnil]; rfl
      have HR2 : Hid (R = (ws, -1)) := by
        show R = _
        rw [← hI.out, hnil, asm]; rfl
      clear hI hnil hT0
      go_wp2_with fail
      go_ret2
      rw [HR2.out]
      exact ⟨_, rfl, hL.out⟩
    · have hE : T.toList.isEmpty = false := by
        rw [Go.ByteArray.toList_eq]
        cases h : T.data.toList with
        | nil => have := HTl.out; rw [h] at this; exact absurd this.symm hT0
        | cons a b => rfl
      clear hT0
      go_wp2_with fail
      refine (cut_any T (by omega) _).mono ?_
      rintro e w2 ⟨⟨kq, rfl⟩, ⟨h1, rfl⟩ | ⟨l, r, h1, h2, rfl⟩⟩
      · have HR2 : Hid (R = ([], (n : Int))) := by
          show R = _
          have h2 := asm_word T.data.toList h1 [] [] n ws
          rw [List.append_nil, List.nil_append] at h2
          have hE2 : T.data.toList.isEmpty = false := by rw [← Go.ByteArray.toList_eq]; exact hE
          rw [← hI.out, h2, asm, hE2]
          rfl
        have HLN : Hid (Lst 33 w (wr.drewN kq) (.slice none 0 0) 0 []) := nil_lst _ (below_drewN hL.out.2 _)
        clear h1 hI hL
        go_wp2_with fail
        go_ret2
        rw [HR2.out]
        exact ⟨_, rfl, HLN.out⟩
      · have hlens := congrArg List.length h1
        rw [HTl.out] at hlens
        simp only [List.length_append, List.length_cons] at hlens
        have hI2 := hI.out
        rw [h1, asm_word l h2, List.nil_append, asm, if_pos rfl] at hI2
        have HI3 : Hid ((if skipL l then asm [] r (n + 1) ws else if (parF l).2 then asm [] r (n + 1) (ws ++ [(encS (parF l).1).1]) else ([], (n : Int))) = R) := hI2
        obtain ⟨S, hS⟩ : ∃ S : ByteArray, S = ⟨l.toArray⟩ := ⟨_, rfl⟩
        obtain ⟨T2, hT2⟩ : ∃ T2 : ByteArray, T2 = ⟨r.toArray⟩ := ⟨_, rfl⟩
        rw [← hS, ← hT2]
        have HST : Hid (S.data.toList = l) := by show S.data.toList = l; rw [hS]
        have HTT : Hid (T2.data.toList = r) := by show T2.data.toList = r; rw [hT2]
        have HSz : Hid (S.size = l.length) := by show S.size = l.length; rw [hS]; simp [ByteArray.size]
        have HTz : Hid (T2.size = r.length) := by show T2.size = r.length; rw [hT2]; simp [ByteArray.size]
        have hsm : S.size ≤ 20000 := by rw [HSz.out]; omega
        have htm : T2.size ≤ 20000 := by rw [HTz.out]; omega
        have hnt : n + 1 + T2.size ≤ 20000 := by rw [HTz.out]; omega
        have hmt : T2.size < T.size := by rw [HTz.out]; omega
        rw [← HTT.out] at HI3
        have HL2 : Hid (Lst 33 w (wr.drewN kq) (.slice a0 ws.length c0) ws.length (ws.map (Value.int .u64))) := Lst.below hL.out (below_drewN (Below.refl _ _) _)
        have HO2 : Hid (OpsAt (wr.drewN kq) bm) := hOp.out.keep (below_drewN (Below.refl _ _) _)
        obtain ⟨w2, hw2⟩ : ∃ w2, w2 = wr.drewN kq := ⟨_, rfl⟩
        rw [← hw2] at HL2 HO2 ⊢
        clear hw2 h1 h2 hlens hI hI2 hS hT2 hL hOp HTz HTT
        cases hsk : skipL l with
        | true =>
          rw [hsk] at HI3
          have HI4 : Hid (asm [] T2.data.toList (n + 1) ws = R) := HI3.out
          clear HI3
          by_cases hS0 : S.size = 0
          · have hE2 : S.toList.isEmpty = true := by
              rw [Go.ByteArray.toList_eq, HST.out]
              rw [HSz.out] at hS0
              rw [List.eq_nil_of_length_eq_zero hS0]; rfl
            clear hsk hS0
            go_wp2_with fail
            go_roundw
            case rel => exact ⟨T2, n + 1, ws, rfl, rfl, htm, hnt, by omega, HL2, HO2, HI4⟩
            case measure => exact hmt
          · have hSp : 0 < S.size := by omega
            have hE2 : S.toList.isEmpty = false := by
              rw [Go.ByteArray.toList_eq, HST.out]
              rw [HSz.out] at hS0
              cases h : l with
              | nil => rw [h] at hS0; exact absurd rfl hS0
              | cons a b => rfl
            have h35 : (S[0]'hSp).toNat = 35 := by
              have h1 := str_at S 0 hSp
              rw [HST.out, ← List.head?_eq_getElem?] at h1
              have hE3 : l.isEmpty = false := by rw [← HST.out, ← Go.ByteArray.toList_eq]; exact hE2
              unfold skipL at hsk
              rw [hE3, Bool.false_or, h1] at hsk
              have := Option.some.inj (of_decide_eq_true hsk)
              rw [this]; rfl
            have hti : ((((S[0]'hSp).toNat : Nat) : Int) == 35) = true := by rw [h35]; rfl
            have htn2 : ((S[0]'hSp).toNat == 35) = true := by rw [h35]; rfl
            clear hsk hS0 h35
            go_wp2_with fail
            go_roundw
            case rel => exact ⟨T2, n + 1, ws, rfl, rfl, htm, hnt, by omega, HL2, HO2, HI4⟩
            case measure => exact hmt
        | false =>
          rw [hsk] at HI3
          have HI4 : Hid ((if (parF l).2 then asm [] T2.data.toList (n + 1) (ws ++ [(encS (parF l).1).1]) else ([], (n : Int))) = R) := HI3.out
          clear HI3
          have hsk2 := hsk
          unfold skipL at hsk2
          rw [Bool.or_eq_false_iff] at hsk2
          have hE2 : S.toList.isEmpty = false := by rw [Go.ByteArray.toList_eq, HST.out]; exact hsk2.1
          have hSp : 0 < S.size := by
            rw [HSz.out]
            cases h : l with
            | nil => rw [h] at hsk2; cases hsk2.1
            | cons a b => simp
          have h35 : (S[0]'hSp).toNat ≠ 35 := by
            intro h
            have h1 := str_at S 0 hSp
            rw [HST.out, ← List.head?_eq_getElem?, u8_eq (by decide) h] at h1
            rw [h1] at hsk2
            exact absurd hsk2.2 (by decide)
          have hti : ((((S[0]'hSp).toNat : Nat) : Int) == 35) = false := by simp; omega
          have htn2 : ((S[0]'hSp).toNat == 35) = false := by simpa using h35
          clear hsk hsk2 h35
          go_wp2_with fail
          refine (parseBy_any S (by omega) _ bm HO2.out (HTp.out.below HL2.out.2)).mono ?_
          rintro e w3 ⟨x, t, rfl, hpr, hb3⟩
          rw [HST.out] at hpr
          rw [parF_of hpr] at HI4
          have HIW : Hid (t = true → IW x) := by
            intro ht
            rcases hpr with ⟨_, h, _⟩ | ⟨h, _⟩
            · exact h
            · rw [ht] at h; cases h
          have HL3 : Hid (Lst 33 w w3 (.slice a0 ws.length c0) ws.length (ws.map (Value.int .u64))) := Lst.below HL2.out hb3
          have HO3 : Hid (OpsAt w3 bm) := HO2.out.keep hb3
          clear hpr hb3 HL2 HO2
          unfold Ins.val
          cases t with
          | false =>
            have HR2 : Hid (R = ([], (n : Int))) := HI4.out.symm
            have HLN : Hid (Lst 33 w (w3.alloc (.cells #[.int .i64 x.op, .int .i64 x.rd, .int .i64 x.a, .int .i64 x.b, .int .i64 x.imm] 30 (0, 0))) (.slice none 0 0) 0 []) := nil_lst _ (below_trans HL3.out.2 ((Below.refl _ _).alloc (Nat.le_refl _) _))
            clear HI4 HL3
            go_wp2_with fail
            go_ret2
            rw [HR2.out]
            exact ⟨_, rfl, HLN.out⟩
          | true =>
            have HI5 : Hid (asm [] T2.data.toList (n + 1) (ws ++ [(encS x).1]) = R) := HI4.out
            have HE := encI_cc x (HIW.out rfl)
            obtain ⟨y, hy⟩ : ∃ y, y = (encS x).1 := ⟨_, rfl⟩
            obtain ⟨u, hu⟩ : ∃ u, u = (encS x).2 := ⟨_, rfl⟩
            rw [← hy] at HI5
            rw [← hy, ← hu] at HE
            have HEC : Hid _ := HE
            clear HE hy hu HI4
            go_wp2_with fail
            refine (HEC.out _).mono ?_
            rintro e w4 ⟨rfl, hb4⟩
            have HL4 : Hid (Lst 33 w w4 (.slice a0 ws.length c0) ws.length (ws.map (Value.int .u64))) := Lst.below (Lst.below HL3.out ((Below.refl _ _).alloc (Nat.le_refl _) _)) hb4
            have HO4 : Hid (OpsAt w4 bm) := (HO3.out.keep ((Below.refl _ _).alloc (Nat.le_refl _) _)).keep hb4
            clear hb4 HL3 HEC HO3
            go_wp2_with (at_builtin; refine wpList_push1 rfl (.tmp 54) (.tmp 56) 25 33 rfl i0 (.int .u64 0) 8 Tryd.underlying25 hi hz0 hz1 hz2 rfl (by decide) _ ws.length (ws.map (Value.int .u64)) (.int .u64 y) rfl rfl rfl HL4.out (by omega) ?_; intro a' c' w' hL' hg')
            have HO5 : Hid (OpsAt w' bm) := ops_grown (HO4.out.keep ((Below.refl _ _).alloc (Nat.le_refl _) _)) (Lst.below HL4.out ((Below.refl _ _).alloc (Nat.le_refl _) _)).1 hg'
            have HL' : Hid (Lst 33 w w' (.slice a' (ws.length + 1) c') (ws ++ [y]).length ((ws ++ [y]).map (Value.int .u64))) := by
              show Lst _ _ _ _ _ _
              simpa using hL'
            clear hL' hg'
            go_roundw
            case rel => exact ⟨T2, n + 1, ws ++ [y], rfl, rfl, htm, hnt, by simp; omega, HL', HO5, HI5⟩
            case measure => exact hmt

noncomputable def asmAll (L : List UInt8) : List Int × Int := if L.length ≤ 20000 then asm [] L 0 [] else ([], 0)

theorem asmAll_len (L : List UInt8) : (asmAll L).1.length ≤ 20000 := by
  unfold asmAll
  split
  · have := asm_len L [] 0 []
    simp at this
    omega
  · simp

theorem specAsm_all (s : ByteArray) (hs : s.size ≤ 1048576) (w : World) :
    Calls Tryd.prog 7 #[.string s] w fun e w' => ∃ v, e = .returned (.tuple #[v, .int .i64 (asmAll s.data.toList).2]) ∧ Lst 33 w w' v (asmAll s.data.toList).1.length ((asmAll s.data.toList).1.map (Value.int .u64)) := by
  have hl : s.data.toList.length = s.size := by rw [Array.length_toList]; rfl
  by_cases h : s.size ≤ 20000
  · have e : asmAll s.data.toList = asm [] s.data.toList 0 [] := by unfold asmAll; rw [if_pos (by omega)]
    rw [e]
    exact specAsm_any s h w
  · have e : asmAll s.data.toList = ([], 0) := by unfold asmAll; rw [if_neg (by omega)]
    rw [e]
    have hg : ((20000 : Int) < (s.size : Int)) := by omega
    have HL0 := lst_empty 33 w
    clear e
    go_enter Tryd.func7, Tryd.ntmps7
    go_wp2_with fail
    go_ret2
    exact ⟨_, rfl, HL0⟩

theorem implAsm_all (s : ByteArray) (hs : s.size ≤ 1048576) (w : World) (hT : Tp w) :
    Calls Tryd.prog 6 #[.string s] w fun e w' => ∃ v, e = .returned (.tuple #[v, .int .i64 (asmAll s.data.toList).2]) ∧ Lst 33 w w' v (asmAll s.data.toList).1.length ((asmAll s.data.toList).1.map (Value.int .u64)) := by
  have hl : s.data.toList.length = s.size := by rw [Array.length_toList]; rfl
  by_cases h : s.size ≤ 20000
  · have e : asmAll s.data.toList = asm [] s.data.toList 0 [] := by unfold asmAll; rw [if_pos (by omega)]
    rw [e]
    exact implAsm_any s h w hT
  · have e : asmAll s.data.toList = ([], 0) := by unfold asmAll; rw [if_neg (by omega)]
    rw [e]
    have hg : ((20000 : Int) < (s.size : Int)) := by omega
    have HL0 : Hid (Lst 33 w w (.slice none 0 0) 0 []) := nil_lst _ (Below.refl _ _)
    clear e
    go_enter Tryd.func6, Tryd.ntmps6
    go_wp2_with fail
    go_ret2
    exact ⟨_, rfl, HL0.out⟩

namespace fnExactAssemble

end fnExactAssemble

end Go.Proofs.YtjjpklalihaanaaDoor
