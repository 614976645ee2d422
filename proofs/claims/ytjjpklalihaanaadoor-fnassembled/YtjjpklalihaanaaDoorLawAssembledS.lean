/- The walk of laws.FnAssembled: shown words are assembled to themselves, and lie in the image one behind the other. -/
import Derived.Test.YtjjpklalihaanaaDoorK15
import Derived.Test.YtjjpklalihaanaaDoorK16
import Derived.Test.YtjjpklalihaanaaDoorK19
import Derived.Test.YtjjpklalihaanaaDoorK21
import Derived.Test.YtjjpklalihaanaaDoorK23
namespace Go.Proofs.YtjjpklalihaanaaDoor.fnAssembled
open Go.RowKit
set_option linter.unusedVariables false

theorem asm_ends : ∀ (L cur : List UInt8) (line : Nat) (ws : List Int), (asm cur L line ws).2 = -1 ∨ (0 ≤ (asm cur L line ws).2 ∧ (asm cur L line ws).1 = []) := by
  intro L
  induction L with
  | nil =>
    intro cur line ws
    rw [asm]
    split
    · exact .inl rfl
    · exact .inr ⟨by simp, rfl⟩
  | cons c L ih =>
    intro cur line ws
    rw [asm]
    split
    · split
      · exact ih _ _ _
      · split
        · exact ih _ _ _
        · exact .inr ⟨by simp, rfl⟩
    · exact ih _ _ _

theorem linesL_app (a b : List Ins) : linesL (a ++ b) = linesL a ++ linesL b := by simp [linesL]

theorem linesL_take (js : List Ins) (k : Nat) : (linesL (js.take k)).length ≤ (linesL js).length := by
  have h : linesL js = linesL (js.take k) ++ linesL (js.drop k) := by rw [← linesL_app, List.take_append_drop]
  rw [h, List.length_append]
  omega

theorem linesL_next (js : List Ins) (k : Nat) (j : Ins) (h : js[k]? = some j) : linesL (js.take (k + 1)) = linesL (js.take k) ++ shText j ++ [10] := by
  rw [List.take_add_one, h, linesL_app]
  simp [linesL]

/-- What both assemble a text to: nothing, and a line's number; or the words of instructions whose lines are short, and -1. -/
theorem asmAll_ends (L : List UInt8) : (0 ≤ (asmAll L).2 ∧ (asmAll L).1 = []) ∨
    ((asmAll L).2 = -1 ∧ ∃ js : List Ins, (∀ j ∈ js, IW j ∧ (encS j).2 = true) ∧ (asmAll L).1 = js.map (fun j => (encS j).1) ∧ (linesL js).length ≤ 20000) := by
  unfold asmAll
  split
  · rename_i hl
    rcases asm_ends L [] 0 [] with h | h
    · refine .inr ⟨h, ?_⟩
      obtain ⟨js, h1, h2, h3⟩ := asm_back L [] 0 [] (asm [] L 0 []).1 (by rw [← h])
      exact ⟨js, h1, by simpa using h2, by simp at h3; omega⟩
    · exact .inl h
  · exact .inl ⟨by simp, rfl⟩

theorem asmAll_shown (js : List Ins) (h : ∀ j ∈ js, IW j ∧ (encS j).2 = true) (hl : (linesL js).length ≤ 20000) : asmAll (linesL js) = (js.map (fun j => (encS j).1), -1) := by
  unfold asmAll
  rw [if_pos hl, asm_shown js 0 [] h]
  rfl

theorem enc_word {j : Ins} (h : (encS j).2 = true) : 0 ≤ (encS j).1 ∧ (encS j).1 < 4294967296 := by
  have h1 := (fnDecoded.enc_true h).2
  have h2 := fnDecoded.encS_U j
  unfold dec at h1
  split at h1
  · exact ⟨h2.1, by assumption⟩
  · cases h1

set_option maxHeartbeats 400000 in
theorem like_any (a b : Option Addr) (n m ca cb : Nat) (xs ys : List Int) (w : World) (hx : xs.length = n) (hy : ys.length = m) (hn : n ≤ 1048576) (hm : m ≤ 1048576) (hs : Sl .u64 w a xs) (ht : Sl .u64 w b ys) :
    Calls Tryd.prog 8 #[.slice a n ca, .slice b m cb] w fun e w' => e = .returned (.bool (decide (xs = ys))) ∧ Below w.heap.size w w' := by
  by_cases hnm : n = m
  · subst hnm
    have HX : Hid (xs.length = n) := hx
    have HY : Hid (ys.length = n) := hy
    have hnn : ((n : Int) != (n : Int)) = false := by simp
    clear hx hy
    go_enter Tryd.func8, Tryd.ntmps8
    go_wp2
    go_loopw [5] (fun i wr => ∃ k : Nat, k ≤ n ∧ i = .int .i64 k ∧ Hid (xs.take k = ys.take k) ∧ Below w.heap.size w wr)
      (fun i _ => n - (intOf i).toNat)
    case atStart => exact ⟨0, Nat.zero_le _, rfl, (rfl : xs.take 0 = ys.take 0), Below.refl _ _⟩
    case round =>
      obtain ⟨k, hk, rfl, heq, hbel⟩ := hrel
      by_cases hlt : k < n
      · obtain ⟨b1, o1, rfl, hb1, hc1⟩ := hs k (by have := HX.out; omega)
        obtain ⟨b2, o2, rfl, hb2, hc2⟩ := ht k (by have := HY.out; omega)
        obtain ⟨x, hxx⟩ : ∃ x, x = xs.getD k 0 := ⟨_, rfl⟩
        obtain ⟨y, hyy⟩ : ∃ y, y = ys.getD k 0 := ⟨_, rfl⟩
        have c1 : wr.cell? ⟨b1, o1 + k, none⟩ = some (.int .u64 x) := by rw [hxx]; exact (hbel.cell (by exact hb1)).trans hc1
        have c2 : wr.cell? ⟨b2, o2 + k, none⟩ = some (.int .u64 y) := by rw [hyy]; exact (hbel.cell (by exact hb2)).trans hc2
        have XX : Hid (x = xs.getD k 0) := hxx
        have YY : Hid (y = ys.getD k 0) := hyy
        clear hc1 hc2 hxx hyy
        by_cases hxy : x = y
        · subst hxy
          have R := take_next xs ys k n HX.out HY.out hlt heq.out (XX.out.symm.trans YY.out)
          have RR : Hid (xs.take (k + 1) = ys.take (k + 1)) := R
          clear R
          have hne : (x != x) = false := by simp
          go_wp2
          go_region
          all_goals go_wp2
          all_goals go_roundw
          case rel => exact ⟨k + 1, by omega, by go_num, RR, hbel.drew⟩
          case measure => simp [intOf]; omega
        · have F : Hid (decide (xs = ys) = false) := by
            show decide (xs = ys) = false
            rw [decide_eq_false_iff_not]
            intro h; apply hxy; rw [XX.out, YY.out, h]
          have hne : (x != y) = true := by simpa using hxy
          clear hxy
          go_wp2
          go_region
          all_goals go_wp2
          all_goals go_ret
          all_goals exact ⟨by rw [F.out]; rfl, hbel.drew⟩
      · have hkn : k = n := by omega
        subst hkn
        have F : Hid (decide (xs = ys) = true) := by
          show decide (xs = ys) = true
          rw [decide_eq_true_eq]
          have h := heq.out
          rw [List.take_of_length_le (by have := HX.out; omega), List.take_of_length_le (by have := HY.out; omega)] at h
          exact h
        go_wp2
        go_ret
        exact ⟨by rw [F.out]; rfl, hbel⟩
  · have F : Hid (decide (xs = ys) = false) := by
      show decide (xs = ys) = false
      rw [decide_eq_false_iff_not]
      intro h; apply hnm; rw [← hx, ← hy, h]
    have hne : ((n : Int) != (m : Int)) = true := by simp; omega
    clear hx hy
    go_enter Tryd.func8, Tryd.ntmps8
    go_wp2
    go_ret
    exact ⟨by rw [F.out]; rfl, Below.refl _ _⟩

theorem bytes_two (a b : List UInt8) : (⟨a.toArray⟩ : ByteArray) ++ ⟨b.toArray⟩ ++ ⟨#[10]⟩ = ⟨(a ++ b ++ [10]).toArray⟩ := by
  ext1
  rw [ByteArray.data_append, ByteArray.data_append]
  simp

theorem slice_some {e : TypeId} {w0 wr : World} {a : Option Addr} {n c : Nat} {xs : List Value} (h : Lst e w0 wr (.slice a n c) n xs) (hn : 0 < n) : ∃ g, a = some ⟨g, 0, none⟩ ∧ n ≤ c ∧ c ≤ 9223372036854775807 := by
  rcases h.1.2 with ⟨_, h0⟩ | ⟨g, cap, cur, e1, hg, hh, h1, h2, _⟩
  · omega
  · cases e1
    exact ⟨g, rfl, h1, h2⟩

theorem bd8 {y : Int} (h : 0 ≤ y ∧ y ≤ 255) : (Lit.int .u8 y).wf = true := by
  simpa [Lit.wf, IntKind.min, IntKind.max, IntKind.signed, IntKind.bits] using h

set_option maxRecDepth 20000 in
set_option maxHeartbeats 6400000 in
theorem walk (a0 : Option Addr) (len0 cap0 : Nat) (z0 : List Int) (w : World) (w0 : IsRow .u8 w a0 len0 cap0 z0) (hT : Tp w) :
    Calls Tryd.prog 3 #[.slice a0 len0 cap0] w fun e w' => e = .returned (.bool true) ∧ Below w.heap.size w w' := by
  by_cases hbig : 4096 < len0
  · have hb : decide (4096 < len0) = true := by simpa using hbig
    go_enter Tryd.func3, Tryd.ntmps3
    go_wp2_with fail
    refine (big_any a0 len0 cap0 _).mono ?_
    rintro e w1 ⟨rfl, hw1⟩
    subst hw1
    rw [hb]
    go_wp2_with fail
    go_ret
    exact ⟨rfl, Below.refl _ _⟩
  · have hb : decide (4096 < len0) = false := by simpa using hbig
    obtain ⟨zs, hcd⟩ := code_of w0 (by omega)
    have HD : Hid (Code w a0 len0 zs) := hcd
    have HTp : Hid (Tp w) := hT
    clear hcd w0 hbig hT
    go_enter Tryd.func3, Tryd.ntmps3
    go_wp2_with fail
    refine (big_any a0 len0 cap0 _).mono ?_
    rintro e w1 ⟨rfl, hw1⟩
    have hw1' := hw1.symm
    subst hw1'
    rw [hb]
    clear hb
    go_wp2_with fail
    refine (DrawAssemble_c cap0 (fun i hi => ⟨⟨(showL i).toArray⟩, by simpa [ByteArray.size] using showL_len i hi, fun W => specShow_any i hi W⟩) _ HD.out).mono ?_
    rintro e w2 ⟨t, rfl, htl, HB2⟩
    have HS0 := specAsm_all t (by omega)
    have HI0 := implAsm_all t (by omega)
    have HE0 := asmAll_ends t.data.toList
    have HN0 := asmAll_len t.data.toList
    obtain ⟨⟨ws, q⟩, hR⟩ : ∃ R, R = asmAll t.data.toList := ⟨_, rfl⟩
    rw [← hR] at HS0 HI0 HE0 HN0
    simp only at HS0 HI0 HE0 HN0
    obtain ⟨n, hn⟩ : ∃ n, n = ws.length := ⟨_, rfl⟩
    rw [← hn] at HS0 HI0 HN0
    have HN : Hid (ws.length = n) := hn.symm
    have HS : Hid _ := HS0
    have HI : Hid _ := HI0
    have HE : Hid _ := HE0
    have tq : (q != q) = false := by simp
    clear HS0 HI0 HE0 hR hn htl HD
    go_wp2_with fail
    refine (HI.out _ (HTp.out.below HB2.out)).mono ?_
    rintro e w3 ⟨v3, rfl, hL3⟩
    obtain ⟨a3, c3, rfl⟩ := hL3.slice
    have L3 : Hid (Lst 33 w2 w3 (.slice a3 n c3) n (ws.map (Value.int .u64))) := hL3
    have B3 : Hid (Below w.heap.size w w3) := below_trans HB2.out hL3.2
    clear hL3 HB2
    go_wp2_with fail
    refine (HS.out _).mono ?_
    rintro e w4 ⟨v4, rfl, hL4⟩
    obtain ⟨a4, c4, rfl⟩ := hL4.slice
    have L4 : Hid (Lst 33 w3 w4 (.slice a4 n c4) n (ws.map (Value.int .u64))) := hL4
    have L34 : Hid (Lst 33 w2 w4 (.slice a3 n c3) n (ws.map (Value.int .u64))) := L3.out.below hL4.2
    have B4 : Hid (Below w.heap.size w w4) := below_trans B3.out hL4.2
    clear hL4 L3 B3 HS HI
    go_wp2_with fail
    refine (like_any a3 a4 n n c3 c4 ws ws _ HN.out HN.out (by omega) (by omega) (own_sl' L34.out.1) (own_sl' L4.out.1)).mono ?_
    rintro e w5 ⟨rfl, hb5⟩
    have L5 : Hid (Lst 33 w2 w5 (.slice a3 n c3) n (ws.map (Value.int .u64))) := L34.out.below hb5
    have B5 : Hid (Below w.heap.size w w5) := below_trans B4.out hb5
    rw [show decide (ws = ws) = true from by simp]
    clear hb5 L4 L34 B4 tq
    rcases HE.out with ⟨hq, hw0⟩ | ⟨hq, js, hjs, hwj, hlen⟩
    · have hn0 : n = 0 := by rw [← HN.out, hw0]; rfl
      subst hn0
      clear hw0 HE HN L5
      go_wp2_with fail
      go_ret
      exact ⟨rfl, B5.out⟩
    · subst hq
      have HJ : Hid (∀ j ∈ js, IW j ∧ (encS j).2 = true) := hjs
      have HW : Hid (ws = js.map (fun j => (encS j).1)) := hwj
      have HL : Hid ((linesL js).length ≤ 20000) := hlen
      have HJN : Hid (js.length = n) := by
        show js.length = n
        rw [← HN.out, hwj, List.length_map]
      clear hjs hwj hlen HE
      go_wp2_with fail
      go_loopw [8, 9] (fun sv iv wr => ∃ k : Nat, k ≤ n ∧ iv = .int .i64 k ∧ sv = .string ⟨(linesL (js.take k)).toArray⟩ ∧ Hid (Below w5.heap.size w5 wr))
        (fun _ iv _ => n - (intOf iv).toNat)
      case atStart => exact ⟨0, Nat.zero_le _, rfl, by simp [linesL], Below.refl _ _⟩
      case round =>
        obtain ⟨k, hk, rfl, rfl, hbel⟩ := hrel
        by_cases hlt : k < n
        · obtain ⟨j, hj⟩ : ∃ j, js[k]? = some j := ⟨_, List.getElem?_eq_getElem (by rw [HJN.out]; exact hlt)⟩
          obtain ⟨hiw, hok⟩ := HJ.out j (List.mem_of_getElem? hj)
          have hwk : (ws.map (Value.int .u64))[k]? = some (.int .u64 (encS j).1) := by rw [HW.out]; simp [hj]
          obtain ⟨g, c, hvv, hgg, hcell⟩ := (L5.out.below hbel.out).cell k _ hwk
          cases hvv
          have hDI := fnDecoded.decI_c (fnDecoded.encS_U j) (fnDecoded.enc_true hok).2
          have hSI := implShow_any j hiw
          rw [show showL j = shText j from by unfold showL; rw [if_pos hok]] at hSI
          have hlen2 : (linesL (js.take k)).length + (shText j).length + 1 ≤ 20000 := by
            have h1 := linesL_take js (k + 1)
            rw [linesL_next js k j hj] at h1
            have := HL.out
            simp at h1
            omega
          have hnext : Hid ((⟨(linesL (js.take k)).toArray⟩ : ByteArray) ++ ⟨(shText j).toArray⟩ ++ ⟨#[10]⟩ = ⟨(linesL (js.take (k + 1))).toArray⟩) := by
            show _ = _
            rw [bytes_two, linesL_next js k j hj]
          obtain ⟨u, hu⟩ : ∃ u, u = (encS j).1 := ⟨_, rfl⟩
          obtain ⟨S, hS⟩ : ∃ S : ByteArray, S = ⟨(linesL (js.take k)).toArray⟩ := ⟨_, rfl⟩
          obtain ⟨T, hTT⟩ : ∃ T : ByteArray, T = ⟨(shText j).toArray⟩ := ⟨_, rfl⟩
          have hsz1 : S.size = (linesL (js.take k)).length := by rw [hS]; rfl
          have hsz2 : T.size = (shText j).length := by rw [hTT]; rfl
          rw [← hu] at hDI hcell
          rw [← hTT] at hSI
          rw [← hS, ← hTT] at hnext
          rw [← hS]
          have HDI : Hid _ := hDI
          have HSI : Hid _ := hSI
          have hg1 : ¬ 9223372036854775807 < S.size + T.size := by omega
          have hg2 : ¬ 9223372036854775807 < S.size + T.size + 1 := by omega
          obtain ⟨o0, o1, o2, o3, o4⟩ := j
          simp only at HDI HSI
          clear hDI hSI hu hS hTT hsz1 hsz2 hlen2 hwk hj hiw hok
          go_wp2_with fail
          refine (HDI.out _).mono ?_
          rintro e w6 ⟨rfl, hb6⟩
          have B6 : Hid (Below w5.heap.size w5 w6) := below_trans hbel.out hb6
          have r2 : Hid ((w6.alloc (.cells #[.int .i64 o0, .int .i64 o1, .int .i64 o2, .int .i64 o3, .int .i64 o4] 30)).heap[w6.heap.size]? = some (.cells #[.int .i64 o0, .int .i64 o1, .int .i64 o2, .int .i64 o3, .int .i64 o4] 30 (0, 0))) := heap_alloc_new _ _
          have B7 : Hid (Below w5.heap.size w5 (w6.alloc (.cells #[.int .i64 o0, .int .i64 o1, .int .i64 o2, .int .i64 o3, .int .i64 o4] 30))) := B6.out.alloc B6.out.size _
          have hguard := inst_guard
          clear hb6 hcell
          go_wp2_with fail
          refine (HSI.out _ (HTp.out.below (below_trans B5.out B7.out))).mono ?_
          rintro e w8 ⟨rfl, hb8⟩
          have B8 : Hid (Below w5.heap.size w5 w8) := below_trans B7.out hb8
          clear hb8 B7 B6 hbel r2
          go_wp2_with fail
          rw [hnext.out]
          go_roundw
          case rel => exact ⟨k + 1, by omega, by go_num, rfl, B8⟩
          case measure => simp [intOf]; omega
        · have hkn : k = n := by omega
          subst hkn
          rw [show js.take k = js from List.take_of_length_le (by rw [HJN.out]; exact Nat.le_refl _)]
          have HA0 := implAsm_all ⟨(linesL js).toArray⟩ (by show (linesL js).length ≤ 1048576; have := HL.out; omega)
          rw [show asmAll (⟨(linesL js).toArray⟩ : ByteArray).data.toList = (ws, -1) from by rw [HW.out]; exact asmAll_shown js HJ.out HL.out] at HA0
          simp only at HA0
          rw [HN.out] at HA0
          have HWB : Hid (∀ x ∈ ws, 0 ≤ x ∧ x < 4294967296) := by
            intro x hx
            rw [HW.out] at hx
            obtain ⟨j, hj, rfl⟩ := List.mem_map.1 hx
            exact enc_word (HJ.out j hj).2
          obtain ⟨S, hS⟩ : ∃ S : ByteArray, S = ⟨(linesL js).toArray⟩ := ⟨_, rfl⟩
          rw [← hS] at HA0 ⊢
          have HA : Hid _ := HA0
          have L6 : Hid (Lst 33 w2 wr (.slice a3 k c3) k (ws.map (Value.int .u64))) := L5.out.below hbel.out
          have B6 : Hid (Below w.heap.size w wr) := below_trans B5.out hbel.out
          clear HA0 hS HJ HL HJN HW hbel hk hlt L5 B5
          go_wp2_with fail
          refine (HA.out _ (HTp.out.below B6.out)).mono ?_
          rintro e w6 ⟨v6, rfl, hL6⟩
          obtain ⟨a6, c6, rfl⟩ := hL6.slice
          have L7 : Hid (Lst 33 wr w6 (.slice a6 k c6) k (ws.map (Value.int .u64))) := hL6
          have L67 : Hid (Lst 33 w2 w6 (.slice a3 k c3) k (ws.map (Value.int .u64))) := L6.out.below hL6.2
          have B7 : Hid (Below w.heap.size w w6) := below_trans B6.out hL6.2
          clear hL6 L6 B6 HA
          go_wp2_with fail
          refine (like_any a6 a3 k k c6 c3 ws ws _ HN.out HN.out (by omega) (by omega) (own_sl' L7.out.1) (own_sl' L67.out.1)).mono ?_
          rintro e w7 ⟨rfl, hb7⟩
          have L8 : Hid (Lst 33 w2 w7 (.slice a3 k c3) k (ws.map (Value.int .u64))) := L67.out.below hb7
          have B8 : Hid (Below w.heap.size w w7) := below_trans B7.out hb7
          rw [show decide (ws = ws) = true from by simp]
          clear hb7 L7 L67 B7
          go_wp2_with fail
          refine (implImage_any a3 k c3 ws 4096 _ HN.out (by omega) (own_sl' L8.out.1) (fun x hx => ⟨(HWB.out x hx).1, by have := (HWB.out x hx).2; omega⟩) rfl).mono ?_
          rintro e w8 ⟨v8, rfl, hL8⟩
          obtain ⟨hI1, hI2⟩ := img_loads ws HWB.out
          rw [HN.out] at hI1
          cases himg : imgL ws 4096 with
          | none =>
            rw [himg] at hL8 hI1
            have hgr : ¬ ((k : Int) ≤ 1024) := by
              have := of_decide_eq_false hI1.symm
              omega
            obtain ⟨a8, c8, rfl⟩ := hL8.slice
            have B9 : Hid (Below w.heap.size w w8) := below_trans B8.out hL8.2
            have hgr2 : (decide ((k : Int) ≤ 1024)) = false := decide_eq_false hgr
            have hkk : (0 : Int) < (k : Int) := by omega
            simp only [Option.isSome_none]
            clear hL8 hI1 hI2 himg HWB L8 B8 HN
            go_wp2_with fail
            go_loopw [16] (fun iv wr => iv = .int .i64 0 ∧ wr = w8) (fun _ _ => 0)
            case atStart => exact ⟨rfl, rfl⟩
            case round =>
              obtain ⟨rfl, rfl⟩ := hrel
              go_wp2_with fail
              go_ret
              exact ⟨rfl, B9.out⟩
          | some ys =>
            obtain ⟨hyl, hyb, hld⟩ := hI2 ys himg
            rw [himg] at hL8 hI1
            have hsm : k ≤ 1024 := of_decide_eq_true hI1.symm
            simp only [Option.getD_some, hyl] at hL8
            obtain ⟨a8, c8, rfl⟩ := hL8.slice
            obtain ⟨g, rfl, hc1, hc2⟩ := slice_some hL8 (by omega)
            have L9 : Hid (Lst 5 w7 w8 (.slice (some ⟨g, 0, none⟩) 4096 c8) 4096 (ys.map (Value.int .u8))) := hL8
            have L89 : Hid (Lst 33 w2 w8 (.slice a3 k c3) k (ws.map (Value.int .u64))) := L8.out.below hL8.2
            have B9 : Hid (Below w.heap.size w w8) := below_trans B8.out hL8.2
            have HYB : Hid (∀ y ∈ ys, (Lit.int .u8 y).wf = true) := by
              intro y hy
              exact bd8 (hyb y hy)
            have HLD : Hid (∀ i, i < k → loadB ys 4096 (2147483648 + 4 * (i : Int)) 4 = ws.getD i 0) := fun i hi => hld i (by rw [HN.out]; exact hi)
            have HYL : Hid (ys.length = 4096) := hyl
            have hgr2 : (decide ((k : Int) ≤ 1024)) = true := decide_eq_true (by omega)
            simp only [Option.isSome_some]
            clear hL8 hI1 hI2 himg HWB L8 B8 hyl hyb hld
            go_wp2_with fail
            go_loopw [16] (fun iv wr => ∃ i : Nat, i ≤ k ∧ iv = .int .i64 i ∧ Hid (Below w8.heap.size w8 wr)) (fun iv _ => k - (intOf iv).toNat)
            case atStart => exact ⟨0, Nat.zero_le _, rfl, Below.refl _ _⟩
            case round =>
              obtain ⟨i, hi, rfl, hbel⟩ := hrel
              by_cases hlt : i < k
              · have hwk : (ws.map (Value.int .u64))[i]? = some (.int .u64 (ws.getD i 0)) := by
                  rw [List.getElem?_map, List.getElem?_eq_getElem (by rw [HN.out]; exact hlt)]
                  simp [List.getD, HN.out, hlt]
                obtain ⟨x, hx⟩ : ∃ x, x = ws.getD i 0 := ⟨_, rfl⟩
                have HL1 := HLD.out i hlt
                rw [← hx] at hwk HL1
                have hadr : (2147483648 + 4 * (i : Int)) ≤ 18446744073709551615 := by omega
                have hne : (x != x) = false := by simp
                go_wp2_with fail
                refine (implLoad_any g 4096 c8 ys (2147483648 + 4 * (i : Int)) 4 _ HYL.out (by omega) (own_sl' (L9.out.below hbel.out).1) HYB.out hc1 hc2 (by omega) hadr).mono ?_
                rintro e w9 ⟨rfl, hb9⟩
                rw [HL1]
                obtain ⟨g2, c2, hvv, hgg, hcell⟩ := (L89.out.below (below_trans hbel.out hb9)).cell i _ hwk
                cases hvv
                have B10 : Hid (Below w8.heap.size w8 w9) := below_trans hbel.out hb9
                clear hb9 hbel hwk hx HL1
                go_wp2_with fail
                go_roundw
                case rel => exact ⟨i + 1, by omega, by go_num, B10⟩
                case measure => simp [intOf]; omega
              · have hkn : i = k := by omega
                subst hkn
                go_wp2_with fail
                go_ret
                exact ⟨rfl, below_trans B9.out hbel.out⟩

end Go.Proofs.YtjjpklalihaanaaDoor.fnAssembled
