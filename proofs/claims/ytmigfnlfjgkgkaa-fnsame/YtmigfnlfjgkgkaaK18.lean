/- Own lemmas. -/
import Derived.Test.YtmigfnlfjgkgkaaK01
import Derived.Test.YtmigfnlfjgkgkaaK02
import Derived.Test.YtmigfnlfjgkgkaaK05
import Derived.Test.YtmigfnlfjgkgkaaK06
import Derived.Test.YtmigfnlfjgkgkaaK08
import Derived.Test.YtmigfnlfjgkgkaaK17
import Derived.BigQuiet
import Derived.OwnWalk
namespace Go.Proofs.Ytmigfnlfjgkgkaa
open Go.RowKit
set_option linter.unusedVariables false

set_option maxHeartbeats 400000 in
theorem l12Words_any (a b : Option Addr) (n m ca cb : Nat) (xs ys : List Int) (w : World) (hx : xs.length = n) (hy : ys.length = m) (hn : n ≤ 1048576) (hm : m ≤ 1048576) (hs : Sl .u64 w a xs) (ht : Sl .u64 w b ys) :
    Calls Try.prog 19 #[.slice a n ca, .slice b m cb] w fun e w' => e = .returned (.bool (decide (xs = ys))) ∧ Below w.heap.size w w' := by
  by_cases hnm : n = m
  · subst hnm
    have HX : Hid (xs.length = n) := hx
    have HY : Hid (ys.length = n) := hy
    have hnn : ((n : Int) != (n : Int)) = false := by simp
    clear hx hy
    go_enter Try.func19, Try.ntmps19
    go_wp2
    go_loopw [5] (fun i wr => ∃ k : Nat, k ≤ n ∧ i = .int .i64 k ∧ Hid (xs.take k = ys.take k) ∧ Below w.heap.size w wr)
      (fun i _ => n - (intOf i).toNat)
    case atStart => exact ⟨0, Nat.zero_le _, rfl, (rfl : xs.take 0 = ys.take 0), Below.refl _ _⟩
    case round =>
      obtain ⟨k, hk, rfl, heq, hbel⟩ := hrel
      by_cases hlt : k < n
      · obtain ⟨b1, o1, rfl, hb1, hc1⟩ := hs k (by have := HX.out; omega)
        obtain ⟨b2, o2, rfl, hb2, hc2⟩ := ht k (by have := HY.out; omega)
        obtain ⟨x, hxx⟩ : ∃ x, x = xs.getD k 0 := ⟨_, rfl⟩
        obtain ⟨y, hyy⟩ : ∃ y, y = ys.getD k 0 := ⟨_, rfl⟩
        have c1 : wr.cell? ⟨b1, o1 + k, none⟩ = some (.int .u64 x) := by rw [hxx]; exact (hbel.cell (by exact hb1)).trans hc1
        have c2 : wr.cell? ⟨b2, o2 + k, none⟩ = some (.int .u64 y) := by rw [hyy]; exact (hbel.cell (by exact hb2)).trans hc2
        have XX : Hid (x = xs.getD k 0) := hxx
        have YY : Hid (y = ys.getD k 0) := hyy
        clear hc1 hc2 hxx hyy
        by_cases hxy : x = y
        · subst hxy
          have R := take_next xs ys k n HX.out HY.out hlt heq.out (XX.out.symm.trans YY.out)
          have RR : Hid (xs.take (k + 1) = ys.take (k + 1)) := R
          clear R
          have hne : (x != x) = false := by simp
          go_wp2
          go_region
          all_goals go_wp2
          all_goals go_roundw
          case rel => exact ⟨k + 1, by omega, by go_num, RR, hbel.drew⟩
          case measure => simp [intOf]; omega
        · have F : Hid (decide (xs = ys) = false) := by
            show decide (xs = ys) = false
            rw [decide_eq_false_iff_not]
            intro h; apply hxy; rw [XX.out, YY.out, h]
          have hne : (x != y) = true := by simpa using hxy
          clear hxy
          go_wp2
          go_region
          all_goals go_wp2
          all_goals go_ret
          all_goals exact ⟨by rw [F.out]; rfl, hbel.drew⟩
      · have hkn : k = n := by omega
        subst hkn
        have F : Hid (decide (xs = ys) = true) := by
          show decide (xs = ys) = true
          rw [decide_eq_true_eq]
          have h := heq.out
          rw [List.take_of_length_le (by have := HX.out; omega), List.take_of_length_le (by have := HY.out; omega)] at h
          exact h
        go_wp2
        go_ret
        exact ⟨by rw [F.out]; rfl, hbel⟩
  · have F : Hid (decide (xs = ys) = false) := by
      show decide (xs = ys) = false
      rw [decide_eq_false_iff_not]
      intro h; apply hnm; rw [← hx, ← hy, h]
    have hne : ((n : Int) != (m : Int)) = true := by simp; omega
    clear hx hy
    go_enter Try.func19, Try.ntmps19
    go_wp2
    go_ret
    exact ⟨by rw [F.out]; rfl, Below.refl _ _⟩

set_option maxHeartbeats 400000 in
theorem l12Bytes_any (a b : Option Addr) (n m ca cb : Nat) (xs ys : List Int) (w : World) (hx : xs.length = n) (hy : ys.length = m) (hn : n ≤ 1048576) (hm : m ≤ 1048576) (hs : Sl .u8 w a xs) (ht : Sl .u8 w b ys) :
    Calls Try.prog 20 #[.slice a n ca, .slice b m cb] w fun e w' => e = .returned (.bool (decide (xs = ys))) ∧ Below w.heap.size w w' := by
  by_cases hnm : n = m
  · subst hnm
    have HX : Hid (xs.length = n) := hx
    have HY : Hid (ys.length = n) := hy
    have hnn : ((n : Int) != (n : Int)) = false := by simp
    clear hx hy
    go_enter Try.func20, Try.ntmps20
    go_wp2
    go_loopw [5] (fun i wr => ∃ k : Nat, k ≤ n ∧ i = .int .i64 k ∧ Hid (xs.take k = ys.take k) ∧ Below w.heap.size w wr)
      (fun i _ => n - (intOf i).toNat)
    case atStart => exact ⟨0, Nat.zero_le _, rfl, (rfl : xs.take 0 = ys.take 0), Below.refl _ _⟩
    case round =>
      obtain ⟨k, hk, rfl, heq, hbel⟩ := hrel
      by_cases hlt : k < n
      · obtain ⟨b1, o1, rfl, hb1, hc1⟩ := hs k (by have := HX.out; omega)
        obtain ⟨b2, o2, rfl, hb2, hc2⟩ := ht k (by have := HY.out; omega)
        obtain ⟨x, hxx⟩ : ∃ x, x = xs.getD k 0 := ⟨_, rfl⟩
        obtain ⟨y, hyy⟩ : ∃ y, y = ys.getD k 0 := ⟨_, rfl⟩
        have c1 : wr.cell? ⟨b1, o1 + k, none⟩ = some (.int .u8 x) := by rw [hxx]; exact (hbel.cell (by exact hb1)).trans hc1
        have c2 : wr.cell? ⟨b2, o2 + k, none⟩ = some (.int .u8 y) := by rw [hyy]; exact (hbel.cell (by exact hb2)).trans hc2
        have XX : Hid (x = xs.getD k 0) := hxx
        have YY : Hid (y = ys.getD k 0) := hyy
        clear hc1 hc2 hxx hyy
        by_cases hxy : x = y
        · subst hxy
          have R := take_next xs ys k n HX.out HY.out hlt heq.out (XX.out.symm.trans YY.out)
          have RR : Hid (xs.take (k + 1) = ys.take (k + 1)) := R
          clear R
          have hne : (x != x) = false := by simp
          go_wp2
          go_region
          all_goals go_wp2
          all_goals go_roundw
          case rel => exact ⟨k + 1, by omega, by go_num, RR, hbel.drew⟩
          case measure => simp [intOf]; omega
        · have F : Hid (decide (xs = ys) = false) := by
            show decide (xs = ys) = false
            rw [decide_eq_false_iff_not]
            intro h; apply hxy; rw [XX.out, YY.out, h]
          have hne : (x != y) = true := by simpa using hxy
          clear hxy
          go_wp2
          go_region
          all_goals go_wp2
          all_goals go_ret
          all_goals exact ⟨by rw [F.out]; rfl, hbel.drew⟩
      · have hkn : k = n := by omega
        subst hkn
        have F : Hid (decide (xs = ys) = true) := by
          show decide (xs = ys) = true
          rw [decide_eq_true_eq]
          have h := heq.out
          rw [List.take_of_length_le (by have := HX.out; omega), List.take_of_length_le (by have := HY.out; omega)] at h
          exact h
        go_wp2
        go_ret
        exact ⟨by rw [F.out]; rfl, hbel⟩
  · have F : Hid (decide (xs = ys) = false) := by
      show decide (xs = ys) = false
      rw [decide_eq_false_iff_not]
      intro h; apply hnm; rw [← hx, ← hy, h]
    have hne : ((n : Int) != (m : Int)) = true := by simp; omega
    clear hx hy
    go_enter Try.func20, Try.ntmps20
    go_wp2
    go_ret
    exact ⟨by rw [F.out]; rfl, Below.refl _ _⟩

set_option maxHeartbeats 400000 in
theorem slicesEqual_any (a b : Option Addr) (n m ca cb : Nat) (xs ys : List Int) (w : World) (hx : xs.length = n) (hy : ys.length = m) (hn : n ≤ 1048576) (hm : m ≤ 1048576) (hs : Sl .u64 w a xs) (ht : Sl .u64 w b ys) :
    Calls Try.prog 15 #[.slice a n ca, .slice b m cb] w fun e w' => e = .returned (.bool (decide (xs = ys))) ∧ Below w.heap.size w w' := by
  by_cases hnm : n = m
  · subst hnm
    have HX : Hid (xs.length = n) := hx
    have HY : Hid (ys.length = n) := hy
    have hnn : ((n : Int) != (n : Int)) = false := by simp
    clear hx hy
    go_enter Try.func15, Try.ntmps15
    go_wp2
    go_loopw [13] (fun i wr => ∃ k : Nat, k ≤ n ∧ i = .int .i64 k ∧ Hid (xs.take k = ys.take k) ∧ Below w.heap.size w wr)
      (fun i _ => n - (intOf i).toNat)
    case atStart => exact ⟨0, Nat.zero_le _, rfl, (rfl : xs.take 0 = ys.take 0), Below.refl _ _⟩
    case round =>
      obtain ⟨k, hk, rfl, heq, hbel⟩ := hrel
      by_cases hlt : k < n
      · obtain ⟨b1, o1, rfl, hb1, hc1⟩ := hs k (by have := HX.out; omega)
        obtain ⟨b2, o2, rfl, hb2, hc2⟩ := ht k (by have := HY.out; omega)
        obtain ⟨x, hxx⟩ : ∃ x, x = xs.getD k 0 := ⟨_, rfl⟩
        obtain ⟨y, hyy⟩ : ∃ y, y = ys.getD k 0 := ⟨_, rfl⟩
        have c1 : wr.cell? ⟨b1, o1 + k, none⟩ = some (.int .u64 x) := by rw [hxx]; exact (hbel.cell (by exact hb1)).trans hc1
        have c2 : wr.cell? ⟨b2, o2 + k, none⟩ = some (.int .u64 y) := by rw [hyy]; exact (hbel.cell (by exact hb2)).trans hc2
        have XX : Hid (x = xs.getD k 0) := hxx
        have YY : Hid (y = ys.getD k 0) := hyy
        clear hc1 hc2 hxx hyy
        by_cases hxy : x = y
        · subst hxy
          have R := take_next xs ys k n HX.out HY.out hlt heq.out (XX.out.symm.trans YY.out)
          have RR : Hid (xs.take (k + 1) = ys.take (k + 1)) := R
          clear R
          have hne : (x != x) = false := by simp
          go_wp2
          go_region
          all_goals go_wp2
          all_goals go_roundw
          case rel => exact ⟨k + 1, by omega, by go_num, RR, hbel.drew⟩
          case measure => simp [intOf]; omega
        · have F : Hid (decide (xs = ys) = false) := by
            show decide (xs = ys) = false
            rw [decide_eq_false_iff_not]
            intro h; apply hxy; rw [XX.out, YY.out, h]
          have hne : (x != y) = true := by simpa using hxy
          clear hxy
          go_wp2
          go_region
          all_goals go_wp2
          all_goals go_ret
          all_goals exact ⟨by rw [F.out]; rfl, hbel.drew⟩
      · have hkn : k = n := by omega
        subst hkn
        have F : Hid (decide (xs = ys) = true) := by
          show decide (xs = ys) = true
          rw [decide_eq_true_eq]
          have h := heq.out
          rw [List.take_of_length_le (by have := HX.out; omega), List.take_of_length_le (by have := HY.out; omega)] at h
          exact h
        go_wp2
        go_ret
        exact ⟨by rw [F.out]; rfl, hbel⟩
  · have F : Hid (decide (xs = ys) = false) := by
      show decide (xs = ys) = false
      rw [decide_eq_false_iff_not]
      intro h; apply hnm; rw [← hx, ← hy, h]
    have hne : ((n : Int) != (m : Int)) = true := by simp; omega
    clear hx hy
    go_enter Try.func15, Try.ntmps15
    go_wp2
    go_ret
    exact ⟨by rw [F.out]; rfl, Below.refl _ _⟩

set_option maxRecDepth 100000 in
theorem bytesEqual_any (a b : Option Addr) (ca cb : Nat) (xs ys : List Int) (w : World) (bx : ∀ y ∈ xs, (Lit.int .u8 y).wf = true) (bY : ∀ y ∈ ys, (Lit.int .u8 y).wf = true) (hs : Sl .u8 w a xs) (ht : Sl .u8 w b ys) :
    Calls Try.prog 16 #[.slice a xs.length ca, .slice b ys.length cb] w fun e w' => e = .returned (.bool (decide (xs = ys))) ∧ Below w.heap.size w w' := by
  have c1 := conv_sl a _ ca xs w rfl hs
  have c2 := conv_sl b _ cb ys w rfl ht
  have F : Hid (decide (xs = ys) = ((strOfNums xs).toList == (strOfNums ys).toList)) := by
    show decide (xs = ys) = ((strOfNums xs).toList == (strOfNums ys).toList)
    by_cases h : xs = ys
    · subst h; simp
    · rw [decide_eq_false h]; symm; rw [beq_eq_false_iff_ne]; exact fun e => h (str_inj bx bY (by rw [ByteArray.toList_eq, ByteArray.toList_eq] at e; exact ByteArray.ext (Array.ext' e)))
  clear hs ht bx bY
  generalize strOfNums xs = sx at *
  generalize strOfNums ys = sy at *
  go_enter Try.func16, Try.ntmps16
  go_wp2_with fail
  go_ret
  exact ⟨by rw [F.out]; rfl, Below.refl _ _⟩

def sameD (M N : MV) : Bool := (M.d.t == N.d.t) && (M.d.cm == N.d.cm) && (M.d.so == N.d.so) && (decide (M.d.xs = N.d.xs)) && (decide (M.d.ys = N.d.ys)) && (M.d.ir == N.d.ir)

def sameR (M N : MV) : Bool := (M.pc == N.pc) && (decide (M.x = N.x)) && (M.pr == N.pr) && (decide (M.cs = N.cs)) && (decide (M.ram = N.ram)) && sameD M N && (M.hd == N.hd) && (M.hl == N.hl) && (M.wt == N.wt)

def sameM (M N : MV) : Bool := machB M && machB N && sameR M N

theorem sameM_eq {M N : MV} (h : sameM M N = true) : M = N := by
  obtain ⟨pc, x, pr, cs, ram, ⟨t, cm, so, xs, ys, ir⟩, hd, hl, wt⟩ := M
  obtain ⟨pc', x', pr', cs', ram', ⟨t', cm', so', xs', ys', ir'⟩, hd', hl', wt'⟩ := N
  simp [sameM, sameR, sameD] at h
  simp [h]

theorem sameM_comm (M N : MV) : sameM N M = sameM M N := by
  rw [Bool.eq_iff_iff]
  constructor <;> (intro h; obtain rfl := sameM_eq h; exact h)

theorem sameM_self (M : MV) : sameM M M = machB M := by
  simp [sameM, sameR, sameD]

structure Bx (M : MV) : Prop where
  ram : ∀ y ∈ M.ram, (Lit.int .u8 y).wf = true
  xs : ∀ y ∈ M.d.xs, (Lit.int .u8 y).wf = true
  ys : ∀ y ∈ M.d.ys, (Lit.int .u8 y).wf = true

set_option maxRecDepth 100000 in
set_option maxHeartbeats 6400000 in
theorem sameDevs_any (M N : MV) (A C : MA) (w : World) (hM : Bx M) (hN : Bx N) (ha : MSl w M A) (hc : MSl w N C) :
    Calls Try.prog 17 #[.agg #[.int .u64 M.d.t, .int .u64 M.d.cm, .bool M.d.so, .slice A.ai M.d.xs.length A.ci, .slice A.ao M.d.ys.length A.co, .int .i64 M.d.ir], .agg #[.int .u64 N.d.t, .int .u64 N.d.cm, .bool N.d.so, .slice C.ai N.d.xs.length C.ci, .slice C.ao N.d.ys.length C.co, .int .i64 N.d.ir]] w fun e w' => e = .returned (.bool (sameD M N)) ∧ Below w.heap.size w w' := by
  have H_xs := fun W hb => bytesEqual_any A.ai C.ai A.ci C.ci M.d.xs N.d.xs W hM.xs hN.xs (ha.xs.below hb) (hc.xs.below hb)
  have H_ys := fun W hb => bytesEqual_any A.ao C.ao A.co C.co M.d.ys N.d.ys W hM.ys hN.ys (ha.ys.below hb) (hc.ys.below hb)
  unfold sameD
  generalize t_t : (M.d.t == N.d.t) = b_t at *
  generalize t_cm : (M.d.cm == N.d.cm) = b_cm at *
  generalize t_so : (M.d.so == N.d.so) = b_so at *
  generalize (decide (M.d.xs = N.d.xs)) = b_xs at *
  generalize (decide (M.d.ys = N.d.ys)) = b_ys at *
  generalize t_ir : (M.d.ir == N.d.ir) = b_ir at *
  refine wk_go (S := Bs w [(#[.int .u64 M.d.t, .int .u64 M.d.cm, .bool M.d.so, .slice A.ai M.d.xs.length A.ci, .slice A.ao M.d.ys.length A.co, .int .i64 M.d.ir], 27), (#[.int .u64 N.d.t, .int .u64 N.d.cm, .bool N.d.so, .slice C.ai N.d.xs.length C.ci, .slice C.ao N.d.ys.length C.co, .int .i64 N.d.ir], 27)]) [(#[.int .u64 M.d.t, .int .u64 M.d.cm, .bool M.d.so, .slice A.ai M.d.xs.length A.ci, .slice A.ao M.d.ys.length A.co, .int .i64 M.d.ir], 27), (#[.int .u64 N.d.t, .int .u64 N.d.cm, .bool N.d.so, .slice C.ai N.d.xs.length C.ci, .slice C.ao N.d.ys.length C.co, .int .i64 N.d.ir], 27)] Try.func17 rfl (by kernel_rfl) (by kernel_rfl) ?_
  cases b_t
  case' true =>
    cases b_cm
    case' true =>
      cases b_so
      case' true =>
        cases b_xs
        case' true =>
          cases b_ys
          case' true =>
            cases b_ir
  all_goals exact wk_end (t := 4) (v := .bool _) Bs.eng { eq := [(9, eqB t_t), (15, eqB t_cm), (22, eqB t_so), (43, eqB t_ir)], cv := [(29, cvW H_xs), (36, cvW H_ys)] } 400 (Bs.start _ _) (by kernel_rfl) (by kernel_rfl) rfl (fun w' h => ⟨rfl, h.2⟩)

set_option maxRecDepth 100000 in
set_option maxHeartbeats 6400000 in
theorem specSame_any (M N : MV) (A C : MA) (w : World) (hl : MLen M) (hk : MLen N) (ha : MSl w M A) (hc : MSl w N C) :
    Calls Try.prog 7 #[.agg (mvc M A), .agg (mvc N C)] w fun e w' => e = .returned (.bool (sameM M N)) ∧ Below w.heap.size w w' := by
  have HA := fun W hb => specMachineOk_any M A W hl (ha.below hb)
  have HC := fun W hb => specMachineOk_any N C W hk (hc.below hb)
  have H_x := fun W hb => l12Words_any A.ax C.ax M.x.length N.x.length A.cx C.cx M.x N.x W rfl rfl hl.x hk.x (ha.x.below hb) (hc.x.below hb)
  have H_cs := fun W hb => l12Words_any A.ac C.ac M.cs.length N.cs.length A.cc C.cc M.cs N.cs W rfl rfl hl.cs hk.cs (ha.cs.below hb) (hc.cs.below hb)
  have H_ram := fun W hb => l12Bytes_any A.ar C.ar M.ram.length N.ram.length A.cr C.cr M.ram N.ram W rfl rfl hl.ram hk.ram (ha.ram.below hb) (hc.ram.below hb)
  have H_xs := fun W hb => l12Bytes_any A.ai C.ai M.d.xs.length N.d.xs.length A.ci C.ci M.d.xs N.d.xs W rfl rfl hl.xs hk.xs (ha.xs.below hb) (hc.xs.below hb)
  have H_ys := fun W hb => l12Bytes_any A.ao C.ao M.d.ys.length N.d.ys.length A.co C.co M.d.ys N.d.ys W rfl rfl hl.ys hk.ys (ha.ys.below hb) (hc.ys.below hb)
  unfold sameM sameR sameD
  generalize machB M = bM at *
  generalize machB N = bN at *
  generalize t_pc : (M.pc == N.pc) = b_pc at *
  generalize (decide (M.x = N.x)) = b_x at *
  generalize t_pr : (M.pr == N.pr) = b_pr at *
  generalize (decide (M.cs = N.cs)) = b_cs at *
  generalize (decide (M.ram = N.ram)) = b_ram at *
  generalize t_t : (M.d.t == N.d.t) = b_t at *
  generalize t_cm : (M.d.cm == N.d.cm) = b_cm at *
  generalize t_so : (M.d.so == N.d.so) = b_so at *
  generalize (decide (M.d.xs = N.d.xs)) = b_xs at *
  generalize (decide (M.d.ys = N.d.ys)) = b_ys at *
  generalize t_ir : (M.d.ir == N.d.ir) = b_ir at *
  generalize t_hd : (M.hd == N.hd) = b_hd at *
  generalize t_hl : (M.hl == N.hl) = b_hl at *
  generalize t_wt : (M.wt == N.wt) = b_wt at *
  refine wk_go (S := Bs w [(mvc M A, 29), (mvc N C, 29)]) [(mvc M A, 29), (mvc N C, 29)] Try.func7 rfl (by kernel_rfl) (by kernel_rfl) ?_
  cases bM
  case' true =>
    cases bN
    case' true =>
      cases b_pc
      case' true =>
        cases b_x
        case' true =>
          cases b_pr
          case' true =>
            cases b_cs
            case' true =>
              cases b_ram
              case' true =>
                cases b_t
                case' true =>
                  cases b_cm
                  case' true =>
                    cases b_so
                    case' true =>
                      cases b_xs
                      case' true =>
                        cases b_ys
                        case' true =>
                          cases b_ir
                          case' true =>
                            cases b_hd
                            case' true =>
                              cases b_hl
                              case' true =>
                                cases b_wt
  all_goals exact wk_end (t := 4) (v := .bool _) Bs.eng { eq := [(17, eqB t_pc), (30, eqB t_pr), (53, eqB t_t), (62, eqB t_cm), (71, eqB t_so), (98, eqB t_ir), (105, eqB t_hd), (112, eqB t_hl), (119, eqB t_wt)], cv := [(6, cvW HA), (10, cvW HC), (23, cvW H_x), (37, cvW H_cs), (44, cvW H_ram), (80, cvW H_xs), (89, cvW H_ys)] } 400 (Bs.start _ _) (by kernel_rfl) (by kernel_rfl) rfl (fun w' h => ⟨rfl, h.2⟩)

set_option maxRecDepth 100000 in
set_option maxHeartbeats 6400000 in
theorem implSame_any (M N : MV) (A C : MA) (w : World) (hl : MLen M) (hk : MLen N) (hM : Bx M) (hN : Bx N) (hUM : ∀ y ∈ M.cs, (Lit.int .u64 y).wf = true) (hUN : ∀ y ∈ N.cs, (Lit.int .u64 y).wf = true) (ha : MSl w M A) (hc : MSl w N C) :
    Calls Try.prog 6 #[.agg (mvc M A), .agg (mvc N C)] w fun e w' => e = .returned (.bool (sameM M N)) ∧ Below w.heap.size w w' := by
  have HA := fun W hb => implMachineOk_any M A W hl (ha.below hb) (fun j => word_bd9 hUM j)
  have HC := fun W hb => implMachineOk_any N C W hk (hc.below hb) (fun j => word_bd9 hUN j)
  have H_x := fun W hb => slicesEqual_any A.ax C.ax M.x.length N.x.length A.cx C.cx M.x N.x W rfl rfl hl.x hk.x (ha.x.below hb) (hc.x.below hb)
  have H_cs := fun W hb => slicesEqual_any A.ac C.ac M.cs.length N.cs.length A.cc C.cc M.cs N.cs W rfl rfl hl.cs hk.cs (ha.cs.below hb) (hc.cs.below hb)
  have H_ram := fun W hb => bytesEqual_any A.ar C.ar A.cr C.cr M.ram N.ram W hM.ram hN.ram (ha.ram.below hb) (hc.ram.below hb)
  have HD := fun W hb => sameDevs_any M N A C W hM hN (ha.below hb) (hc.below hb)
  unfold sameM sameR
  generalize machB M = bM at *
  generalize machB N = bN at *
  generalize t_pc : (M.pc == N.pc) = b_pc at *
  generalize (decide (M.x = N.x)) = b_x at *
  generalize t_pr : (M.pr == N.pr) = b_pr at *
  generalize (decide (M.cs = N.cs)) = b_cs at *
  generalize (decide (M.ram = N.ram)) = b_ram at *
  generalize sameD M N = b_DEV at *
  generalize t_hd : (M.hd == N.hd) = b_hd at *
  generalize t_hl : (M.hl == N.hl) = b_hl at *
  generalize t_wt : (M.wt == N.wt) = b_wt at *
  refine wk_go (S := Bs w [(mvc M A, 29), (mvc N C, 29)]) [(mvc M A, 29), (mvc N C, 29)] Try.func6 rfl (by kernel_rfl) (by kernel_rfl) ?_
  cases bM
  case' true =>
    cases bN
    case' true =>
      cases b_pc
      case' true =>
        cases b_x
        case' true =>
          cases b_pr
          case' true =>
            cases b_cs
            case' true =>
              cases b_ram
              case' true =>
                cases b_DEV
                case' true =>
                  cases b_hd
                  case' true =>
                    cases b_hl
                    case' true =>
                      cases b_wt
  all_goals exact wk_end (t := 4) (v := .bool _) Bs.eng { eq := [(16, eqB t_pc), (30, eqB t_pr), (58, eqB t_hd), (65, eqB t_hl), (72, eqB t_wt)], cv := [(6, cvW HA), (9, cvW HC), (23, cvW H_x), (37, cvW H_cs), (44, cvW H_ram), (51, cvW HD)] } 400 (Bs.start _ _) (by kernel_rfl) (by kernel_rfl) rfl (fun w' h => ⟨rfl, h.2⟩)

set_option maxHeartbeats 400000 in
theorem likeWords_any (a b : Option Addr) (n m ca cb : Nat) (xs ys : List Int) (w : World) (hx : xs.length = n) (hy : ys.length = m) (hn : n ≤ 1048576) (hm : m ≤ 1048576) (hs : Sl .u64 w a xs) (ht : Sl .u64 w b ys) :
    Calls Try.prog 27 #[.slice a n ca, .slice b m cb] w fun e w' => e = .returned (.bool (decide (xs = ys))) ∧ Below w.heap.size w w' := by
  by_cases hnm : n = m
  · subst hnm
    have HX : Hid (xs.length = n) := hx
    have HY : Hid (ys.length = n) := hy
    have hnn : ((n : Int) != (n : Int)) = false := by simp
    clear hx hy
    go_enter Try.func27, Try.ntmps27
    go_wp2
    go_loopw [5] (fun i wr => ∃ k : Nat, k ≤ n ∧ i = .int .i64 k ∧ Hid (xs.take k = ys.take k) ∧ Below w.heap.size w wr)
      (fun i _ => n - (intOf i).toNat)
    case atStart => exact ⟨0, Nat.zero_le _, rfl, (rfl : xs.take 0 = ys.take 0), Below.refl _ _⟩
    case round =>
      obtain ⟨k, hk, rfl, heq, hbel⟩ := hrel
      by_cases hlt : k < n
      · obtain ⟨b1, o1, rfl, hb1, hc1⟩ := hs k (by have := HX.out; omega)
        obtain ⟨b2, o2, rfl, hb2, hc2⟩ := ht k (by have := HY.out; omega)
        obtain ⟨x, hxx⟩ : ∃ x, x = xs.getD k 0 := ⟨_, rfl⟩
        obtain ⟨y, hyy⟩ : ∃ y, y = ys.getD k 0 := ⟨_, rfl⟩
        have c1 : wr.cell? ⟨b1, o1 + k, none⟩ = some (.int .u64 x) := by rw [hxx]; exact (hbel.cell (by exact hb1)).trans hc1
        have c2 : wr.cell? ⟨b2, o2 + k, none⟩ = some (.int .u64 y) := by rw [hyy]; exact (hbel.cell (by exact hb2)).trans hc2
        have XX : Hid (x = xs.getD k 0) := hxx
        have YY : Hid (y = ys.getD k 0) := hyy
        clear hc1 hc2 hxx hyy
        by_cases hxy : x = y
        · subst hxy
          have R := take_next xs ys k n HX.out HY.out hlt heq.out (XX.out.symm.trans YY.out)
          have RR : Hid (xs.take (k + 1) = ys.take (k + 1)) := R
          clear R
          have hne : (x != x) = false := by simp
          go_wp2
          go_region
          all_goals go_wp2
          all_goals go_roundw
          case rel => exact ⟨k + 1, by omega, by go_num, RR, hbel.drew⟩
          case measure => simp [intOf]; omega
        · have F : Hid (decide (xs = ys) = false) := by
            show decide (xs = ys) = false
            rw [decide_eq_false_iff_not]
            intro h; apply hxy; rw [XX.out, YY.out, h]
          have hne : (x != y) = true := by simpa using hxy
          clear hxy
          go_wp2
          go_region
          all_goals go_wp2
          all_goals go_ret
          all_goals exact ⟨by rw [F.out]; rfl, hbel.drew⟩
      · have hkn : k = n := by omega
        subst hkn
        have F : Hid (decide (xs = ys) = true) := by
          show decide (xs = ys) = true
          rw [decide_eq_true_eq]
          have h := heq.out
          rw [List.take_of_length_le (by have := HX.out; omega), List.take_of_length_le (by have := HY.out; omega)] at h
          exact h
        go_wp2
        go_ret
        exact ⟨by rw [F.out]; rfl, hbel⟩
  · have F : Hid (decide (xs = ys) = false) := by
      show decide (xs = ys) = false
      rw [decide_eq_false_iff_not]
      intro h; apply hnm; rw [← hx, ← hy, h]
    have hne : ((n : Int) != (m : Int)) = true := by simp; omega
    clear hx hy
    go_enter Try.func27, Try.ntmps27
    go_wp2
    go_ret
    exact ⟨by rw [F.out]; rfl, Below.refl _ _⟩

end Go.Proofs.Ytmigfnlfjgkgkaa
