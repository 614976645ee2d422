/- Own lemmas. -/
import Derived.Test.YtjjpklalihaanaaDoorK02
namespace Go.Proofs.YtjjpklalihaanaaDoor
open Go.RowKit
set_option linter.unusedVariables false

def Frm (s : ByteArray) (gr : Nat) (nv mv : Value) (sign acc r : Int) (a : Act) : Prop :=
  a.defers = [] ∧ a.tmps.size = 58 ∧ a.tmps.toList.take 11 = [.string s, undef, .string ⟨#[]⟩, .slice none 0 0, .bool false, .pointer (some ⟨gr, 0, none⟩), nv, mv, .int .i64 sign, .int .i64 acc, .int .i32 r]

theorem list_lit : ∀ (n : Nat) (L : List Value), L.length = n → L = (List.range n).map (fun k => L.getD k undef) := by
  intro n L h
  apply List.ext_getElem
  · simp [h]
  · intro i h1 h2
    simp [List.getD, List.getElem?_eq_getElem h1]

theorem Frm.open {s : ByteArray} {gr : Nat} {nv mv : Value} {sign acc r : Int} {a : Act} (h : Frm s gr nv mv sign acc r a) : ∃ U : Nat → Value, a = { tmps := #[.string s, undef, .string ⟨#[]⟩, .slice none 0 0, .bool false, .pointer (some ⟨gr, 0, none⟩), nv, mv, .int .i64 sign, .int .i64 acc, .int .i32 r, U 11, U 12, U 13, U 14, U 15, U 16, U 17, U 18, U 19, U 20, U 21, U 22, U 23, U 24, U 25, U 26, U 27, U 28, U 29, U 30, U 31, U 32, U 33, U 34, U 35, U 36, U 37, U 38, U 39, U 40, U 41, U 42, U 43, U 44, U 45, U 46, U 47, U 48, U 49, U 50, U 51, U 52, U 53, U 54, U 55, U 56, U 57], defers := [] } := by
  obtain ⟨t, d⟩ := a
  obtain ⟨h1, h2, h3⟩ := h
  simp only at h1 h2 h3
  subst h1
  have hl : (t.toList.drop 11).length = 47 := by simp [h2]
  have h4 := list_lit 47 _ hl
  refine ⟨fun k => (t.toList.drop 11).getD (k - 11) undef, ?_⟩
  congr 1
  apply Array.toList_inj.1
  rw [← List.take_append_drop 11 t.toList, h3]
  generalize t.toList.drop 11 = M at h4 ⊢
  rw [h4]
  rfl

def RJ (s : ByteArray) (w : World) (gr : Nat) (s0 : RdSt) (l m : Nat) (a : Act) (wr : World) : Prop :=
  ∃ rem ns ms nv mv sign acc r, Frm s gr nv mv sign acc r a ∧ RLx w gr rem ns ms nv mv wr ∧
    ((l = 0 ∧ m = 2 * rem.length + 3 ∧ ms = [] ∧ ns.length + rem.length ≤ 1048576 ∧ ∀ q, Runs (.name rem ns) q → Runs s0 q) ∨
     (l = 1 ∧ m = 0 ∧ Runs s0 (some (ns, ms))) ∨
     (l = 2 ∧ m = 2 * rem.length + 1 ∧ ms.length + rem.length + 1 ≤ 1048577 ∧ ∀ q, Runs (.ahead rem ns ms) q → Runs s0 q) ∨
     (l = 3 ∧ m = 2 * rem.length + (if r = -1 then 0 else 2) ∧ ms.length + rem.length + 1 + (if r = -1 then 0 else 1) ≤ 1048577 ∧ ∀ q, Runs (.num r rem ns ms sign acc) q → Runs s0 q))

def RdPost (s0 : RdSt) (w : World) (e : Ending) (w' : World) : Prop :=
  ∃ res : RdRes, Runs s0 res ∧ Below w.heap.size w w' ∧ ((res = none ∧ e = .returned (.tuple #[.string ⟨#[]⟩, .slice none 0 0, .bool false])) ∨
    ∃ ns ms mv, res = some (ns, ms) ∧ e = .returned (.tuple #[.string (runesBytes ns), mv, .bool true]) ∧ w'.ownsRow w.heap.size 2 1 mv ms.length (ms.map (Value.int .i64)))

theorem RLx.nums {w wr : World} {gr : Nat} {rem ns ms : List Int} {nv mv : Value} (h : RLx w gr rem ns ms nv mv wr) : wr.ownsRow w.heap.size 2 1 mv ms.length (ms.map (Value.int .i64)) := by
  obtain ⟨gb, c, at_, rs, h1, h2⟩ := h
  exact h1.nu

theorem RLx.name {w wr : World} {gr : Nat} {rem ns ms : List Int} {nv mv : Value} (h : RLx w gr rem ns ms nv mv wr) : (convert 102 9 nv).run Tryd.prog wr = .ok (.string (runesBytes ns)) wr := by
  obtain ⟨gb, c, at_, rs, h1, h2⟩ := h
  rcases h1.nm.2 with ⟨e1, e0⟩ | ⟨g, cap, cur, e1, hg, _⟩
  · have : ns = [] := List.eq_nil_of_length_eq_zero e0
    rw [e1, this]
    exact run_convert_runes_nil wr _ _ _ _ _ Tryd.underlying102 Tryd.underlying21 Tryd.underlying9
  · have hn := h1.nm
    rw [e1] at hn ⊢
    have := run_convert_runes (P := Tryd.prog) wr 102 9 21 ⟨g, 0, none⟩ ns.length cap ns (Nat.le_refl _) Tryd.underlying102 Tryd.underlying21 Tryd.underlying9 (fun j hj => hn.cells (g := g) rfl j _ (by simp [List.getD, hj]))
    rw [List.take_length] at this
    exact this

theorem head_len (rem : List Int) : 2 * rem.tail.length + (if rem.headD (-1) = -1 then 0 else 2) ≤ 2 * rem.length ∧ rem.tail.length + (if rem.headD (-1) = -1 then 0 else 1) ≤ rem.length ∧ rem.tail.length ≤ rem.length ∧ (rem.headD (-1) ≠ -1 → rem.tail.length + 1 = rem.length) := by
  cases rem with
  | nil => simp
  | cons a l =>
    simp only [List.tail_cons, List.headD_cons, List.length_cons]
    by_cases h : a = -1
    · simp only [h, if_true]; simp; omega
    · simp only [h, if_false]; refine ⟨by omega, by omega, by omega, fun _ => trivial⟩

set_option maxRecDepth 100000 in
set_option maxHeartbeats 6400000 in
theorem readLine_p3 (s : ByteArray) (w : World) (gr : Nat) (s0 : RdSt) (R0 c : Code) (hc : Tryd.f44.body = some (.seq R0 (.scope c))) (m : Nat) (wr : World) (rem ns ms : List Int) (nv mv : Value) (sign acc r : Int) (U : Nat → Value) (hR : Hid (RLx w gr rem ns ms nv mv wr)) (hm : m = 2 * rem.length + (if r = -1 then 0 else 2)) (hbd0 : ms.length + rem.length + 1 + (if r = -1 then 0 else 1) ≤ 1048577) (hK : ∀ q, Runs (.num r rem ns ms sign acc) q → Runs s0 q) :
    ∃ rest, findLabel c 3 = some rest ∧ rest.wp Tryd.prog (jumpsTo (fun l' a' w' => ∃ m', m' < m ∧ RJ s w gr s0 l' m' a' w') (bodyPost Tryd.prog Tryd.f44 (RdPost s0 w))) { tmps := #[.string s, undef, .string ⟨#[]⟩, .slice none 0 0, .bool false, .pointer (some ⟨gr, 0, none⟩), nv, mv, .int .i64 sign, .int .i64 acc, .int .i32 r, U 11, U 12, U 13, U 14, U 15, U 16, U 17, U 18, U 19, U 20, U 21, U 22, U 23, U 24, U 25, U 26, U 27, U 28, U 29, U 30, U 31, U 32, U 33, U 34, U 35, U 36, U 37, U 38, U 39, U 40, U 41, U 42, U 43, U 44, U 45, U 46, U 47, U 48, U 49, U 50, U 51, U 52, U 53, U 54, U 55, U 56, U 57], defers := [] } wr := by
  cases hc
  have HK : Hid (∀ q, Runs (.num r rem ns ms sign acc) q → Runs s0 q) := hK
  have hbd := hbd0
  obtain ⟨st, hst⟩ : ∃ st : RdSt, st = .num r rem ns ms sign acc := ⟨_, rfl⟩
  have HS : Hid (rdStep st = rdNum r rem ns ms sign acc) := by rw [hst]; exact (rfl : _ = _)
  rw [← hst] at HK
  clear hst hK hbd0
  refine ⟨_, rfl, ?_⟩
  by_cases hd : 48 ≤ r ∧ r ≤ 57
  · have hd1 := hd.1
    have hd2 := hd.2
    have hw32 : wrap32 (r - 48) = r - 48 := by unfold wrap32; omega
    have hxn : ¬ r = -1 := by omega
    rw [if_neg hxn] at hbd
    rw [if_neg hxn] at hm
    have HS2 : Hid (rdStep st = .inl (.num (rem.headD (-1)) rem.tail ns ms sign (wrap64 (wrap64 (acc * 10) + (r - 48))))) := by
      show _ = _
      rw [HS.out, rdNum, if_pos hd]
    clear hd
    go_wp2_with fail
    refine (hR.out.next).mono ?_
    rintro e wrn ⟨rfl, hRn⟩
    have hly := head_len rem
    obtain ⟨y, hqy⟩ : ∃ y, y = rem.headD (-1) := ⟨_, rfl⟩
    rw [← hqy] at hly ⊢
    have HQy : Hid (y = rem.headD (-1)) := hqy
    clear hqy
    rw [← HQy.out] at HS2
    clear HQy
    go_wp2_with fail
    go_step3
    exact ⟨_, by omega, rem.tail, ns, ms, nv, mv, sign, _, y, ⟨rfl, rfl, rfl⟩, hRn.out, Or.inr (Or.inr (Or.inr ⟨rfl, rfl, by split at hly <;> split <;> omega, fun q hq => HK.out q (.go HS2.out hq)⟩))⟩
  · have hb10 : (decide (48 ≤ r) && decide (r ≤ 57)) = false := by
      rw [Bool.and_eq_false_iff]
      by_cases h48 : 48 ≤ r
      · right; exact decide_eq_false (by omega)
      · left; exact decide_eq_false h48
    have HS1 : Hid (rdStep st = if r = 32 then .inl (.ahead rem ns (ms ++ [wrap64 (sign * acc)])) else if r = -1 then .inr (some (ns, ms ++ [wrap64 (sign * acc)])) else .inr none) := by
      show _ = _
      rw [HS.out, rdNum, if_neg hd]
    clear HS
    obtain ⟨v, hv⟩ : ∃ v, v = wrap64 (sign * acc) := ⟨_, rfl⟩
    have hv' := hv.symm
    rw [← hv] at HS1
    clear hv
    have hml : ms.length ≤ 1048577 := by omega
    by_cases h48 : 48 ≤ r
    · have h57 : ¬ r ≤ 57 := fun h => hd ⟨h48, h⟩
      clear hd hb10
      have h32 : ¬ r = 32 := by omega
      have hxn : ¬ r = -1 := by omega
      have t32 : (r == 32) = false := by simpa using h32
      have tm1 : (r != -1) = true := by simpa using hxn
      have HS2 : Hid (rdStep st = .inr none) := HS1.out.trans ((if_neg h32).trans (if_neg hxn))
      clear HS1 h32
      go_wp2_with (at_builtin; refine wpList_pushM rfl (.tmp 45) (.tmp 49) rfl v rfl rfl hR.out hml ?_; intro mv2 w6 hR6)
      have HR6 : Hid (RLx w gr rem ns (ms ++ [v]) nv mv2 w6) := hR6
      clear hR6
      refine bodyPost_ret (results_tmp3 Tryd.results44 _ _ _) rfl ⟨none, HK.out _ (.stop HS2.out), HR6.out.bel, Or.inl ⟨rfl, rfl⟩⟩
    · clear hd hb10
      by_cases h32 : r = 32
      · have t32 : (r == 32) = true := by simpa using h32
        have HS2 : Hid (rdStep st = .inl (.ahead rem ns (ms ++ [v]))) := HS1.out.trans (if_pos h32)
        have hxn : ¬ r = -1 := by omega
        rw [if_neg hxn] at hbd
        rw [if_neg hxn] at hm
        clear HS1 h32
        go_wp2_with (at_builtin; refine wpList_pushM rfl (.tmp 45) (.tmp 49) rfl v rfl rfl hR.out hml ?_; intro mv2 w6 hR6)
        have HR6 : Hid (RLx w gr rem ns (ms ++ [v]) nv mv2 w6) := hR6
        clear hR6
        go_step3
        exact ⟨_, by omega, rem, ns, (ms ++ [v]), nv, mv2, sign, acc, r, ⟨rfl, rfl, rfl⟩, HR6.out, Or.inr (Or.inr (Or.inl ⟨rfl, rfl, by simp; omega, fun q hq => HK.out q (.go HS2.out hq)⟩))⟩
      · have t32 : (r == 32) = false := by simpa using h32
        by_cases hxn : r = -1
        · have tm1 : (r != -1) = false := by simpa using hxn
          have HS2 : Hid (rdStep st = .inr (some (ns, ms ++ [v]))) := HS1.out.trans ((if_neg h32).trans (if_pos hxn))
          clear HS1 h32
          go_wp2_with (at_builtin; refine wpList_pushM rfl (.tmp 45) (.tmp 49) rfl v rfl rfl hR.out hml ?_; intro mv2 w6 hR6)
          have HR6 : Hid (RLx w gr rem ns (ms ++ [v]) nv mv2 w6) := hR6
          clear hR6
          have hcv := HR6.out.name
          obtain ⟨N, hN⟩ : ∃ N, N = runesBytes ns := ⟨_, rfl⟩
          rw [← hN] at hcv
          have HNN : Hid (N = runesBytes ns) := hN
          clear hN
          go_step3
          go_wp2_with fail
          refine bodyPost_ret (results_tmp3 Tryd.results44 _ _ _) rfl ⟨some (ns, (ms ++ [v])), HK.out _ (.stop HS2.out), HR6.out.bel, Or.inr ⟨ns, (ms ++ [v]), mv2, rfl, by rw [← HNN.out]; rfl, HR6.out.nums⟩⟩
        · have tm1 : (r != -1) = true := by simpa using hxn
          have HS2 : Hid (rdStep st = .inr none) := HS1.out.trans ((if_neg h32).trans (if_neg hxn))
          clear HS1 h32
          go_wp2_with (at_builtin; refine wpList_pushM rfl (.tmp 45) (.tmp 49) rfl v rfl rfl hR.out hml ?_; intro mv2 w6 hR6)
          have HR6 : Hid (RLx w gr rem ns (ms ++ [v]) nv mv2 w6) := hR6
          clear hR6
          refine bodyPost_ret (results_tmp3 Tryd.results44 _ _ _) rfl ⟨none, HK.out _ (.stop HS2.out), HR6.out.bel, Or.inl ⟨rfl, rfl⟩⟩

set_option maxRecDepth 100000 in
set_option maxHeartbeats 6400000 in
theorem readLine_p1 (s : ByteArray) (w : World) (gr : Nat) (s0 : RdSt) (R0 c : Code) (hc : Tryd.f44.body = some (.seq R0 (.scope c))) (m : Nat) (wr : World) (rem ns ms : List Int) (nv mv : Value) (sign acc r : Int) (U : Nat → Value) (hR : Hid (RLx w gr rem ns ms nv mv wr)) (hm : m = 0) (hK : Runs s0 (some (ns, ms))) :
    ∃ rest, findLabel c 1 = some rest ∧ rest.wp Tryd.prog (jumpsTo (fun l' a' w' => ∃ m', m' < m ∧ RJ s w gr s0 l' m' a' w') (bodyPost Tryd.prog Tryd.f44 (RdPost s0 w))) { tmps := #[.string s, undef, .string ⟨#[]⟩, .slice none 0 0, .bool false, .pointer (some ⟨gr, 0, none⟩), nv, mv, .int .i64 sign, .int .i64 acc, .int .i32 r, U 11, U 12, U 13, U 14, U 15, U 16, U 17, U 18, U 19, U 20, U 21, U 22, U 23, U 24, U 25, U 26, U 27, U 28, U 29, U 30, U 31, U 32, U 33, U 34, U 35, U 36, U 37, U 38, U 39, U 40, U 41, U 42, U 43, U 44, U 45, U 46, U 47, U 48, U 49, U 50, U 51, U 52, U 53, U 54, U 55, U 56, U 57], defers := [] } wr := by
  cases hc
  have HK : Hid (Runs s0 (some (ns, ms))) := hK
  clear hK
  refine ⟨_, rfl, ?_⟩
  have hcv := hR.out.name
  obtain ⟨N, hN⟩ : ∃ N, N = runesBytes ns := ⟨_, rfl⟩
  rw [← hN] at hcv
  have HNN : Hid (N = runesBytes ns) := hN
  clear hN
  go_wp2_with fail
  refine bodyPost_ret (results_tmp3 Tryd.results44 _ _ _) rfl ⟨some (ns, ms), HK.out, hR.out.bel, Or.inr ⟨ns, ms, mv, rfl, by rw [← HNN.out]; rfl, hR.out.nums⟩⟩

set_option maxRecDepth 100000 in
set_option maxHeartbeats 6400000 in
theorem readLine_p2 (s : ByteArray) (w : World) (gr : Nat) (s0 : RdSt) (R0 c : Code) (hc : Tryd.f44.body = some (.seq R0 (.scope c))) (m : Nat) (wr : World) (rem ns ms : List Int) (nv mv : Value) (sign acc r : Int) (U : Nat → Value) (hR : Hid (RLx w gr rem ns ms nv mv wr)) (hm : m = 2 * rem.length + 1) (hb : ms.length + rem.length + 1 ≤ 1048577) (hK : ∀ q, Runs (.ahead rem ns ms) q → Runs s0 q) :
    ∃ rest, findLabel c 2 = some rest ∧ rest.wp Tryd.prog (jumpsTo (fun l' a' w' => ∃ m', m' < m ∧ RJ s w gr s0 l' m' a' w') (bodyPost Tryd.prog Tryd.f44 (RdPost s0 w))) { tmps := #[.string s, undef, .string ⟨#[]⟩, .slice none 0 0, .bool false, .pointer (some ⟨gr, 0, none⟩), nv, mv, .int .i64 sign, .int .i64 acc, .int .i32 r, U 11, U 12, U 13, U 14, U 15, U 16, U 17, U 18, U 19, U 20, U 21, U 22, U 23, U 24, U 25, U 26, U 27, U 28, U 29, U 30, U 31, U 32, U 33, U 34, U 35, U 36, U 37, U 38, U 39, U 40, U 41, U 42, U 43, U 44, U 45, U 46, U 47, U 48, U 49, U 50, U 51, U 52, U 53, U 54, U 55, U 56, U 57], defers := [] } wr := by
  cases hc
  have HK : Hid (∀ q, Runs (.ahead rem ns ms) q → Runs s0 q) := hK
  obtain ⟨st, hst⟩ : ∃ st : RdSt, st = .ahead rem ns ms := ⟨_, rfl⟩
  have HS : Hid (rdStep st = rdAhead rem ns ms) := by rw [hst]; exact (rfl : _ = _)
  rw [← hst] at HK
  have hb2 := hb
  clear hst hK hb
  refine ⟨_, rfl, ?_⟩
  go_wp2_with fail
  refine (hR.out.next).mono ?_
  rintro e wra ⟨rfl, hRa⟩
  have hlx := head_len rem
  obtain ⟨x, hqx⟩ : ∃ x, x = rem.headD (-1) := ⟨_, rfl⟩
  rw [← hqx] at hlx ⊢
  have HQx : Hid (x = rem.headD (-1)) := hqx
  clear hqx
  by_cases h120 : x = 120
  · have t120 : (x == 120) = true := by simpa using h120
    have HS2 : Hid (rdStep st = rdNum (rem.tail.headD (-1)) rem.tail.tail ns ms 1 0) := by
      show _ = _
      rw [HS.out, rdAhead, ← HQx.out, if_pos h120]
    have hq0 := hlx.2.2.2 (by omega)
    clear HS h120
    go_wp2_with fail
    refine (hRa.out.next).mono ?_
    rintro e wrb ⟨rfl, hRb⟩
    have hlz := head_len rem.tail
    obtain ⟨z, hqz⟩ : ∃ z, z = rem.tail.headD (-1) := ⟨_, rfl⟩
    rw [← hqz] at hlz ⊢
    have HQz : Hid (z = rem.tail.headD (-1)) := hqz
    clear hqz
    rw [← HQz.out] at HS2
    have HS : Hid (rdStep st = rdNum z rem.tail.tail ns ms 1 0) := HS2
    have hbd : ms.length + rem.tail.tail.length + 1 + (if z = -1 then 0 else 1) ≤ 1048577 := by have := hlz.2.1; omega
    clear HS2 HQz HQx
    go_wp2_with fail
    go_step3
    by_cases hd : 48 ≤ z ∧ z ≤ 57
    · have hd1 := hd.1
      have hd2 := hd.2
      have hw32 : wrap32 (z - 48) = z - 48 := by unfold wrap32; omega
      have hxn : ¬ z = -1 := by omega
      rw [if_neg hxn] at hbd
      have hqq := hlz.2.2.2 hxn
      have HS2 : Hid (rdStep st = .inl (.num (rem.tail.tail.headD (-1)) rem.tail.tail.tail ns ms 1 (z - 48))) := by
        show _ = _
        rw [HS.out, rdNum, if_pos hd]
        rw [show wrap64 (wrap64 (0 * 10) + (z - 48)) = z - 48 from by unfold wrap64; omega]
      clear hd
      go_wp2_with fail
      refine (hRb.out.next).mono ?_
      rintro e wrbn ⟨rfl, hRbn⟩
      have hly := head_len rem.tail.tail
      obtain ⟨y, hqy⟩ : ∃ y, y = rem.tail.tail.headD (-1) := ⟨_, rfl⟩
      rw [← hqy] at hly ⊢
      have HQy : Hid (y = rem.tail.tail.headD (-1)) := hqy
      clear hqy
      rw [← HQy.out] at HS2
      clear HQy
      go_wp2_with fail
      go_step3
      exact ⟨_, by omega, rem.tail.tail.tail, ns, ms, nv, mv, 1, _, y, ⟨rfl, rfl, rfl⟩, hRbn.out, Or.inr (Or.inr (Or.inr ⟨rfl, rfl, by split at hly <;> split <;> omega, fun q hq => HK.out q (.go HS2.out hq)⟩))⟩
    · have hb10 : (decide (48 ≤ z) && decide (z ≤ 57)) = false := by
        rw [Bool.and_eq_false_iff]
        by_cases h48 : 48 ≤ z
        · right; exact decide_eq_false (by omega)
        · left; exact decide_eq_false h48
      have HS1 : Hid (rdStep st = if z = 32 then .inl (.ahead rem.tail.tail ns (ms ++ [0])) else if z = -1 then .inr (some (ns, ms ++ [0])) else .inr none) := by
        show _ = _
        rw [HS.out, rdNum, if_neg hd, show wrap64 (1 * 0) = 0 from by unfold wrap64; omega]
      clear HS
      have hml : ms.length ≤ 1048577 := by omega
      by_cases h48 : 48 ≤ z
      · have h57 : ¬ z ≤ 57 := fun h => hd ⟨h48, h⟩
        clear hd hb10
        have h32 : ¬ z = 32 := by omega
        have hxn : ¬ z = -1 := by omega
        have t32 : (z == 32) = false := by simpa using h32
        have tm1 : (z != -1) = true := by simpa using hxn
        have HS2 : Hid (rdStep st = .inr none) := HS1.out.trans ((if_neg h32).trans (if_neg hxn))
        clear HS1 h32
        go_wp2_with (at_builtin; refine wpList_pushM rfl (.tmp 45) (.tmp 49) rfl 0 rfl rfl hRb.out hml ?_; intro mv2 w6 hR6)
        have HR6 : Hid (RLx w gr rem.tail.tail ns (ms ++ [0]) nv mv2 w6) := hR6
        clear hR6
        refine bodyPost_ret (results_tmp3 Tryd.results44 _ _ _) rfl ⟨none, HK.out _ (.stop HS2.out), HR6.out.bel, Or.inl ⟨rfl, rfl⟩⟩
      · clear hd hb10
        by_cases h32 : z = 32
        · have t32 : (z == 32) = true := by simpa using h32
          have HS2 : Hid (rdStep st = .inl (.ahead rem.tail.tail ns (ms ++ [0]))) := HS1.out.trans (if_pos h32)
          have hxn : ¬ z = -1 := by omega
          rw [if_neg hxn] at hbd
          have hqq := hlz.2.2.2 hxn
          clear HS1 h32
          go_wp2_with (at_builtin; refine wpList_pushM rfl (.tmp 45) (.tmp 49) rfl 0 rfl rfl hRb.out hml ?_; intro mv2 w6 hR6)
          have HR6 : Hid (RLx w gr rem.tail.tail ns (ms ++ [0]) nv mv2 w6) := hR6
          clear hR6
          go_step3
          exact ⟨_, by omega, rem.tail.tail, ns, (ms ++ [0]), nv, mv2, 1, 0, z, ⟨rfl, rfl, rfl⟩, HR6.out, Or.inr (Or.inr (Or.inl ⟨rfl, rfl, by simp; omega, fun q hq => HK.out q (.go HS2.out hq)⟩))⟩
        · have t32 : (z == 32) = false := by simpa using h32
          by_cases hxn : z = -1
          · have tm1 : (z != -1) = false := by simpa using hxn
            have HS2 : Hid (rdStep st = .inr (some (ns, ms ++ [0]))) := HS1.out.trans ((if_neg h32).trans (if_pos hxn))
            clear HS1 h32
            go_wp2_with (at_builtin; refine wpList_pushM rfl (.tmp 45) (.tmp 49) rfl 0 rfl rfl hRb.out hml ?_; intro mv2 w6 hR6)
            have HR6 : Hid (RLx w gr rem.tail.tail ns (ms ++ [0]) nv mv2 w6) := hR6
            clear hR6
            have hcv := HR6.out.name
            obtain ⟨N, hN⟩ : ∃ N, N = runesBytes ns := ⟨_, rfl⟩
            rw [← hN] at hcv
            have HNN : Hid (N = runesBytes ns) := hN
            clear hN
            go_step3
            go_wp2_with fail
            refine bodyPost_ret (results_tmp3 Tryd.results44 _ _ _) rfl ⟨some (ns, (ms ++ [0])), HK.out _ (.stop HS2.out), HR6.out.bel, Or.inr ⟨ns, (ms ++ [0]), mv2, rfl, by rw [← HNN.out]; rfl, HR6.out.nums⟩⟩
          · have tm1 : (z != -1) = true := by simpa using hxn
            have HS2 : Hid (rdStep st = .inr none) := HS1.out.trans ((if_neg h32).trans (if_neg hxn))
            clear HS1 h32
            go_wp2_with (at_builtin; refine wpList_pushM rfl (.tmp 45) (.tmp 49) rfl 0 rfl rfl hRb.out hml ?_; intro mv2 w6 hR6)
            have HR6 : Hid (RLx w gr rem.tail.tail ns (ms ++ [0]) nv mv2 w6) := hR6
            clear hR6
            refine bodyPost_ret (results_tmp3 Tryd.results44 _ _ _) rfl ⟨none, HK.out _ (.stop HS2.out), HR6.out.bel, Or.inl ⟨rfl, rfl⟩⟩
  · have t120 : (x == 120) = false := by simpa using h120
    by_cases h45 : x = 45
    · have t45 : (x == 45) = true := by simpa using h45
      have HS2 : Hid (rdStep st = rdNum (rem.tail.headD (-1)) rem.tail.tail ns ms (-1) 0) := by
        show _ = _
        rw [HS.out, rdAhead, ← HQx.out, if_neg h120, if_pos h45]
      have hq0 := hlx.2.2.2 (by omega)
      clear HS h120 h45
      go_wp2_with fail
      refine (hRa.out.next).mono ?_
      rintro e wrb ⟨rfl, hRb⟩
      have hlz := head_len rem.tail
      obtain ⟨z, hqz⟩ : ∃ z, z = rem.tail.headD (-1) := ⟨_, rfl⟩
      rw [← hqz] at hlz ⊢
      have HQz : Hid (z = rem.tail.headD (-1)) := hqz
      clear hqz
      rw [← HQz.out] at HS2
      have HS : Hid (rdStep st = rdNum z rem.tail.tail ns ms (-1) 0) := HS2
      have hbd : ms.length + rem.tail.tail.length + 1 + (if z = -1 then 0 else 1) ≤ 1048577 := by have := hlz.2.1; omega
      clear HS2 HQz HQx
      go_wp2_with fail
      go_step3
      by_cases hd : 48 ≤ z ∧ z ≤ 57
      · have hd1 := hd.1
        have hd2 := hd.2
        have hw32 : wrap32 (z - 48) = z - 48 := by unfold wrap32; omega
        have hxn : ¬ z = -1 := by omega
        rw [if_neg hxn] at hbd
        have hqq := hlz.2.2.2 hxn
        have HS2 : Hid (rdStep st = .inl (.num (rem.tail.tail.headD (-1)) rem.tail.tail.tail ns ms (-1) (z - 48))) := by
          show _ = _
          rw [HS.out, rdNum, if_pos hd]
          rw [show wrap64 (wrap64 (0 * 10) + (z - 48)) = z - 48 from by unfold wrap64; omega]
        clear hd
        go_wp2_with fail
        refine (hRb.out.next).mono ?_
        rintro e wrbn ⟨rfl, hRbn⟩
        have hly := head_len rem.tail.tail
        obtain ⟨y, hqy⟩ : ∃ y, y = rem.tail.tail.headD (-1) := ⟨_, rfl⟩
        rw [← hqy] at hly ⊢
        have HQy : Hid (y = rem.tail.tail.headD (-1)) := hqy
        clear hqy
        rw [← HQy.out] at HS2
        clear HQy
        go_wp2_with fail
        go_step3
        exact ⟨_, by omega, rem.tail.tail.tail, ns, ms, nv, mv, (-1), _, y, ⟨rfl, rfl, rfl⟩, hRbn.out, Or.inr (Or.inr (Or.inr ⟨rfl, rfl, by split at hly <;> split <;> omega, fun q hq => HK.out q (.go HS2.out hq)⟩))⟩
      · have hb10 : (decide (48 ≤ z) && decide (z ≤ 57)) = false := by
          rw [Bool.and_eq_false_iff]
          by_cases h48 : 48 ≤ z
          · right; exact decide_eq_false (by omega)
          · left; exact decide_eq_false h48
        have HS1 : Hid (rdStep st = if z = 32 then .inl (.ahead rem.tail.tail ns (ms ++ [0])) else if z = -1 then .inr (some (ns, ms ++ [0])) else .inr none) := by
          show _ = _
          rw [HS.out, rdNum, if_neg hd, show wrap64 ((-1) * 0) = 0 from by unfold wrap64; omega]
        clear HS
        have hml : ms.length ≤ 1048577 := by omega
        by_cases h48 : 48 ≤ z
        · have h57 : ¬ z ≤ 57 := fun h => hd ⟨h48, h⟩
          clear hd hb10
          have h32 : ¬ z = 32 := by omega
          have hxn : ¬ z = -1 := by omega
          have t32 : (z == 32) = false := by simpa using h32
          have tm1 : (z != -1) = true := by simpa using hxn
          have HS2 : Hid (rdStep st = .inr none) := HS1.out.trans ((if_neg h32).trans (if_neg hxn))
          clear HS1 h32
          go_wp2_with (at_builtin; refine wpList_pushM rfl (.tmp 45) (.tmp 49) rfl 0 rfl rfl hRb.out hml ?_; intro mv2 w6 hR6)
          have HR6 : Hid (RLx w gr rem.tail.tail ns (ms ++ [0]) nv mv2 w6) := hR6
          clear hR6
          refine bodyPost_ret (results_tmp3 Tryd.results44 _ _ _) rfl ⟨none, HK.out _ (.stop HS2.out), HR6.out.bel, Or.inl ⟨rfl, rfl⟩⟩
        · clear hd hb10
          by_cases h32 : z = 32
          · have t32 : (z == 32) = true := by simpa using h32
            have HS2 : Hid (rdStep st = .inl (.ahead rem.tail.tail ns (ms ++ [0]))) := HS1.out.trans (if_pos h32)
            have hxn : ¬ z = -1 := by omega
            rw [if_neg hxn] at hbd
            have hqq := hlz.2.2.2 hxn
            clear HS1 h32
            go_wp2_with (at_builtin; refine wpList_pushM rfl (.tmp 45) (.tmp 49) rfl 0 rfl rfl hRb.out hml ?_; intro mv2 w6 hR6)
            have HR6 : Hid (RLx w gr rem.tail.tail ns (ms ++ [0]) nv mv2 w6) := hR6
            clear hR6
            go_step3
            exact ⟨_, by omega, rem.tail.tail, ns, (ms ++ [0]), nv, mv2, (-1), 0, z, ⟨rfl, rfl, rfl⟩, HR6.out, Or.inr (Or.inr (Or.inl ⟨rfl, rfl, by simp; omega, fun q hq => HK.out q (.go HS2.out hq)⟩))⟩
          · have t32 : (z == 32) = false := by simpa using h32
            by_cases hxn : z = -1
            · have tm1 : (z != -1) = false := by simpa using hxn
              have HS2 : Hid (rdStep st = .inr (some (ns, ms ++ [0]))) := HS1.out.trans ((if_neg h32).trans (if_pos hxn))
              clear HS1 h32
              go_wp2_with (at_builtin; refine wpList_pushM rfl (.tmp 45) (.tmp 49) rfl 0 rfl rfl hRb.out hml ?_; intro mv2 w6 hR6)
              have HR6 : Hid (RLx w gr rem.tail.tail ns (ms ++ [0]) nv mv2 w6) := hR6
              clear hR6
              have hcv := HR6.out.name
              obtain ⟨N, hN⟩ : ∃ N, N = runesBytes ns := ⟨_, rfl⟩
              rw [← hN] at hcv
              have HNN : Hid (N = runesBytes ns) := hN
              clear hN
              go_step3
              go_wp2_with fail
              refine bodyPost_ret (results_tmp3 Tryd.results44 _ _ _) rfl ⟨some (ns, (ms ++ [0])), HK.out _ (.stop HS2.out), HR6.out.bel, Or.inr ⟨ns, (ms ++ [0]), mv2, rfl, by rw [← HNN.out]; rfl, HR6.out.nums⟩⟩
            · have tm1 : (z != -1) = true := by simpa using hxn
              have HS2 : Hid (rdStep st = .inr none) := HS1.out.trans ((if_neg h32).trans (if_neg hxn))
              clear HS1 h32
              go_wp2_with (at_builtin; refine wpList_pushM rfl (.tmp 45) (.tmp 49) rfl 0 rfl rfl hRb.out hml ?_; intro mv2 w6 hR6)
              have HR6 : Hid (RLx w gr rem.tail.tail ns (ms ++ [0]) nv mv2 w6) := hR6
              clear hR6
              refine bodyPost_ret (results_tmp3 Tryd.results44 _ _ _) rfl ⟨none, HK.out _ (.stop HS2.out), HR6.out.bel, Or.inl ⟨rfl, rfl⟩⟩
    · have t45 : (x == 45) = false := by simpa using h45
      have HS2 : Hid (rdStep st = rdNum x rem.tail ns ms 1 0) := by
        show _ = _
        rw [HS.out, rdAhead, ← HQx.out, if_neg h120, if_neg h45]
      clear HS h120 h45 HQx
      have HS : Hid (rdStep st = rdNum x rem.tail ns ms 1 0) := HS2
      have hbd : ms.length + rem.tail.length + 1 + (if x = -1 then 0 else 1) ≤ 1048577 := by have := hlx.2.1; omega
      clear HS2
      go_wp2_with fail
      go_step3
      by_cases hd : 48 ≤ x ∧ x ≤ 57
      · have hd1 := hd.1
        have hd2 := hd.2
        have hw32 : wrap32 (x - 48) = x - 48 := by unfold wrap32; omega
        have hxn : ¬ x = -1 := by omega
        rw [if_neg hxn] at hbd
        have hqq := hlx.2.2.2 hxn
        have HS2 : Hid (rdStep st = .inl (.num (rem.tail.headD (-1)) rem.tail.tail ns ms 1 (x - 48))) := by
          show _ = _
          rw [HS.out, rdNum, if_pos hd]
          rw [show wrap64 (wrap64 (0 * 10) + (x - 48)) = x - 48 from by unfold wrap64; omega]
        clear hd
        go_wp2_with fail
        refine (hRa.out.next).mono ?_
        rintro e wran ⟨rfl, hRan⟩
        have hly := head_len rem.tail
        obtain ⟨y, hqy⟩ : ∃ y, y = rem.tail.headD (-1) := ⟨_, rfl⟩
        rw [← hqy] at hly ⊢
        have HQy : Hid (y = rem.tail.headD (-1)) := hqy
        clear hqy
        rw [← HQy.out] at HS2
        clear HQy
        go_wp2_with fail
        go_step3
        exact ⟨_, by omega, rem.tail.tail, ns, ms, nv, mv, 1, _, y, ⟨rfl, rfl, rfl⟩, hRan.out, Or.inr (Or.inr (Or.inr ⟨rfl, rfl, by split at hly <;> split <;> omega, fun q hq => HK.out q (.go HS2.out hq)⟩))⟩
      · have hb10 : (decide (48 ≤ x) && decide (x ≤ 57)) = false := by
          rw [Bool.and_eq_false_iff]
          by_cases h48 : 48 ≤ x
          · right; exact decide_eq_false (by omega)
          · left; exact decide_eq_false h48
        have HS1 : Hid (rdStep st = if x = 32 then .inl (.ahead rem.tail ns (ms ++ [0])) else if x = -1 then .inr (some (ns, ms ++ [0])) else .inr none) := by
          show _ = _
          rw [HS.out, rdNum, if_neg hd, show wrap64 (1 * 0) = 0 from by unfold wrap64; omega]
        clear HS
        have hml : ms.length ≤ 1048577 := by omega
        by_cases h48 : 48 ≤ x
        · have h57 : ¬ x ≤ 57 := fun h => hd ⟨h48, h⟩
          clear hd hb10
          have h32 : ¬ x = 32 := by omega
          have hxn : ¬ x = -1 := by omega
          have t32 : (x == 32) = false := by simpa using h32
          have tm1 : (x != -1) = true := by simpa using hxn
          have HS2 : Hid (rdStep st = .inr none) := HS1.out.trans ((if_neg h32).trans (if_neg hxn))
          clear HS1 h32
          go_wp2_with (at_builtin; refine wpList_pushM rfl (.tmp 45) (.tmp 49) rfl 0 rfl rfl hRa.out hml ?_; intro mv2 w6 hR6)
          have HR6 : Hid (RLx w gr rem.tail ns (ms ++ [0]) nv mv2 w6) := hR6
          clear hR6
          refine bodyPost_ret (results_tmp3 Tryd.results44 _ _ _) rfl ⟨none, HK.out _ (.stop HS2.out), HR6.out.bel, Or.inl ⟨rfl, rfl⟩⟩
        · clear hd hb10
          by_cases h32 : x = 32
          · have t32 : (x == 32) = true := by simpa using h32
            have HS2 : Hid (rdStep st = .inl (.ahead rem.tail ns (ms ++ [0]))) := HS1.out.trans (if_pos h32)
            have hxn : ¬ x = -1 := by omega
            rw [if_neg hxn] at hbd
            have hqq := hlx.2.2.2 hxn
            clear HS1 h32
            go_wp2_with (at_builtin; refine wpList_pushM rfl (.tmp 45) (.tmp 49) rfl 0 rfl rfl hRa.out hml ?_; intro mv2 w6 hR6)
            have HR6 : Hid (RLx w gr rem.tail ns (ms ++ [0]) nv mv2 w6) := hR6
            clear hR6
            go_step3
            exact ⟨_, by omega, rem.tail, ns, (ms ++ [0]), nv, mv2, 1, 0, x, ⟨rfl, rfl, rfl⟩, HR6.out, Or.inr (Or.inr (Or.inl ⟨rfl, rfl, by simp; omega, fun q hq => HK.out q (.go HS2.out hq)⟩))⟩
          · have t32 : (x == 32) = false := by simpa using h32
            by_cases hxn : x = -1
            · have tm1 : (x != -1) = false := by simpa using hxn
              have HS2 : Hid (rdStep st = .inr (some (ns, ms ++ [0]))) := HS1.out.trans ((if_neg h32).trans (if_pos hxn))
              clear HS1 h32
              go_wp2_with (at_builtin; refine wpList_pushM rfl (.tmp 45) (.tmp 49) rfl 0 rfl rfl hRa.out hml ?_; intro mv2 w6 hR6)
              have HR6 : Hid (RLx w gr rem.tail ns (ms ++ [0]) nv mv2 w6) := hR6
              clear hR6
              have hcv := HR6.out.name
              obtain ⟨N, hN⟩ : ∃ N, N = runesBytes ns := ⟨_, rfl⟩
              rw [← hN] at hcv
              have HNN : Hid (N = runesBytes ns) := hN
              clear hN
              go_step3
              go_wp2_with fail
              refine bodyPost_ret (results_tmp3 Tryd.results44 _ _ _) rfl ⟨some (ns, (ms ++ [0])), HK.out _ (.stop HS2.out), HR6.out.bel, Or.inr ⟨ns, (ms ++ [0]), mv2, rfl, by rw [← HNN.out]; rfl, HR6.out.nums⟩⟩
            · have tm1 : (x != -1) = true := by simpa using hxn
              have HS2 : Hid (rdStep st = .inr none) := HS1.out.trans ((if_neg h32).trans (if_neg hxn))
              clear HS1 h32
              go_wp2_with (at_builtin; refine wpList_pushM rfl (.tmp 45) (.tmp 49) rfl 0 rfl rfl hRa.out hml ?_; intro mv2 w6 hR6)
              have HR6 : Hid (RLx w gr rem.tail ns (ms ++ [0]) nv mv2 w6) := hR6
              clear hR6
              refine bodyPost_ret (results_tmp3 Tryd.results44 _ _ _) rfl ⟨none, HK.out _ (.stop HS2.out), HR6.out.bel, Or.inl ⟨rfl, rfl⟩⟩

set_option maxRecDepth 100000 in
set_option maxHeartbeats 6400000 in
theorem readLine_p0 (s : ByteArray) (w : World) (gr : Nat) (s0 : RdSt) (R0 c : Code) (hc : Tryd.f44.body = some (.seq R0 (.scope c))) (m : Nat) (wr : World) (rem ns ms : List Int) (nv mv : Value) (sign acc r : Int) (U : Nat → Value) (hR : Hid (RLx w gr rem ns ms nv mv wr)) (hm : m = 2 * rem.length + 3) (hms : ms = []) (hb : ns.length + rem.length ≤ 1048576) (hK : ∀ q, Runs (.name rem ns) q → Runs s0 q) :
    ∃ rest, findLabel c 0 = some rest ∧ rest.wp Tryd.prog (jumpsTo (fun l' a' w' => ∃ m', m' < m ∧ RJ s w gr s0 l' m' a' w') (bodyPost Tryd.prog Tryd.f44 (RdPost s0 w))) { tmps := #[.string s, undef, .string ⟨#[]⟩, .slice none 0 0, .bool false, .pointer (some ⟨gr, 0, none⟩), nv, mv, .int .i64 sign, .int .i64 acc, .int .i32 r, U 11, U 12, U 13, U 14, U 15, U 16, U 17, U 18, U 19, U 20, U 21, U 22, U 23, U 24, U 25, U 26, U 27, U 28, U 29, U 30, U 31, U 32, U 33, U 34, U 35, U 36, U 37, U 38, U 39, U 40, U 41, U 42, U 43, U 44, U 45, U 46, U 47, U 48, U 49, U 50, U 51, U 52, U 53, U 54, U 55, U 56, U 57], defers := [] } wr := by
  cases hc
  have HK : Hid (∀ q, Runs (.name rem ns) q → Runs s0 q) := hK
  obtain ⟨st, hst⟩ : ∃ st : RdSt, st = .name rem ns := ⟨_, rfl⟩
  have HS : Hid (rdStep st = rdName rem ns) := by rw [hst]; exact (rfl : _ = _)
  rw [← hst] at HK
  have Hms : Hid (ms = []) := hms
  clear hst hK hms
  refine ⟨_, rfl, ?_⟩
  go_wp2_with fail
  refine (hR.out.next).mono ?_
  rintro e wr1 ⟨rfl, hR1⟩
  have hlk := head_len rem
  obtain ⟨k, hqk⟩ : ∃ k, k = rem.headD (-1) := ⟨_, rfl⟩
  rw [← hqk] at hlk ⊢
  have HQk : Hid (k = rem.headD (-1)) := hqk
  clear hqk
  by_cases hk1 : k = -1
  · have tk : (k == -1) = true := by simpa using hk1
    have HS2 : Hid (rdStep st = .inr (some (ns, ms))) := by
      show _ = _
      rw [HS.out, rdName, ← HQk.out, if_pos hk1, Hms.out]
    clear HS hk1 HQk
    go_wp2_with fail
    go_step3
    exact ⟨_, by omega, rem.tail, ns, ms, nv, mv, sign, acc, _, ⟨rfl, rfl, rfl⟩, hR1.out, Or.inr (Or.inl ⟨rfl, rfl, HK.out _ (.stop HS2.out)⟩)⟩
  · have tk : (k == -1) = false := by simpa using hk1
    have hq := hlk.2.2.2 hk1
    by_cases hk2 : k = 32
    · have tk2 : (k != 32) = false := by simpa using hk2
      have HS2 : Hid (rdStep st = rdAhead rem.tail ns ms) := by
        show _ = _
        rw [HS.out, rdName, ← HQk.out, if_neg hk1, if_pos hk2, Hms.out]
      have hml0 : ms.length = 0 := by rw [Hms.out]; rfl
      clear HS HQk
      have HS : Hid (rdStep st = rdAhead rem.tail ns ms) := HS2
      have hb2 : ms.length + rem.tail.length + 1 ≤ 1048577 := by omega
      clear HS2 hk2
      go_wp2_with fail
      go_step3
      go_wp2_with fail
      refine (hR1.out.next).mono ?_
      rintro e wr1a ⟨rfl, hR1a⟩
      have hlx := head_len rem.tail
      obtain ⟨x, hqx⟩ : ∃ x, x = rem.tail.headD (-1) := ⟨_, rfl⟩
      rw [← hqx] at hlx ⊢
      have HQx : Hid (x = rem.tail.headD (-1)) := hqx
      clear hqx
      by_cases h120 : x = 120
      · have t120 : (x == 120) = true := by simpa using h120
        have HS2 : Hid (rdStep st = rdNum (rem.tail.tail.headD (-1)) rem.tail.tail.tail ns ms 1 0) := by
          show _ = _
          rw [HS.out, rdAhead, ← HQx.out, if_pos h120]
        have hq0 := hlx.2.2.2 (by omega)
        clear HS h120
        go_wp2_with fail
        refine (hR1a.out.next).mono ?_
        rintro e wr1b ⟨rfl, hR1b⟩
        have hlz := head_len rem.tail.tail
        obtain ⟨z, hqz⟩ : ∃ z, z = rem.tail.tail.headD (-1) := ⟨_, rfl⟩
        rw [← hqz] at hlz ⊢
        have HQz : Hid (z = rem.tail.tail.headD (-1)) := hqz
        clear hqz
        rw [← HQz.out] at HS2
        have HS : Hid (rdStep st = rdNum z rem.tail.tail.tail ns ms 1 0) := HS2
        have hbd : ms.length + rem.tail.tail.tail.length + 1 + (if z = -1 then 0 else 1) ≤ 1048577 := by have := hlz.2.1; omega
        clear HS2 HQz HQx
        go_wp2_with fail
        go_step3
        by_cases hd : 48 ≤ z ∧ z ≤ 57
        · have hd1 := hd.1
          have hd2 := hd.2
          have hw32 : wrap32 (z - 48) = z - 48 := by unfold wrap32; omega
          have hxn : ¬ z = -1 := by omega
          rw [if_neg hxn] at hbd
          have hqq := hlz.2.2.2 hxn
          have HS2 : Hid (rdStep st = .inl (.num (rem.tail.tail.tail.headD (-1)) rem.tail.tail.tail.tail ns ms 1 (z - 48))) := by
            show _ = _
            rw [HS.out, rdNum, if_pos hd]
            rw [show wrap64 (wrap64 (0 * 10) + (z - 48)) = z - 48 from by unfold wrap64; omega]
          clear hd
          go_wp2_with fail
          refine (hR1b.out.next).mono ?_
          rintro e wr1bn ⟨rfl, hR1bn⟩
          have hly := head_len rem.tail.tail.tail
          obtain ⟨y, hqy⟩ : ∃ y, y = rem.tail.tail.tail.headD (-1) := ⟨_, rfl⟩
          rw [← hqy] at hly ⊢
          have HQy : Hid (y = rem.tail.tail.tail.headD (-1)) := hqy
          clear hqy
          rw [← HQy.out] at HS2
          clear HQy
          go_wp2_with fail
          go_step3
          exact ⟨_, by omega, rem.tail.tail.tail.tail, ns, ms, nv, mv, 1, _, y, ⟨rfl, rfl, rfl⟩, hR1bn.out, Or.inr (Or.inr (Or.inr ⟨rfl, rfl, by split at hly <;> split <;> omega, fun q hq => HK.out q (.go HS2.out hq)⟩))⟩
        · have hb10 : (decide (48 ≤ z) && decide (z ≤ 57)) = false := by
            rw [Bool.and_eq_false_iff]
            by_cases h48 : 48 ≤ z
            · right; exact decide_eq_false (by omega)
            · left; exact decide_eq_false h48
          have HS1 : Hid (rdStep st = if z = 32 then .inl (.ahead rem.tail.tail.tail ns (ms ++ [0])) else if z = -1 then .inr (some (ns, ms ++ [0])) else .inr none) := by
            show _ = _
            rw [HS.out, rdNum, if_neg hd, show wrap64 (1 * 0) = 0 from by unfold wrap64; omega]
          clear HS
          have hml : ms.length ≤ 1048577 := by omega
          by_cases h48 : 48 ≤ z
          · have h57 : ¬ z ≤ 57 := fun h => hd ⟨h48, h⟩
            clear hd hb10
            have h32 : ¬ z = 32 := by omega
            have hxn : ¬ z = -1 := by omega
            have t32 : (z == 32) = false := by simpa using h32
            have tm1 : (z != -1) = true := by simpa using hxn
            have HS2 : Hid (rdStep st = .inr none) := HS1.out.trans ((if_neg h32).trans (if_neg hxn))
            clear HS1 h32
            go_wp2_with (at_builtin; refine wpList_pushM rfl (.tmp 45) (.tmp 49) rfl 0 rfl rfl hR1b.out hml ?_; intro mv2 w6 hR6)
            have HR6 : Hid (RLx w gr rem.tail.tail.tail ns (ms ++ [0]) nv mv2 w6) := hR6
            clear hR6
            refine bodyPost_ret (results_tmp3 Tryd.results44 _ _ _) rfl ⟨none, HK.out _ (.stop HS2.out), HR6.out.bel, Or.inl ⟨rfl, rfl⟩⟩
          · clear hd hb10
            by_cases h32 : z = 32
            · have t32 : (z == 32) = true := by simpa using h32
              have HS2 : Hid (rdStep st = .inl (.ahead rem.tail.tail.tail ns (ms ++ [0]))) := HS1.out.trans (if_pos h32)
              have hxn : ¬ z = -1 := by omega
              rw [if_neg hxn] at hbd
              have hqq := hlz.2.2.2 hxn
              clear HS1 h32
              go_wp2_with (at_builtin; refine wpList_pushM rfl (.tmp 45) (.tmp 49) rfl 0 rfl rfl hR1b.out hml ?_; intro mv2 w6 hR6)
              have HR6 : Hid (RLx w gr rem.tail.tail.tail ns (ms ++ [0]) nv mv2 w6) := hR6
              clear hR6
              go_step3
              exact ⟨_, by omega, rem.tail.tail.tail, ns, (ms ++ [0]), nv, mv2, 1, 0, z, ⟨rfl, rfl, rfl⟩, HR6.out, Or.inr (Or.inr (Or.inl ⟨rfl, rfl, by simp; omega, fun q hq => HK.out q (.go HS2.out hq)⟩))⟩
            · have t32 : (z == 32) = false := by simpa using h32
              by_cases hxn : z = -1
              · have tm1 : (z != -1) = false := by simpa using hxn
                have HS2 : Hid (rdStep st = .inr (some (ns, ms ++ [0]))) := HS1.out.trans ((if_neg h32).trans (if_pos hxn))
                clear HS1 h32
                go_wp2_with (at_builtin; refine wpList_pushM rfl (.tmp 45) (.tmp 49) rfl 0 rfl rfl hR1b.out hml ?_; intro mv2 w6 hR6)
                have HR6 : Hid (RLx w gr rem.tail.tail.tail ns (ms ++ [0]) nv mv2 w6) := hR6
                clear hR6
                have hcv := HR6.out.name
                obtain ⟨N, hN⟩ : ∃ N, N = runesBytes ns := ⟨_, rfl⟩
                rw [← hN] at hcv
                have HNN : Hid (N = runesBytes ns) := hN
                clear hN
                go_step3
                go_wp2_with fail
                refine bodyPost_ret (results_tmp3 Tryd.results44 _ _ _) rfl ⟨some (ns, (ms ++ [0])), HK.out _ (.stop HS2.out), HR6.out.bel, Or.inr ⟨ns, (ms ++ [0]), mv2, rfl, by rw [← HNN.out]; rfl, HR6.out.nums⟩⟩
              · have tm1 : (z != -1) = true := by simpa using hxn
                have HS2 : Hid (rdStep st = .inr none) := HS1.out.trans ((if_neg h32).trans (if_neg hxn))
                clear HS1 h32
                go_wp2_with (at_builtin; refine wpList_pushM rfl (.tmp 45) (.tmp 49) rfl 0 rfl rfl hR1b.out hml ?_; intro mv2 w6 hR6)
                have HR6 : Hid (RLx w gr rem.tail.tail.tail ns (ms ++ [0]) nv mv2 w6) := hR6
                clear hR6
                refine bodyPost_ret (results_tmp3 Tryd.results44 _ _ _) rfl ⟨none, HK.out _ (.stop HS2.out), HR6.out.bel, Or.inl ⟨rfl, rfl⟩⟩
      · have t120 : (x == 120) = false := by simpa using h120
        by_cases h45 : x = 45
        · have t45 : (x == 45) = true := by simpa using h45
          have HS2 : Hid (rdStep st = rdNum (rem.tail.tail.headD (-1)) rem.tail.tail.tail ns ms (-1) 0) := by
            show _ = _
            rw [HS.out, rdAhead, ← HQx.out, if_neg h120, if_pos h45]
          have hq0 := hlx.2.2.2 (by omega)
          clear HS h120 h45
          go_wp2_with fail
          refine (hR1a.out.next).mono ?_
          rintro e wr1b ⟨rfl, hR1b⟩
          have hlz := head_len rem.tail.tail
          obtain ⟨z, hqz⟩ : ∃ z, z = rem.tail.tail.headD (-1) := ⟨_, rfl⟩
          rw [← hqz] at hlz ⊢
          have HQz : Hid (z = rem.tail.tail.headD (-1)) := hqz
          clear hqz
          rw [← HQz.out] at HS2
          have HS : Hid (rdStep st = rdNum z rem.tail.tail.tail ns ms (-1) 0) := HS2
          have hbd : ms.length + rem.tail.tail.tail.length + 1 + (if z = -1 then 0 else 1) ≤ 1048577 := by have := hlz.2.1; omega
          clear HS2 HQz HQx
          go_wp2_with fail
          go_step3
          by_cases hd : 48 ≤ z ∧ z ≤ 57
          · have hd1 := hd.1
            have hd2 := hd.2
            have hw32 : wrap32 (z - 48) = z - 48 := by unfold wrap32; omega
            have hxn : ¬ z = -1 := by omega
            rw [if_neg hxn] at hbd
            have hqq := hlz.2.2.2 hxn
            have HS2 : Hid (rdStep st = .inl (.num (rem.tail.tail.tail.headD (-1)) rem.tail.tail.tail.tail ns ms (-1) (z - 48))) := by
              show _ = _
              rw [HS.out, rdNum, if_pos hd]
              rw [show wrap64 (wrap64 (0 * 10) + (z - 48)) = z - 48 from by unfold wrap64; omega]
            clear hd
            go_wp2_with fail
            refine (hR1b.out.next).mono ?_
            rintro e wr1bn ⟨rfl, hR1bn⟩
            have hly := head_len rem.tail.tail.tail
            obtain ⟨y, hqy⟩ : ∃ y, y = rem.tail.tail.tail.headD (-1) := ⟨_, rfl⟩
            rw [← hqy] at hly ⊢
            have HQy : Hid (y = rem.tail.tail.tail.headD (-1)) := hqy
            clear hqy
            rw [← HQy.out] at HS2
            clear HQy
            go_wp2_with fail
            go_step3
            exact ⟨_, by omega, rem.tail.tail.tail.tail, ns, ms, nv, mv, (-1), _, y, ⟨rfl, rfl, rfl⟩, hR1bn.out, Or.inr (Or.inr (Or.inr ⟨rfl, rfl, by split at hly <;> split <;> omega, fun q hq => HK.out q (.go HS2.out hq)⟩))⟩
          · have hb10 : (decide (48 ≤ z) && decide (z ≤ 57)) = false := by
              rw [Bool.and_eq_false_iff]
              by_cases h48 : 48 ≤ z
              · right; exact decide_eq_false (by omega)
              · left; exact decide_eq_false h48
            have HS1 : Hid (rdStep st = if z = 32 then .inl (.ahead rem.tail.tail.tail ns (ms ++ [0])) else if z = -1 then .inr (some (ns, ms ++ [0])) else .inr none) := by
              show _ = _
              rw [HS.out, rdNum, if_neg hd, show wrap64 ((-1) * 0) = 0 from by unfold wrap64; omega]
            clear HS
            have hml : ms.length ≤ 1048577 := by omega
            by_cases h48 : 48 ≤ z
            · have h57 : ¬ z ≤ 57 := fun h => hd ⟨h48, h⟩
              clear hd hb10
              have h32 : ¬ z = 32 := by omega
              have hxn : ¬ z = -1 := by omega
              have t32 : (z == 32) = false := by simpa using h32
              have tm1 : (z != -1) = true := by simpa using hxn
              have HS2 : Hid (rdStep st = .inr none) := HS1.out.trans ((if_neg h32).trans (if_neg hxn))
              clear HS1 h32
              go_wp2_with (at_builtin; refine wpList_pushM rfl (.tmp 45) (.tmp 49) rfl 0 rfl rfl hR1b.out hml ?_; intro mv2 w6 hR6)
              have HR6 : Hid (RLx w gr rem.tail.tail.tail ns (ms ++ [0]) nv mv2 w6) := hR6
              clear hR6
              refine bodyPost_ret (results_tmp3 Tryd.results44 _ _ _) rfl ⟨none, HK.out _ (.stop HS2.out), HR6.out.bel, Or.inl ⟨rfl, rfl⟩⟩
            · clear hd hb10
              by_cases h32 : z = 32
              · have t32 : (z == 32) = true := by simpa using h32
                have HS2 : Hid (rdStep st = .inl (.ahead rem.tail.tail.tail ns (ms ++ [0]))) := HS1.out.trans (if_pos h32)
                have hxn : ¬ z = -1 := by omega
                rw [if_neg hxn] at hbd
                have hqq := hlz.2.2.2 hxn
                clear HS1 h32
                go_wp2_with (at_builtin; refine wpList_pushM rfl (.tmp 45) (.tmp 49) rfl 0 rfl rfl hR1b.out hml ?_; intro mv2 w6 hR6)
                have HR6 : Hid (RLx w gr rem.tail.tail.tail ns (ms ++ [0]) nv mv2 w6) := hR6
                clear hR6
                go_step3
                exact ⟨_, by omega, rem.tail.tail.tail, ns, (ms ++ [0]), nv, mv2, (-1), 0, z, ⟨rfl, rfl, rfl⟩, HR6.out, Or.inr (Or.inr (Or.inl ⟨rfl, rfl, by simp; omega, fun q hq => HK.out q (.go HS2.out hq)⟩))⟩
              · have t32 : (z == 32) = false := by simpa using h32
                by_cases hxn : z = -1
                · have tm1 : (z != -1) = false := by simpa using hxn
                  have HS2 : Hid (rdStep st = .inr (some (ns, ms ++ [0]))) := HS1.out.trans ((if_neg h32).trans (if_pos hxn))
                  clear HS1 h32
                  go_wp2_with (at_builtin; refine wpList_pushM rfl (.tmp 45) (.tmp 49) rfl 0 rfl rfl hR1b.out hml ?_; intro mv2 w6 hR6)
                  have HR6 : Hid (RLx w gr rem.tail.tail.tail ns (ms ++ [0]) nv mv2 w6) := hR6
                  clear hR6
                  have hcv := HR6.out.name
                  obtain ⟨N, hN⟩ : ∃ N, N = runesBytes ns := ⟨_, rfl⟩
                  rw [← hN] at hcv
                  have HNN : Hid (N = runesBytes ns) := hN
                  clear hN
                  go_step3
                  go_wp2_with fail
                  refine bodyPost_ret (results_tmp3 Tryd.results44 _ _ _) rfl ⟨some (ns, (ms ++ [0])), HK.out _ (.stop HS2.out), HR6.out.bel, Or.inr ⟨ns, (ms ++ [0]), mv2, rfl, by rw [← HNN.out]; rfl, HR6.out.nums⟩⟩
                · have tm1 : (z != -1) = true := by simpa using hxn
                  have HS2 : Hid (rdStep st = .inr none) := HS1.out.trans ((if_neg h32).trans (if_neg hxn))
                  clear HS1 h32
                  go_wp2_with (at_builtin; refine wpList_pushM rfl (.tmp 45) (.tmp 49) rfl 0 rfl rfl hR1b.out hml ?_; intro mv2 w6 hR6)
                  have HR6 : Hid (RLx w gr rem.tail.tail.tail ns (ms ++ [0]) nv mv2 w6) := hR6
                  clear hR6
                  refine bodyPost_ret (results_tmp3 Tryd.results44 _ _ _) rfl ⟨none, HK.out _ (.stop HS2.out), HR6.out.bel, Or.inl ⟨rfl, rfl⟩⟩
        · have t45 : (x == 45) = false := by simpa using h45
          have HS2 : Hid (rdStep st = rdNum x rem.tail.tail ns ms 1 0) := by
            show _ = _
            rw [HS.out, rdAhead, ← HQx.out, if_neg h120, if_neg h45]
          clear HS h120 h45 HQx
          have HS : Hid (rdStep st = rdNum x rem.tail.tail ns ms 1 0) := HS2
          have hbd : ms.length + rem.tail.tail.length + 1 + (if x = -1 then 0 else 1) ≤ 1048577 := by have := hlx.2.1; omega
          clear HS2
          go_wp2_with fail
          go_step3
          by_cases hd : 48 ≤ x ∧ x ≤ 57
          · have hd1 := hd.1
            have hd2 := hd.2
            have hw32 : wrap32 (x - 48) = x - 48 := by unfold wrap32; omega
            have hxn : ¬ x = -1 := by omega
            rw [if_neg hxn] at hbd
            have hqq := hlx.2.2.2 hxn
            have HS2 : Hid (rdStep st = .inl (.num (rem.tail.tail.headD (-1)) rem.tail.tail.tail ns ms 1 (x - 48))) := by
              show _ = _
              rw [HS.out, rdNum, if_pos hd]
              rw [show wrap64 (wrap64 (0 * 10) + (x - 48)) = x - 48 from by unfold wrap64; omega]
            clear hd
            go_wp2_with fail
            refine (hR1a.out.next).mono ?_
            rintro e wr1an ⟨rfl, hR1an⟩
            have hly := head_len rem.tail.tail
            obtain ⟨y, hqy⟩ : ∃ y, y = rem.tail.tail.headD (-1) := ⟨_, rfl⟩
            rw [← hqy] at hly ⊢
            have HQy : Hid (y = rem.tail.tail.headD (-1)) := hqy
            clear hqy
            rw [← HQy.out] at HS2
            clear HQy
            go_wp2_with fail
            go_step3
            exact ⟨_, by omega, rem.tail.tail.tail, ns, ms, nv, mv, 1, _, y, ⟨rfl, rfl, rfl⟩, hR1an.out, Or.inr (Or.inr (Or.inr ⟨rfl, rfl, by split at hly <;> split <;> omega, fun q hq => HK.out q (.go HS2.out hq)⟩))⟩
          · have hb10 : (decide (48 ≤ x) && decide (x ≤ 57)) = false := by
              rw [Bool.and_eq_false_iff]
              by_cases h48 : 48 ≤ x
              · right; exact decide_eq_false (by omega)
              · left; exact decide_eq_false h48
            have HS1 : Hid (rdStep st = if x = 32 then .inl (.ahead rem.tail.tail ns (ms ++ [0])) else if x = -1 then .inr (some (ns, ms ++ [0])) else .inr none) := by
              show _ = _
              rw [HS.out, rdNum, if_neg hd, show wrap64 (1 * 0) = 0 from by unfold wrap64; omega]
            clear HS
            have hml : ms.length ≤ 1048577 := by omega
            by_cases h48 : 48 ≤ x
            · have h57 : ¬ x ≤ 57 := fun h => hd ⟨h48, h⟩
              clear hd hb10
              have h32 : ¬ x = 32 := by omega
              have hxn : ¬ x = -1 := by omega
              have t32 : (x == 32) = false := by simpa using h32
              have tm1 : (x != -1) = true := by simpa using hxn
              have HS2 : Hid (rdStep st = .inr none) := HS1.out.trans ((if_neg h32).trans (if_neg hxn))
              clear HS1 h32
              go_wp2_with (at_builtin; refine wpList_pushM rfl (.tmp 45) (.tmp 49) rfl 0 rfl rfl hR1a.out hml ?_; intro mv2 w6 hR6)
              have HR6 : Hid (RLx w gr rem.tail.tail ns (ms ++ [0]) nv mv2 w6) := hR6
              clear hR6
              refine bodyPost_ret (results_tmp3 Tryd.results44 _ _ _) rfl ⟨none, HK.out _ (.stop HS2.out), HR6.out.bel, Or.inl ⟨rfl, rfl⟩⟩
            · clear hd hb10
              by_cases h32 : x = 32
              · have t32 : (x == 32) = true := by simpa using h32
                have HS2 : Hid (rdStep st = .inl (.ahead rem.tail.tail ns (ms ++ [0]))) := HS1.out.trans (if_pos h32)
                have hxn : ¬ x = -1 := by omega
                rw [if_neg hxn] at hbd
                have hqq := hlx.2.2.2 hxn
                clear HS1 h32
                go_wp2_with (at_builtin; refine wpList_pushM rfl (.tmp 45) (.tmp 49) rfl 0 rfl rfl hR1a.out hml ?_; intro mv2 w6 hR6)
                have HR6 : Hid (RLx w gr rem.tail.tail ns (ms ++ [0]) nv mv2 w6) := hR6
                clear hR6
                go_step3
                exact ⟨_, by omega, rem.tail.tail, ns, (ms ++ [0]), nv, mv2, 1, 0, x, ⟨rfl, rfl, rfl⟩, HR6.out, Or.inr (Or.inr (Or.inl ⟨rfl, rfl, by simp; omega, fun q hq => HK.out q (.go HS2.out hq)⟩))⟩
              · have t32 : (x == 32) = false := by simpa using h32
                by_cases hxn : x = -1
                · have tm1 : (x != -1) = false := by simpa using hxn
                  have HS2 : Hid (rdStep st = .inr (some (ns, ms ++ [0]))) := HS1.out.trans ((if_neg h32).trans (if_pos hxn))
                  clear HS1 h32
                  go_wp2_with (at_builtin; refine wpList_pushM rfl (.tmp 45) (.tmp 49) rfl 0 rfl rfl hR1a.out hml ?_; intro mv2 w6 hR6)
                  have HR6 : Hid (RLx w gr rem.tail.tail ns (ms ++ [0]) nv mv2 w6) := hR6
                  clear hR6
                  have hcv := HR6.out.name
                  obtain ⟨N, hN⟩ : ∃ N, N = runesBytes ns := ⟨_, rfl⟩
                  rw [← hN] at hcv
                  have HNN : Hid (N = runesBytes ns) := hN
                  clear hN
                  go_step3
                  go_wp2_with fail
                  refine bodyPost_ret (results_tmp3 Tryd.results44 _ _ _) rfl ⟨some (ns, (ms ++ [0])), HK.out _ (.stop HS2.out), HR6.out.bel, Or.inr ⟨ns, (ms ++ [0]), mv2, rfl, by rw [← HNN.out]; rfl, HR6.out.nums⟩⟩
                · have tm1 : (x != -1) = true := by simpa using hxn
                  have HS2 : Hid (rdStep st = .inr none) := HS1.out.trans ((if_neg h32).trans (if_neg hxn))
                  clear HS1 h32
                  go_wp2_with (at_builtin; refine wpList_pushM rfl (.tmp 45) (.tmp 49) rfl 0 rfl rfl hR1a.out hml ?_; intro mv2 w6 hR6)
                  have HR6 : Hid (RLx w gr rem.tail.tail ns (ms ++ [0]) nv mv2 w6) := hR6
                  clear hR6
                  refine bodyPost_ret (results_tmp3 Tryd.results44 _ _ _) rfl ⟨none, HK.out _ (.stop HS2.out), HR6.out.bel, Or.inl ⟨rfl, rfl⟩⟩
    · have tk2 : (k != 32) = true := by simpa using hk2
      have HS2 : Hid (rdStep st = .inl (.name rem.tail (ns ++ [k]))) := by
        show _ = _
        rw [HS.out, rdName, ← HQk.out, if_neg hk1, if_neg hk2]
      clear HS hk1 hk2 HQk
      have hnl : ns.length ≤ 1048576 := by omega
      go_wp2_with (at_builtin; refine wpList_pushN rfl (.tmp 21) (.tmp 23) rfl k rfl rfl hR1.out hnl ?_; intro nv2 w6 hR6)
      have HR6 : Hid (RLx w gr rem.tail (ns ++ [k]) ms nv2 mv w6) := hR6
      clear hR6
      go_step3
      exact ⟨_, by omega, rem.tail, (ns ++ [k]), ms, nv2, mv, sign, acc, k, ⟨rfl, rfl, rfl⟩, HR6.out, Or.inl ⟨rfl, rfl, Hms.out, by simp; omega, fun q hq => HK.out q (.go HS2.out hq)⟩⟩

theorem readLine_body (s : ByteArray) (w : World) (gr : Nat) (s0 : RdSt) (R0 c : Code) (hc : Tryd.f44.body = some (.seq R0 (.scope c))) (l m : Nat) (a : Act) (wr : World) (hJ : RJ s w gr s0 l m a wr) :
    ∃ rest, findLabel c l = some rest ∧ rest.wp Tryd.prog (jumpsTo (fun l' a' w' => ∃ m', m' < m ∧ RJ s w gr s0 l' m' a' w') (bodyPost Tryd.prog Tryd.f44 (RdPost s0 w))) a wr := by
  obtain ⟨rem, ns, ms, nv, mv, sign, acc, r, hF, hR, hJ⟩ := hJ
  obtain ⟨U, rfl⟩ := hF.open
  rcases hJ with ⟨rfl, hm, hms, hb, hK⟩ | ⟨rfl, hm, hK⟩ | ⟨rfl, hm, hb, hK⟩ | ⟨rfl, hm, hbd0, hK⟩
  · exact readLine_p0 s w gr s0 R0 c hc m wr rem ns ms nv mv sign acc r U hR hm hms hb hK
  · exact readLine_p1 s w gr s0 R0 c hc m wr rem ns ms nv mv sign acc r U hR hm hK
  · exact readLine_p2 s w gr s0 R0 c hc m wr rem ns ms nv mv sign acc r U hR hm hb hK
  · exact readLine_p3 s w gr s0 R0 c hc m wr rem ns ms nv mv sign acc r U hR hm hbd0 hK

theorem rl_start (w w1 : World) (cap : Nat) (rs : List Int) (hb : Below w.heap.size w w1) (hsz : w1.heap.size = w.heap.size + 1) (hrun : ∀ (k : Nat) (x : Int), rs[k]? = some x → w1.cell? ⟨w.heap.size, k, none⟩ = some (.int .i32 x)) (hsm : rs.length ≤ 1048576) :
    RLx w w1.heap.size rs [] [] (.slice (some ⟨w1.heap.size + 1, 0, none⟩) 0 0) (.slice (some ⟨w1.heap.size + 2, 0, none⟩) 0 0) (((w1.alloc (.cells #[.slice (some ⟨w.heap.size, 0, none⟩) rs.length cap, .int .i64 0] 104 (0, 0))).alloc (.cells #[] 21 (0, 0))).alloc (.cells #[] 2 (0, 0))) := by
  obtain ⟨w2, hw2⟩ : ∃ w2, w2 = w1.alloc (.cells #[.slice (some ⟨w.heap.size, 0, none⟩) rs.length cap, .int .i64 0] 104 (0, 0)) := ⟨_, rfl⟩
  have h2 : w2.heap[w1.heap.size]? = some (.cells #[.slice (some ⟨w.heap.size, 0, none⟩) rs.length cap, .int .i64 0] 104 (0, 0)) := by rw [hw2]; exact heap_alloc_new _ _
  have s2 : w2.heap.size = w1.heap.size + 1 := by rw [hw2]; simp
  have b2 : Below w1.heap.size w1 w2 := by rw [hw2]; exact (Below.refl _ _).alloc (Nat.le_refl _) _
  rw [← hw2]
  clear hw2
  obtain ⟨w3, hw3⟩ : ∃ w3, w3 = w2.alloc (.cells #[] 21 (0, 0)) := ⟨_, rfl⟩
  have s3 : w3.heap.size = w2.heap.size + 1 := by rw [hw3]; simp
  have b3 : Below w2.heap.size w2 w3 := by rw [hw3]; exact (Below.refl _ _).alloc (Nat.le_refl _) _
  have n3 : w3.ownsRow w.heap.size 21 1 (.slice (some ⟨w2.heap.size, 0, none⟩) 0 0) 0 (([] : List Int).map (Value.int .i32)) := by rw [hw3]; exact World.ownsRow_lit w2 #[] 0 (by omega) (by unfold maxLen; omega) rfl
  rw [← hw3]
  clear hw3
  obtain ⟨w4, hw4⟩ : ∃ w4, w4 = w3.alloc (.cells #[] 2 (0, 0)) := ⟨_, rfl⟩
  have s4 : w4.heap.size = w3.heap.size + 1 := by rw [hw4]; simp
  have b4 : Below w3.heap.size w3 w4 := by rw [hw4]; exact (Below.refl _ _).alloc (Nat.le_refl _) _
  have n4 : w4.ownsRow w.heap.size 2 1 (.slice (some ⟨w3.heap.size, 0, none⟩) 0 0) 0 (([] : List Int).map (Value.int .i64)) := by rw [hw4]; exact World.ownsRow_lit w3 #[] 0 (by omega) (by unfold maxLen; omega) rfl
  rw [← hw4]
  clear hw4
  have b24 := below_trans b3 b4
  have b14 := below_trans b2 b24
  refine ⟨w.heap.size, cap, 0, rs, ⟨keep_some b24 h2, fun k x hk => (b14.cell (by show w.heap.size < w1.heap.size; omega)).trans (hrun k x hk), ?_, ?_, below_trans hb b14, by omega, by omega, by omega, ?_, ?_, Nat.zero_le _, hsm⟩, rfl⟩
  · rw [← s2]; exact ownsRow_below n3 b4
  · rw [show w1.heap.size + 2 = w3.heap.size by omega]; exact n4
  · intro k hk
    have hk2 : w1.heap.size + 1 = k := Option.some.inj hk
    refine ⟨by omega, by omega, fun q => ?_⟩
    have hk3 : w1.heap.size + 2 = k := Option.some.inj q
    omega
  · intro k hk
    have hk2 : w1.heap.size + 2 = k := Option.some.inj hk
    exact ⟨by omega, by omega⟩

set_option maxRecDepth 100000 in
set_option maxHeartbeats 6400000 in
theorem readLine_any (s : ByteArray) (hs : s.size ≤ 1048576) (w : World) : Calls Tryd.prog 44 #[.string s] w (RdPost (.name (runesL s) []) w) := by
  have hl := runesL_len s
  have hcells := runesL_cells s
  have hcv0 := run_runes_of_string (P := Tryd.prog) w 9 102 21 s Tryd.underlying9 Tryd.underlying102 Tryd.underlying21 (by rw [hcells]; simp; omega)
  rw [hcells] at hcv0
  obtain ⟨rem, hrem⟩ : ∃ rem, rem = runesL s := ⟨_, rfl⟩
  rw [← hrem] at hcv0 hl ⊢
  have hsz : (rem.map (Value.int .i32)).toArray.size = rem.length := by simp
  rw [hsz] at hcv0
  obtain ⟨cap, hcap⟩ : ∃ cap, cap = grownCap w rem.length 0 21 := ⟨_, rfl⟩
  rw [← hcap] at hcv0
  obtain ⟨w1, hw1⟩ : ∃ w1, w1 = w.drew.alloc (.cells ((rem.map (Value.int .i32)).toArray ++ Array.replicate (cap - rem.length) (.int .i32 0)) 21) := ⟨_, rfl⟩
  rw [← hw1] at hcv0
  have hb1 : Below w.heap.size w w1 := by rw [hw1]; exact (below_drewN (Below.refl w.heap.size w) 1).alloc (Nat.le_refl _) _
  have hs1 : w1.heap.size = w.heap.size + 1 := by rw [hw1]; simp
  have hr1 : w1.heap[w.heap.size]? = some (.cells ((rem.map (Value.int .i32)).toArray ++ Array.replicate (cap - rem.length) (.int .i32 0)) 21 (0, 0)) := by rw [hw1]; exact heap_alloc_new w.drew _
  have hrun : ∀ (k : Nat) (x : Int), rem[k]? = some x → w1.cell? ⟨w.heap.size, k, none⟩ = some (.int .i32 x) := by
    intro k x hk
    have hkl : k < rem.length := by
      by_cases h : k < rem.length
      · exact h
      · rw [List.getElem?_eq_none (by omega)] at hk; cases hk
    simp only [World.cell?, hr1]
    rw [Array.getElem?_append_left (by simpa using hkl)]
    simp [hk]
  have HR0 := rl_start w w1 cap rem hb1 hs1 hrun (by omega)
  have hb : ([] : List Int).length + rem.length ≤ 1048576 := by simp; omega
  clear hcells hsz hcap hw1 hb1 hr1 hrun hrem hl
  obtain ⟨c, R0, hc⟩ : ∃ c R0, Tryd.f44.body = some (.seq R0 (.scope c)) := ⟨_, _, rfl⟩
  obtain ⟨s0, hs0⟩ : ∃ s0 : RdSt, s0 = .name rem [] := ⟨_, rfl⟩
  rw [← hs0]
  have HS0 : Hid (s0 = .name rem []) := hs0
  clear hs0
  obtain ⟨gr, hgr⟩ : ∃ gr, gr = w.heap.size + 1 := ⟨_, rfl⟩
  rw [hs1, ← hgr] at HR0
  have HGR : Hid (gr = w.heap.size + 1) := hgr
  clear hgr
  have HB := readLine_body s w gr s0 R0 c hc
  cases hc
  have HBH : Hid _ := HB
  have HRH : Hid _ := HR0
  clear HB HR0
  go_enter Tryd.func44, Tryd.ntmps44
  go_wp2_with fail
  refine wp_scope_labels (RJ s w gr s0) ?_ HBH.out
  clear HBH
  go_wp2_with fail
  go_step3
  rw [← HGR.out]
  obtain ⟨nv, hnv⟩ : ∃ nv : Value, nv = .slice (some ⟨gr + 1, 0, none⟩) 0 0 := ⟨_, rfl⟩
  obtain ⟨mv, hmv⟩ : ∃ mv : Value, mv = .slice (some ⟨gr + 1 + 1, 0, none⟩) 0 0 := ⟨_, rfl⟩
  have HRR := HRH.out
  rw [← hnv, show gr + 2 = gr + 1 + 1 from rfl, ← hmv] at HRR
  rw [← hnv, ← hmv]
  clear hnv hmv HRH hcv0 hs1
  obtain ⟨wr, hwr⟩ : ∃ wr, wr = (((w1.alloc (.cells #[.slice (some ⟨w.heap.size, 0, none⟩) rem.length cap, .int .i64 0] 104 (0, 0))).alloc (.cells #[] 21 (0, 0))).alloc (.cells #[] 2 (0, 0))) := ⟨_, rfl⟩
  rw [← hwr] at HRR ⊢
  clear hwr
  obtain ⟨ns, hns⟩ : ∃ ns : List Int, ns = [] := ⟨_, rfl⟩
  obtain ⟨ms, hms⟩ : ∃ ms : List Int, ms = [] := ⟨_, rfl⟩
  have hR : Hid (RLx w gr rem ns ms nv mv wr) := by rw [hns, hms]; exact HRR
  have Hms : Hid (ms = []) := hms
  rw [← hns] at hb
  obtain ⟨st, hst⟩ : ∃ st : RdSt, st = .name rem ns := ⟨_, rfl⟩
  have HK : Hid (∀ q, Runs st q → Runs s0 q) := by
    intro q hq
    rw [hst, hns] at hq
    rw [HS0.out]; exact hq
  have HS : Hid (rdStep st = rdName rem ns) := by rw [hst]; exact (rfl : _ = _)
  clear hst hns hms HRR
  go_wp2_with fail
  refine (hR.out.next).mono ?_
  rintro e wr1 ⟨rfl, hR1⟩
  have hlk := head_len rem
  obtain ⟨k, hqk⟩ : ∃ k, k = rem.headD (-1) := ⟨_, rfl⟩
  rw [← hqk] at hlk ⊢
  have HQk : Hid (k = rem.headD (-1)) := hqk
  clear hqk
  by_cases hk1 : k = -1
  · have tk : (k == -1) = true := by simpa using hk1
    have HS2 : Hid (rdStep st = .inr (some (ns, ms))) := by
      show _ = _
      rw [HS.out, rdName, ← HQk.out, if_pos hk1, Hms.out]
    clear HS hk1 HQk
    go_wp2_with fail
    go_step3
    exact ⟨_, rem.tail, ns, ms, nv, mv, 0, 0, _, ⟨rfl, rfl, rfl⟩, hR1.out, Or.inr (Or.inl ⟨rfl, rfl, HK.out _ (.stop HS2.out)⟩)⟩
  · have tk : (k == -1) = false := by simpa using hk1
    have hq := hlk.2.2.2 hk1
    by_cases hk2 : k = 32
    · have tk2 : (k != 32) = false := by simpa using hk2
      have HS2 : Hid (rdStep st = rdAhead rem.tail ns ms) := by
        show _ = _
        rw [HS.out, rdName, ← HQk.out, if_neg hk1, if_pos hk2, Hms.out]
      have hml0 : ms.length = 0 := by rw [Hms.out]; rfl
      clear HS HQk
      have HS : Hid (rdStep st = rdAhead rem.tail ns ms) := HS2
      have hb2 : ms.length + rem.tail.length + 1 ≤ 1048577 := by omega
      clear HS2 hk2
      go_wp2_with fail
      go_step3
      go_wp2_with fail
      refine (hR1.out.next).mono ?_
      rintro e wr1a ⟨rfl, hR1a⟩
      have hlx := head_len rem.tail
      obtain ⟨x, hqx⟩ : ∃ x, x = rem.tail.headD (-1) := ⟨_, rfl⟩
      rw [← hqx] at hlx ⊢
      have HQx : Hid (x = rem.tail.headD (-1)) := hqx
      clear hqx
      by_cases h120 : x = 120
      · have t120 : (x == 120) = true := by simpa using h120
        have HS2 : Hid (rdStep st = rdNum (rem.tail.tail.headD (-1)) rem.tail.tail.tail ns ms 1 0) := by
          show _ = _
          rw [HS.out, rdAhead, ← HQx.out, if_pos h120]
        have hq0 := hlx.2.2.2 (by omega)
        clear HS h120
        go_wp2_with fail
        refine (hR1a.out.next).mono ?_
        rintro e wr1b ⟨rfl, hR1b⟩
        have hlz := head_len rem.tail.tail
        obtain ⟨z, hqz⟩ : ∃ z, z = rem.tail.tail.headD (-1) := ⟨_, rfl⟩
        rw [← hqz] at hlz ⊢
        have HQz : Hid (z = rem.tail.tail.headD (-1)) := hqz
        clear hqz
        rw [← HQz.out] at HS2
        have HS : Hid (rdStep st = rdNum z rem.tail.tail.tail ns ms 1 0) := HS2
        have hbd : ms.length + rem.tail.tail.tail.length + 1 + (if z = -1 then 0 else 1) ≤ 1048577 := by have := hlz.2.1; omega
        clear HS2 HQz HQx
        go_wp2_with fail
        go_step3
        by_cases hd : 48 ≤ z ∧ z ≤ 57
        · have hd1 := hd.1
          have hd2 := hd.2
          have hw32 : wrap32 (z - 48) = z - 48 := by unfold wrap32; omega
          have hxn : ¬ z = -1 := by omega
          rw [if_neg hxn] at hbd
          have hqq := hlz.2.2.2 hxn
          have HS2 : Hid (rdStep st = .inl (.num (rem.tail.tail.tail.headD (-1)) rem.tail.tail.tail.tail ns ms 1 (z - 48))) := by
            show _ = _
            rw [HS.out, rdNum, if_pos hd]
            rw [show wrap64 (wrap64 (0 * 10) + (z - 48)) = z - 48 from by unfold wrap64; omega]
          clear hd
          go_wp2_with fail
          refine (hR1b.out.next).mono ?_
          rintro e wr1bn ⟨rfl, hR1bn⟩
          have hly := head_len rem.tail.tail.tail
          obtain ⟨y, hqy⟩ : ∃ y, y = rem.tail.tail.tail.headD (-1) := ⟨_, rfl⟩
          rw [← hqy] at hly ⊢
          have HQy : Hid (y = rem.tail.tail.tail.headD (-1)) := hqy
          clear hqy
          rw [← HQy.out] at HS2
          clear HQy
          go_wp2_with fail
          go_step3
          exact ⟨_, rem.tail.tail.tail.tail, ns, ms, nv, mv, 1, _, y, ⟨rfl, rfl, rfl⟩, hR1bn.out, Or.inr (Or.inr (Or.inr ⟨rfl, rfl, by split at hly <;> split <;> omega, fun q hq => HK.out q (.go HS2.out hq)⟩))⟩
        · have hb10 : (decide (48 ≤ z) && decide (z ≤ 57)) = false := by
            rw [Bool.and_eq_false_iff]
            by_cases h48 : 48 ≤ z
            · right; exact decide_eq_false (by omega)
            · left; exact decide_eq_false h48
          have HS1 : Hid (rdStep st = if z = 32 then .inl (.ahead rem.tail.tail.tail ns (ms ++ [0])) else if z = -1 then .inr (some (ns, ms ++ [0])) else .inr none) := by
            show _ = _
            rw [HS.out, rdNum, if_neg hd, show wrap64 (1 * 0) = 0 from by unfold wrap64; omega]
          clear HS
          have hml : ms.length ≤ 1048577 := by omega
          by_cases h48 : 48 ≤ z
          · have h57 : ¬ z ≤ 57 := fun h => hd ⟨h48, h⟩
            clear hd hb10
            have h32 : ¬ z = 32 := by omega
            have hxn : ¬ z = -1 := by omega
            have t32 : (z == 32) = false := by simpa using h32
            have tm1 : (z != -1) = true := by simpa using hxn
            have HS2 : Hid (rdStep st = .inr none) := HS1.out.trans ((if_neg h32).trans (if_neg hxn))
            clear HS1 h32
            go_wp2_with (at_builtin; refine wpList_pushM rfl (.tmp 45) (.tmp 49) rfl 0 rfl rfl hR1b.out hml ?_; intro mv2 w6 hR6)
            have HR6 : Hid (RLx w gr rem.tail.tail.tail ns (ms ++ [0]) nv mv2 w6) := hR6
            clear hR6
            refine bodyPost_ret (results_tmp3 Tryd.results44 _ _ _) rfl ⟨none, HK.out _ (.stop HS2.out), HR6.out.bel, Or.inl ⟨rfl, rfl⟩⟩
          · clear hd hb10
            by_cases h32 : z = 32
            · have t32 : (z == 32) = true := by simpa using h32
              have HS2 : Hid (rdStep st = .inl (.ahead rem.tail.tail.tail ns (ms ++ [0]))) := HS1.out.trans (if_pos h32)
              have hxn : ¬ z = -1 := by omega
              rw [if_neg hxn] at hbd
              have hqq := hlz.2.2.2 hxn
              clear HS1 h32
              go_wp2_with (at_builtin; refine wpList_pushM rfl (.tmp 45) (.tmp 49) rfl 0 rfl rfl hR1b.out hml ?_; intro mv2 w6 hR6)
              have HR6 : Hid (RLx w gr rem.tail.tail.tail ns (ms ++ [0]) nv mv2 w6) := hR6
              clear hR6
              go_step3
              exact ⟨_, rem.tail.tail.tail, ns, (ms ++ [0]), nv, mv2, 1, 0, z, ⟨rfl, rfl, rfl⟩, HR6.out, Or.inr (Or.inr (Or.inl ⟨rfl, rfl, by simp; omega, fun q hq => HK.out q (.go HS2.out hq)⟩))⟩
            · have t32 : (z == 32) = false := by simpa using h32
              by_cases hxn : z = -1
              · have tm1 : (z != -1) = false := by simpa using hxn
                have HS2 : Hid (rdStep st = .inr (some (ns, ms ++ [0]))) := HS1.out.trans ((if_neg h32).trans (if_pos hxn))
                clear HS1 h32
                go_wp2_with (at_builtin; refine wpList_pushM rfl (.tmp 45) (.tmp 49) rfl 0 rfl rfl hR1b.out hml ?_; intro mv2 w6 hR6)
                have HR6 : Hid (RLx w gr rem.tail.tail.tail ns (ms ++ [0]) nv mv2 w6) := hR6
                clear hR6
                have hcv := HR6.out.name
                obtain ⟨N, hN⟩ : ∃ N, N = runesBytes ns := ⟨_, rfl⟩
                rw [← hN] at hcv
                have HNN : Hid (N = runesBytes ns) := hN
                clear hN
                go_step3
                go_wp2_with fail
                refine bodyPost_ret (results_tmp3 Tryd.results44 _ _ _) rfl ⟨some (ns, (ms ++ [0])), HK.out _ (.stop HS2.out), HR6.out.bel, Or.inr ⟨ns, (ms ++ [0]), mv2, rfl, by rw [← HNN.out]; rfl, HR6.out.nums⟩⟩
              · have tm1 : (z != -1) = true := by simpa using hxn
                have HS2 : Hid (rdStep st = .inr none) := HS1.out.trans ((if_neg h32).trans (if_neg hxn))
                clear HS1 h32
                go_wp2_with (at_builtin; refine wpList_pushM rfl (.tmp 45) (.tmp 49) rfl 0 rfl rfl hR1b.out hml ?_; intro mv2 w6 hR6)
                have HR6 : Hid (RLx w gr rem.tail.tail.tail ns (ms ++ [0]) nv mv2 w6) := hR6
                clear hR6
                refine bodyPost_ret (results_tmp3 Tryd.results44 _ _ _) rfl ⟨none, HK.out _ (.stop HS2.out), HR6.out.bel, Or.inl ⟨rfl, rfl⟩⟩
      · have t120 : (x == 120) = false := by simpa using h120
        by_cases h45 : x = 45
        · have t45 : (x == 45) = true := by simpa using h45
          have HS2 : Hid (rdStep st = rdNum (rem.tail.tail.headD (-1)) rem.tail.tail.tail ns ms (-1) 0) := by
            show _ = _
            rw [HS.out, rdAhead, ← HQx.out, if_neg h120, if_pos h45]
          have hq0 := hlx.2.2.2 (by omega)
          clear HS h120 h45
          go_wp2_with fail
          refine (hR1a.out.next).mono ?_
          rintro e wr1b ⟨rfl, hR1b⟩
          have hlz := head_len rem.tail.tail
          obtain ⟨z, hqz⟩ : ∃ z, z = rem.tail.tail.headD (-1) := ⟨_, rfl⟩
          rw [← hqz] at hlz ⊢
          have HQz : Hid (z = rem.tail.tail.headD (-1)) := hqz
          clear hqz
          rw [← HQz.out] at HS2
          have HS : Hid (rdStep st = rdNum z rem.tail.tail.tail ns ms (-1) 0) := HS2
          have hbd : ms.length + rem.tail.tail.tail.length + 1 + (if z = -1 then 0 else 1) ≤ 1048577 := by have := hlz.2.1; omega
          clear HS2 HQz HQx
          go_wp2_with fail
          go_step3
          by_cases hd : 48 ≤ z ∧ z ≤ 57
          · have hd1 := hd.1
            have hd2 := hd.2
            have hw32 : wrap32 (z - 48) = z - 48 := by unfold wrap32; omega
            have hxn : ¬ z = -1 := by omega
            rw [if_neg hxn] at hbd
            have hqq := hlz.2.2.2 hxn
            have HS2 : Hid (rdStep st = .inl (.num (rem.tail.tail.tail.headD (-1)) rem.tail.tail.tail.tail ns ms (-1) (z - 48))) := by
              show _ = _
              rw [HS.out, rdNum, if_pos hd]
              rw [show wrap64 (wrap64 (0 * 10) + (z - 48)) = z - 48 from by unfold wrap64; omega]
            clear hd
            go_wp2_with fail
            refine (hR1b.out.next).mono ?_
            rintro e wr1bn ⟨rfl, hR1bn⟩
            have hly := head_len rem.tail.tail.tail
            obtain ⟨y, hqy⟩ : ∃ y, y = rem.tail.tail.tail.headD (-1) := ⟨_, rfl⟩
            rw [← hqy] at hly ⊢
            have HQy : Hid (y = rem.tail.tail.tail.headD (-1)) := hqy
            clear hqy
            rw [← HQy.out] at HS2
            clear HQy
            go_wp2_with fail
            go_step3
            exact ⟨_, rem.tail.tail.tail.tail, ns, ms, nv, mv, (-1), _, y, ⟨rfl, rfl, rfl⟩, hR1bn.out, Or.inr (Or.inr (Or.inr ⟨rfl, rfl, by split at hly <;> split <;> omega, fun q hq => HK.out q (.go HS2.out hq)⟩))⟩
          · have hb10 : (decide (48 ≤ z) && decide (z ≤ 57)) = false := by
              rw [Bool.and_eq_false_iff]
              by_cases h48 : 48 ≤ z
              · right; exact decide_eq_false (by omega)
              · left; exact decide_eq_false h48
            have HS1 : Hid (rdStep st = if z = 32 then .inl (.ahead rem.tail.tail.tail ns (ms ++ [0])) else if z = -1 then .inr (some (ns, ms ++ [0])) else .inr none) := by
              show _ = _
              rw [HS.out, rdNum, if_neg hd, show wrap64 ((-1) * 0) = 0 from by unfold wrap64; omega]
            clear HS
            have hml : ms.length ≤ 1048577 := by omega
            by_cases h48 : 48 ≤ z
            · have h57 : ¬ z ≤ 57 := fun h => hd ⟨h48, h⟩
              clear hd hb10
              have h32 : ¬ z = 32 := by omega
              have hxn : ¬ z = -1 := by omega
              have t32 : (z == 32) = false := by simpa using h32
              have tm1 : (z != -1) = true := by simpa using hxn
              have HS2 : Hid (rdStep st = .inr none) := HS1.out.trans ((if_neg h32).trans (if_neg hxn))
              clear HS1 h32
              go_wp2_with (at_builtin; refine wpList_pushM rfl (.tmp 45) (.tmp 49) rfl 0 rfl rfl hR1b.out hml ?_; intro mv2 w6 hR6)
              have HR6 : Hid (RLx w gr rem.tail.tail.tail ns (ms ++ [0]) nv mv2 w6) := hR6
              clear hR6
              refine bodyPost_ret (results_tmp3 Tryd.results44 _ _ _) rfl ⟨none, HK.out _ (.stop HS2.out), HR6.out.bel, Or.inl ⟨rfl, rfl⟩⟩
            · clear hd hb10
              by_cases h32 : z = 32
              · have t32 : (z == 32) = true := by simpa using h32
                have HS2 : Hid (rdStep st = .inl (.ahead rem.tail.tail.tail ns (ms ++ [0]))) := HS1.out.trans (if_pos h32)
                have hxn : ¬ z = -1 := by omega
                rw [if_neg hxn] at hbd
                have hqq := hlz.2.2.2 hxn
                clear HS1 h32
                go_wp2_with (at_builtin; refine wpList_pushM rfl (.tmp 45) (.tmp 49) rfl 0 rfl rfl hR1b.out hml ?_; intro mv2 w6 hR6)
                have HR6 : Hid (RLx w gr rem.tail.tail.tail ns (ms ++ [0]) nv mv2 w6) := hR6
                clear hR6
                go_step3
                exact ⟨_, rem.tail.tail.tail, ns, (ms ++ [0]), nv, mv2, (-1), 0, z, ⟨rfl, rfl, rfl⟩, HR6.out, Or.inr (Or.inr (Or.inl ⟨rfl, rfl, by simp; omega, fun q hq => HK.out q (.go HS2.out hq)⟩))⟩
              · have t32 : (z == 32) = false := by simpa using h32
                by_cases hxn : z = -1
                · have tm1 : (z != -1) = false := by simpa using hxn
                  have HS2 : Hid (rdStep st = .inr (some (ns, ms ++ [0]))) := HS1.out.trans ((if_neg h32).trans (if_pos hxn))
                  clear HS1 h32
                  go_wp2_with (at_builtin; refine wpList_pushM rfl (.tmp 45) (.tmp 49) rfl 0 rfl rfl hR1b.out hml ?_; intro mv2 w6 hR6)
                  have HR6 : Hid (RLx w gr rem.tail.tail.tail ns (ms ++ [0]) nv mv2 w6) := hR6
                  clear hR6
                  have hcv := HR6.out.name
                  obtain ⟨N, hN⟩ : ∃ N, N = runesBytes ns := ⟨_, rfl⟩
                  rw [← hN] at hcv
                  have HNN : Hid (N = runesBytes ns) := hN
                  clear hN
                  go_step3
                  go_wp2_with fail
                  refine bodyPost_ret (results_tmp3 Tryd.results44 _ _ _) rfl ⟨some (ns, (ms ++ [0])), HK.out _ (.stop HS2.out), HR6.out.bel, Or.inr ⟨ns, (ms ++ [0]), mv2, rfl, by rw [← HNN.out]; rfl, HR6.out.nums⟩⟩
                · have tm1 : (z != -1) = true := by simpa using hxn
                  have HS2 : Hid (rdStep st = .inr none) := HS1.out.trans ((if_neg h32).trans (if_neg hxn))
                  clear HS1 h32
                  go_wp2_with (at_builtin; refine wpList_pushM rfl (.tmp 45) (.tmp 49) rfl 0 rfl rfl hR1b.out hml ?_; intro mv2 w6 hR6)
                  have HR6 : Hid (RLx w gr rem.tail.tail.tail ns (ms ++ [0]) nv mv2 w6) := hR6
                  clear hR6
                  refine bodyPost_ret (results_tmp3 Tryd.results44 _ _ _) rfl ⟨none, HK.out _ (.stop HS2.out), HR6.out.bel, Or.inl ⟨rfl, rfl⟩⟩
        · have t45 : (x == 45) = false := by simpa using h45
          have HS2 : Hid (rdStep st = rdNum x rem.tail.tail ns ms 1 0) := by
            show _ = _
            rw [HS.out, rdAhead, ← HQx.out, if_neg h120, if_neg h45]
          clear HS h120 h45 HQx
          have HS : Hid (rdStep st = rdNum x rem.tail.tail ns ms 1 0) := HS2
          have hbd : ms.length + rem.tail.tail.length + 1 + (if x = -1 then 0 else 1) ≤ 1048577 := by have := hlx.2.1; omega
          clear HS2
          go_wp2_with fail
          go_step3
          by_cases hd : 48 ≤ x ∧ x ≤ 57
          · have hd1 := hd.1
            have hd2 := hd.2
            have hw32 : wrap32 (x - 48) = x - 48 := by unfold wrap32; omega
            have hxn : ¬ x = -1 := by omega
            rw [if_neg hxn] at hbd
            have hqq := hlx.2.2.2 hxn
            have HS2 : Hid (rdStep st = .inl (.num (rem.tail.tail.headD (-1)) rem.tail.tail.tail ns ms 1 (x - 48))) := by
              show _ = _
              rw [HS.out, rdNum, if_pos hd]
              rw [show wrap64 (wrap64 (0 * 10) + (x - 48)) = x - 48 from by unfold wrap64; omega]
            clear hd
            go_wp2_with fail
            refine (hR1a.out.next).mono ?_
            rintro e wr1an ⟨rfl, hR1an⟩
            have hly := head_len rem.tail.tail
            obtain ⟨y, hqy⟩ : ∃ y, y = rem.tail.tail.headD (-1) := ⟨_, rfl⟩
            rw [← hqy] at hly ⊢
            have HQy : Hid (y = rem.tail.tail.headD (-1)) := hqy
            clear hqy
            rw [← HQy.out] at HS2
            clear HQy
            go_wp2_with fail
            go_step3
            exact ⟨_, rem.tail.tail.tail, ns, ms, nv, mv, 1, _, y, ⟨rfl, rfl, rfl⟩, hR1an.out, Or.inr (Or.inr (Or.inr ⟨rfl, rfl, by split at hly <;> split <;> omega, fun q hq => HK.out q (.go HS2.out hq)⟩))⟩
          · have hb10 : (decide (48 ≤ x) && decide (x ≤ 57)) = false := by
              rw [Bool.and_eq_false_iff]
              by_cases h48 : 48 ≤ x
              · right; exact decide_eq_false (by omega)
              · left; exact decide_eq_false h48
            have HS1 : Hid (rdStep st = if x = 32 then .inl (.ahead rem.tail.tail ns (ms ++ [0])) else if x = -1 then .inr (some (ns, ms ++ [0])) else .inr none) := by
              show _ = _
              rw [HS.out, rdNum, if_neg hd, show wrap64 (1 * 0) = 0 from by unfold wrap64; omega]
            clear HS
            have hml : ms.length ≤ 1048577 := by omega
            by_cases h48 : 48 ≤ x
            · have h57 : ¬ x ≤ 57 := fun h => hd ⟨h48, h⟩
              clear hd hb10
              have h32 : ¬ x = 32 := by omega
              have hxn : ¬ x = -1 := by omega
              have t32 : (x == 32) = false := by simpa using h32
              have tm1 : (x != -1) = true := by simpa using hxn
              have HS2 : Hid (rdStep st = .inr none) := HS1.out.trans ((if_neg h32).trans (if_neg hxn))
              clear HS1 h32
              go_wp2_with (at_builtin; refine wpList_pushM rfl (.tmp 45) (.tmp 49) rfl 0 rfl rfl hR1a.out hml ?_; intro mv2 w6 hR6)
              have HR6 : Hid (RLx w gr rem.tail.tail ns (ms ++ [0]) nv mv2 w6) := hR6
              clear hR6
              refine bodyPost_ret (results_tmp3 Tryd.results44 _ _ _) rfl ⟨none, HK.out _ (.stop HS2.out), HR6.out.bel, Or.inl ⟨rfl, rfl⟩⟩
            · clear hd hb10
              by_cases h32 : x = 32
              · have t32 : (x == 32) = true := by simpa using h32
                have HS2 : Hid (rdStep st = .inl (.ahead rem.tail.tail ns (ms ++ [0]))) := HS1.out.trans (if_pos h32)
                have hxn : ¬ x = -1 := by omega
                rw [if_neg hxn] at hbd
                have hqq := hlx.2.2.2 hxn
                clear HS1 h32
                go_wp2_with (at_builtin; refine wpList_pushM rfl (.tmp 45) (.tmp 49) rfl 0 rfl rfl hR1a.out hml ?_; intro mv2 w6 hR6)
                have HR6 : Hid (RLx w gr rem.tail.tail ns (ms ++ [0]) nv mv2 w6) := hR6
                clear hR6
                go_step3
                exact ⟨_, rem.tail.tail, ns, (ms ++ [0]), nv, mv2, 1, 0, x, ⟨rfl, rfl, rfl⟩, HR6.out, Or.inr (Or.inr (Or.inl ⟨rfl, rfl, by simp; omega, fun q hq => HK.out q (.go HS2.out hq)⟩))⟩
              · have t32 : (x == 32) = false := by simpa using h32
                by_cases hxn : x = -1
                · have tm1 : (x != -1) = false := by simpa using hxn
                  have HS2 : Hid (rdStep st = .inr (some (ns, ms ++ [0]))) := HS1.out.trans ((if_neg h32).trans (if_pos hxn))
                  clear HS1 h32
                  go_wp2_with (at_builtin; refine wpList_pushM rfl (.tmp 45) (.tmp 49) rfl 0 rfl rfl hR1a.out hml ?_; intro mv2 w6 hR6)
                  have HR6 : Hid (RLx w gr rem.tail.tail ns (ms ++ [0]) nv mv2 w6) := hR6
                  clear hR6
                  have hcv := HR6.out.name
                  obtain ⟨N, hN⟩ : ∃ N, N = runesBytes ns := ⟨_, rfl⟩
                  rw [← hN] at hcv
                  have HNN : Hid (N = runesBytes ns) := hN
                  clear hN
                  go_step3
                  go_wp2_with fail
                  refine bodyPost_ret (results_tmp3 Tryd.results44 _ _ _) rfl ⟨some (ns, (ms ++ [0])), HK.out _ (.stop HS2.out), HR6.out.bel, Or.inr ⟨ns, (ms ++ [0]), mv2, rfl, by rw [← HNN.out]; rfl, HR6.out.nums⟩⟩
                · have tm1 : (x != -1) = true := by simpa using hxn
                  have HS2 : Hid (rdStep st = .inr none) := HS1.out.trans ((if_neg h32).trans (if_neg hxn))
                  clear HS1 h32
                  go_wp2_with (at_builtin; refine wpList_pushM rfl (.tmp 45) (.tmp 49) rfl 0 rfl rfl hR1a.out hml ?_; intro mv2 w6 hR6)
                  have HR6 : Hid (RLx w gr rem.tail.tail ns (ms ++ [0]) nv mv2 w6) := hR6
                  clear hR6
                  refine bodyPost_ret (results_tmp3 Tryd.results44 _ _ _) rfl ⟨none, HK.out _ (.stop HS2.out), HR6.out.bel, Or.inl ⟨rfl, rfl⟩⟩
    · have tk2 : (k != 32) = true := by simpa using hk2
      have HS2 : Hid (rdStep st = .inl (.name rem.tail (ns ++ [k]))) := by
        show _ = _
        rw [HS.out, rdName, ← HQk.out, if_neg hk1, if_neg hk2]
      clear HS hk1 hk2 HQk
      have hnl : ns.length ≤ 1048576 := by omega
      go_wp2_with (at_builtin; refine wpList_pushN rfl (.tmp 21) (.tmp 23) rfl k rfl rfl hR1.out hnl ?_; intro nv2 w6 hR6)
      have HR6 : Hid (RLx w gr rem.tail (ns ++ [k]) ms nv2 mv w6) := hR6
      clear hR6
      go_step3
      exact ⟨_, rem.tail, (ns ++ [k]), ms, nv2, mv, 0, 0, k, ⟨rfl, rfl, rfl⟩, HR6.out, Or.inl ⟨rfl, rfl, Hms.out, by simp; omega, fun q hq => HK.out q (.go HS2.out hq)⟩⟩

end Go.Proofs.YtjjpklalihaanaaDoor
