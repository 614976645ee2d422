/- A shown text is read as its instruction's name and numbers. -/
import Derived.Test.YtjjpklalihaanaaDoorRdlP
import Derived.Test.YtjjpklalihaanaaDoorEncF
namespace Go.Proofs.YtjjpklalihaanaaDoor
open Go.RowKit
set_option linter.unusedVariables false

def u8i (l : List UInt8) : List Int := l.map fun b => (b.toNat : Int)

theorem Runs.congr {s s' : RdSt} {q : RdRes} (h : rdStep s = rdStep s') (k : Runs s' q) : Runs s q := by
  cases k with
  | stop e => exact .stop (h.trans e)
  | go e k => exact .go (h.trans e) k

theorem u8i_ne (b : UInt8) : (b.toNat : Int) ≠ -1 := by omega

theorem u8i_32 (b : UInt8) (h : b ≠ 32) : (b.toNat : Int) ≠ 32 := by
  intro e
  apply h
  have : b.toNat = 32 := by omega
  exact u8_eq (by decide) this

/-- A name is read to its end. -/
theorem name_run (l : List UInt8) (h : (32 : UInt8) ∉ l) : ∀ (ns rest : List Int) (q : RdRes), Runs (.name rest (ns ++ u8i l)) q → Runs (.name (u8i l ++ rest) ns) q := by
  induction l with
  | nil => intro ns rest q k; simpa [u8i] using k
  | cons c l ih =>
    intro ns rest q k
    have hc : c ≠ 32 := fun e => h (by rw [e]; simp)
    have hl : (32 : UInt8) ∉ l := fun e => h (by simp [e])
    refine .go (s' := .name (u8i l ++ rest) (ns ++ [(c.toNat : Int)])) ?_ (ih hl _ _ _ ?_)
    · show rdName _ _ = _
      simp only [u8i, List.map_cons, List.cons_append, rdName, List.headD_cons, List.tail_cons]
      rw [if_neg (u8i_ne c), if_neg (u8i_32 c hc)]
    · simpa [u8i] using k

/-- Digits are read to their end. -/
theorem digits_run (ds : List UInt8) (hd : ds.all isDig = true) : ∀ (acc : Nat) (ns ms rest : List Int) (sign : Int) (q : RdRes), (∀ k, k ≤ ds.length → (ds.take k).foldl digStep acc < 1000000000000000000) →
    Runs (.num (rest.headD (-1)) rest.tail ns ms sign ((ds.foldl digStep acc : Nat) : Int)) q → Runs (.num ((u8i ds ++ rest).headD (-1)) (u8i ds ++ rest).tail ns ms sign (acc : Int)) q := by
  induction ds with
  | nil => intro acc ns ms rest sign q _ k; simpa [u8i] using k
  | cons c ds ih =>
    intro acc ns ms rest sign q hb k
    simp only [List.all_cons, Bool.and_eq_true] at hd
    have hc : 48 ≤ c.toNat ∧ c.toNat ≤ 57 := of_decide_eq_true hd.1
    have h0 := hb 0 (by omega)
    have h1 := hb 1 (by simp)
    simp only [List.take_zero, List.foldl_nil] at h0
    simp only [List.take_succ_cons, List.take_zero, List.foldl_cons, List.foldl_nil] at h1
    refine .go (s' := .num ((u8i ds ++ rest).headD (-1)) (u8i ds ++ rest).tail ns ms sign ((digStep acc c : Nat) : Int)) ?_ (ih hd.2 _ _ _ _ _ _ ?_ ?_)
    · show rdNum _ _ _ _ _ _ = _
      simp only [u8i, List.map_cons, List.cons_append, List.headD_cons, List.tail_cons]
      unfold rdNum
      rw [if_pos (by omega)]
      have e : wrap64 (wrap64 ((acc : Int) * 10) + ((c.toNat : Int) - 48)) = ((digStep acc c : Nat) : Int) := by
        unfold digStep at h1 ⊢
        unfold wrap64
        omega
      rw [e]
    · intro k hk
      have := hb (k + 1) (by simp; omega)
      simpa using this
    · simpa using k

theorem digVal_pre (ds : List UInt8) (hd : ds.all isDig = true) (hl : ds.length ≤ 18) : ∀ k, k ≤ ds.length → (ds.take k).foldl digStep 0 < 1000000000000000000 := by
  intro k hk
  refine digVal_18 (ds.take k) ?_ ?_
  · rw [List.all_eq_true] at hd ⊢
    exact fun x hx => hd x (List.mem_of_mem_take hx)
  · rw [List.length_take]; omega

/-- What comes behind a number: the end, or the next number. -/
theorem num_end (ns ms : List Int) (sign : Int) (acc : Int) (x : Int) (hx : wrap64 (sign * acc) = x) : Runs (.num (([] : List Int).headD (-1)) ([] : List Int).tail ns ms sign acc) (some (ns, ms ++ [x])) := by
  refine .stop ?_
  show rdNum _ _ _ _ _ _ = _
  simp only [List.headD_nil, List.tail_nil, rdNum]
  rw [if_neg (by omega), if_neg (by decide), if_pos (by decide), hx]

theorem num_next2 (ns ms rest : List Int) (sign : Int) (acc : Int) (x : Int) (hx : wrap64 (sign * acc) = x) (q : RdRes) (k : Runs (.ahead rest ns (ms ++ [x])) q) : Runs (.num ((32 :: rest).headD (-1)) (32 :: rest).tail ns ms sign acc) q := by
  refine .go ?_ k
  show rdNum _ _ _ _ _ _ = _
  simp only [List.headD_cons, List.tail_cons, rdNum]
  rw [if_neg (by omega), if_pos trivial, hx]

/-- A numeral with an x ahead. -/
theorem ahead_reg (u : Nat) (hu : u < 1000000000000000000) (ns ms rest : List Int) (q : RdRes) (k : Runs (.num (rest.headD (-1)) rest.tail ns ms 1 (u : Int)) q) : Runs (.ahead (u8i (120 :: Lib.decDigits u) ++ rest) ns ms) q := by
  obtain ⟨h1, h2⟩ := decDigits_dig u
  have h3 := digits_run (Lib.decDigits u) h1 0 ns ms rest 1 q (digVal_pre _ h1 (decDigits_short u hu))
  rw [show (Lib.decDigits u).foldl digStep 0 = u from h2] at h3
  refine Runs.congr ?_ (h3 k)
  show rdAhead _ _ _ = rdNum _ _ _ _ _ _
  simp [rdAhead, u8i]

theorem ahead_neg (u : Nat) (hu : u < 1000000000000000000) (ns ms rest : List Int) (q : RdRes) (k : Runs (.num (rest.headD (-1)) rest.tail ns ms (-1) (u : Int)) q) : Runs (.ahead (u8i (45 :: Lib.decDigits u) ++ rest) ns ms) q := by
  obtain ⟨h1, h2⟩ := decDigits_dig u
  have h3 := digits_run (Lib.decDigits u) h1 0 ns ms rest (-1) q (digVal_pre _ h1 (decDigits_short u hu))
  rw [show (Lib.decDigits u).foldl digStep 0 = u from h2] at h3
  refine Runs.congr ?_ (h3 k)
  show rdAhead _ _ _ = rdNum _ _ _ _ _ _
  simp [rdAhead, u8i]

theorem ahead_pos (u : Nat) (hu : u < 1000000000000000000) (ns ms rest : List Int) (q : RdRes) (k : Runs (.num (rest.headD (-1)) rest.tail ns ms 1 (u : Int)) q) : Runs (.ahead (u8i (Lib.decDigits u) ++ rest) ns ms) q := by
  obtain ⟨h1, h2⟩ := decDigits_dig u
  have h3 := digits_run (Lib.decDigits u) h1 0 ns ms rest 1 q (digVal_pre _ h1 (decDigits_short u hu))
  rw [show (Lib.decDigits u).foldl digStep 0 = u from h2] at h3
  refine Runs.congr ?_ (h3 k)
  show rdAhead _ _ _ = rdNum _ _ _ _ _ _
  cases hd : Lib.decDigits u with
  | nil => exact absurd hd (decDigits_ne u)
  | cons c l =>
    rw [hd] at h1
    simp only [List.all_cons, Bool.and_eq_true] at h1
    have hc : 48 ≤ c.toNat ∧ c.toNat ≤ 57 := of_decide_eq_true h1.1
    simp only [rdAhead, u8i, List.map_cons, List.cons_append, List.headD_cons, List.tail_cons]
    rw [if_neg (by omega), if_neg (by omega)]
    rfl

/-- One shown number. -/
theorem part_run {j : Ins} (h : EncOk j) (p : Nat) (hp : p = 0 ∨ p = 1 ∨ p = 2 ∨ p = 3) (ns ms rest : List Int) (q : RdRes)
    (k : ∀ sign acc, wrap64 (sign * acc) = getP j p → Runs (.num (rest.headD (-1)) rest.tail ns ms sign acc) q) : Runs (.ahead (u8i (shPart j p) ++ rest) ns ms) q := by
  by_cases h3 : p = 3
  · subst h3
    have hb : -4294967296 ≤ j.imm ∧ j.imm ≤ 4294967296 := h.num 3
    show Runs (.ahead (u8i (Lib.itoa j.imm) ++ rest) ns ms) q
    by_cases hn : j.imm < 0
    · rw [show Lib.itoa j.imm = 45 :: Lib.decDigits j.imm.natAbs by simp [Lib.itoa, hn]]
      refine ahead_neg _ (by omega) _ _ _ _ (k _ _ ?_)
      show _ = j.imm
      unfold wrap64
      omega
    · rw [show Lib.itoa j.imm = Lib.decDigits j.imm.toNat by simp [Lib.itoa, hn]]
      refine ahead_pos _ (by omega) _ _ _ _ (k _ _ ?_)
      show _ = j.imm
      unfold wrap64
      omega
  · have hp2 : p = 0 ∨ p = 1 ∨ p = 2 := by omega
    have hb := h.reg p hp2
    have e : shPart j p = 120 :: Lib.decDigits (getP j p).toNat := by
      have e1 : shPart j p = 120 :: Lib.itoa (getP j p) := by rcases hp2 with rfl | rfl | rfl <;> rfl
      rw [e1]
      simp only [Lib.itoa]
      rw [if_neg (by omega)]
    rw [e]
    refine ahead_reg _ (by omega) _ _ _ _ (k _ _ ?_)
    unfold wrap64
    omega

theorem tail_run {j : Ins} (h : EncOk j) (ns : List Int) : ∀ (ps : List Nat) (hps : ∀ p ∈ ps, p = 0 ∨ p = 1 ∨ p = 2 ∨ p = 3) (p : Nat) (hp : p = 0 ∨ p = 1 ∨ p = 2 ∨ p = 3) (ms : List Int),
    Runs (.ahead (u8i (shPart j p ++ shTail j ps)) ns ms) (some (ns, ms ++ (p :: ps).map (getP j))) := by
  intro ps
  induction ps with
  | nil =>
    intro _ p hp ms
    rw [show u8i (shPart j p ++ shTail j []) = u8i (shPart j p) ++ [] by simp [u8i, shTail]]
    exact part_run h p hp _ _ _ _ fun sign acc e => num_end ns ms sign acc _ e
  | cons p2 ps ih =>
    intro hps p hp ms
    rw [show u8i (shPart j p ++ shTail j (p2 :: ps)) = u8i (shPart j p) ++ (32 :: u8i (shPart j p2 ++ shTail j ps)) by simp [u8i, shTail]]
    refine part_run h p hp _ _ _ _ fun sign acc e => num_next2 ns ms _ sign acc _ e _ ?_
    have := ih (fun x hx => hps x (by simp [hx])) p2 (hps p2 (by simp)) (ms ++ [getP j p])
    simpa using this

theorem shParts_all (f : Fm) : ∀ p ∈ shParts f, p = 0 ∨ p = 1 ∨ p = 2 ∨ p = 3 := by
  cases f <;> decide

/-- A shown text is read so. -/
theorem text_run {j : Ins} (h : EncOk j) : Runs (.name (u8i (shText j)) []) (some (u8i (nameOf j.op).data.toList, (shParts (rowOp j.op).fm).map (getP j))) := by
  unfold shText
  have hall := shParts_all (rowOp j.op).fm
  generalize shParts (rowOp j.op).fm = ps at hall
  rw [show u8i ((nameOf j.op).data.toList ++ shTail j ps) = u8i (nameOf j.op).data.toList ++ u8i (shTail j ps) by simp [u8i]]
  refine name_run _ (noBlank_name j.op) _ _ _ ?_
  rw [List.nil_append]
  cases ps with
  | nil =>
    refine .stop ?_
    show rdName _ _ = _
    simp [rdName, shTail, u8i]
  | cons p ps =>
    have := tail_run h (u8i (nameOf j.op).data.toList) ps (fun x hx => hall x (by simp [hx])) p (hall p (by simp)) []
    rw [List.nil_append] at this
    refine Runs.congr ?_ this
    show rdName _ _ = rdAhead _ _ _
    simp [rdName, shTail, u8i]

/-- Bytes below 128 are their own runes. -/
theorem decode_low (s : ByteArray) (i : Nat) (c : UInt8) (hi : s.data.toList[i]? = some c) (hc : c.toNat < 128) : Utf8.decode s i = (c.toNat, 1) := by
  have hg : s.get! i = c := by
    have hlt : i < s.data.size := by
      by_cases h : i < s.data.size
      · exact h
      · rw [Array.getElem?_toList, Array.getElem?_eq_none (by omega)] at hi; cases hi
    rw [Array.getElem?_toList, Array.getElem?_eq_getElem hlt] at hi
    show s.data[i]! = c
    rw [getElem!_pos s.data i hlt]
    exact Option.some.inj hi
  unfold Utf8.decode
  simp only [Nat.add_zero, hg]
  rw [if_pos hc]

theorem runesFrom_low (s : ByteArray) (h : ∀ c ∈ s.data.toList, c.toNat < 128) : ∀ (bound i : Nat) (acc : Array Value), (Conv.runesFrom s bound i acc).toList = acc.toList ++ ((s.data.toList.drop i).take bound).map fun c => Value.int .i32 (c.toNat : Int) := by
  intro bound
  induction bound with
  | zero => intro i acc; simp [Conv.runesFrom]
  | succ n ih =>
    intro i acc
    have hl : s.data.toList.length = s.size := by rw [Array.length_toList]; rfl
    unfold Conv.runesFrom
    split
    · rename_i hi
      have hi2 : i < s.data.toList.length := by omega
      have hg : s.data.toList[i]? = some s.data.toList[i] := List.getElem?_eq_getElem hi2
      have hd := decode_low s i _ hg (h _ (List.getElem_mem hi2))
      rw [hd, ih, Array.toList_push, List.drop_eq_getElem_cons hi2, List.take_succ_cons, List.map_cons]
      simp
    · rename_i hi
      rw [List.drop_eq_nil_of_le (by omega)]
      simp

theorem runesL_low (s : ByteArray) (h : ∀ c ∈ s.data.toList, c.toNat < 128) : runesL s = u8i s.data.toList := by
  unfold runesL
  rw [runesFrom_low s h]
  have hl : s.data.toList.length = s.size := by rw [Array.length_toList]; rfl
  rw [List.drop_zero, List.take_of_length_le (by omega)]
  simp [u8i, intOf]

theorem encode_low (c : UInt8) (h : c.toNat < 128) : Utf8.encode (c.toNat : Int) = ⟨#[c]⟩ := by
  unfold Utf8.encode
  have hv : Utf8.valid (c.toNat : Int) = true := by unfold Utf8.valid; simp; omega
  simp only [hv, if_true, Int.toNat_natCast]
  rw [if_pos h]
  simp

theorem runesBytes_low (l : List UInt8) (h : ∀ c ∈ l, c.toNat < 128) : runesBytes (u8i l) = ⟨l.toArray⟩ := by
  have key : ∀ (l : List UInt8) (acc : ByteArray), (∀ c ∈ l, c.toNat < 128) → (u8i l).foldl (fun r n => r ++ Utf8.encode n) acc = acc ++ ⟨l.toArray⟩ := by
    intro l
    induction l with
    | nil => intro acc _; apply ByteArray.ext; simp [u8i]
    | cons c l ih =>
      intro acc hl
      simp only [u8i, List.map_cons, List.foldl_cons]
      have := ih (acc ++ Utf8.encode (c.toNat : Int)) (fun x hx => hl x (by simp [hx]))
      simp only [u8i] at this
      rw [this, encode_low c (hl c (by simp))]
      apply ByteArray.ext
      apply Array.toList_inj.1
      simp [ByteArray.data_append]
  have := key l ByteArray.empty h
  unfold runesBytes
  rw [this]
  apply ByteArray.ext
  apply Array.toList_inj.1
  simp

theorem low_digits (u : Nat) : ∀ c ∈ Lib.decDigits u, c.toNat < 128 := by
  intro c hc
  have h1 := (decDigits_dig u).1
  rw [List.all_eq_true] at h1
  have h2 : 48 ≤ c.toNat ∧ c.toNat ≤ 57 := of_decide_eq_true (h1 c hc)
  omega

theorem low_itoa (x : Int) : ∀ c ∈ Lib.itoa x, c.toNat < 128 := by
  intro c hc
  unfold Lib.itoa at hc
  split at hc
  · rcases List.mem_cons.1 hc with h | h
    · rw [h]; decide
    · exact low_digits _ c h
  · exact low_digits _ c hc

theorem low_part (i : Ins) (p : Nat) : ∀ c ∈ shPart i p, c.toNat < 128 := by
  intro c hc
  unfold shPart at hc
  split at hc
  all_goals first
    | (rcases List.mem_cons.1 hc with h | h
       · rw [h]; decide
       · exact low_itoa _ c h)
    | exact low_itoa _ c hc

theorem low_tail (i : Ins) : ∀ (ps : List Nat), ∀ c ∈ shTail i ps, c.toNat < 128 := by
  intro ps
  induction ps with
  | nil => intro c hc; simp [shTail] at hc
  | cons p ps ih =>
    intro c hc
    rw [shTail] at hc
    rcases List.mem_cons.1 hc with h | h
    · rw [h]; decide
    · rcases List.mem_append.1 h with h | h
      · exact low_part i p c h
      · exact ih c h

theorem low_name (op : Int) : ∀ c ∈ (nameOf op).data.toList, c.toNat < 128 := by
  have h : (List.range 98).all (fun k => (rowAt k).name.data.toList.all (fun c => decide (c.toNat < 128))) = true := by kernel_rfl
  unfold nameOf
  split
  · rename_i hb
    have h2 : 1 ≤ op ∧ op ≤ 98 := of_decide_eq_true hb
    have := List.all_eq_true.1 h (op - 1).toNat (by simp; omega)
    intro c hm
    exact of_decide_eq_true (List.all_eq_true.1 this c hm)
  · simp

theorem low_text (i : Ins) : ∀ c ∈ shText i, c.toNat < 128 := by
  intro c hc
  unfold shText at hc
  rcases List.mem_append.1 hc with h | h
  · exact low_name _ c h
  · exact low_tail i _ c h

end Go.Proofs.YtjjpklalihaanaaDoor
