/- Own lemmas. -/
import Derived.Test.YtjjpklalihaanaaDoorK02
import Derived.Test.YtjjpklalihaanaaDoorK08
import Derived.Test.YtjjpklalihaanaaDoorK09
import Derived.Test.YtjjpklalihaanaaDoorK10
import Derived.Test.YtjjpklalihaanaaDoorShelf
import Derived.Lib.LaidTab
namespace Go.Proofs.YtjjpklalihaanaaDoor
open Go.RowKit
set_option linter.unusedVariables false

def setP (i : Ins) (p : Nat) (x : Int) : Ins :=
  match p with
  | 0 => { i with rd := x }
  | 1 => { i with a := x }
  | 2 => { i with b := x }
  | _ => { i with imm := x }

def getP (i : Ins) (p : Nat) : Int :=
  match p with
  | 0 => i.rd
  | 1 => i.a
  | 2 => i.b
  | _ => i.imm

def fillP (j : Ins) (ps : List Nat) (i : Ins) : Ins := ps.foldl (fun i p => setP i p (getP j p)) i

theorem fillP_snoc (j : Ins) (ps : List Nat) (p : Nat) (i : Ins) : fillP j (ps ++ [p]) i = setP (fillP j ps i) p (getP j p) := by
  simp [fillP]

theorem immU_bd (f : Fm) (x : Int) (h0 : 0 ≤ x) (h1 : x < 4294967296) : 0 ≤ immU f x ∧ immU f x < 4294967296 := by
  cases f <;> simp only [immU] <;> omega

theorem immV_bd (f : Fm) (x : Int) (h0 : 0 ≤ x) (h1 : x < 4294967296) : -4294967296 ≤ immV f x ∧ immV f x ≤ 4294967296 := by
  obtain ⟨g0, g1⟩ := immU_bd f x h0 h1
  unfold immV widen
  generalize immU f x = u at g0 g1
  cases f <;> simp only [Fm.width, Nat.reduceSub, Int.reducePow, IntKind.wrap_u64] <;> unfold wrap64 <;> omega

theorem insAt_fill (k : Nat) (x : Int) : fillP (insAt k x) (shParts (rowAt k).fm) ⟨(k : Int) + 1, 0, 0, 0, 0⟩ = insAt k x := by
  unfold insAt
  generalize (rowAt k).fm = f
  have hz : RowKit.wrap64 (widen 64 0) = 0 := widen64 0 (by decide) (by decide)
  cases f <;> simp [fillP, shParts, setP, getP, rdV, aV, bV, immV, immU, Fm.width, Fm.hasRd, Fm.hasA, Fm.hasB, hz]

structure EncOk (j : Ins) : Prop where
  op : opB j.op = true
  fill : fillP j (shParts (rowOp j.op).fm) ⟨j.op, 0, 0, 0, 0⟩ = j
  reg : ∀ p, p = 0 ∨ p = 1 ∨ p = 2 → 0 ≤ getP j p ∧ getP j p ≤ 31
  num : ∀ p, -4294967296 ≤ getP j p ∧ getP j p ≤ 4294967296

theorem encOk {j : Ins} (h : (encS j).2 = true) : EncOk j := by
  have ho := encS_opB h
  obtain ⟨y, hy⟩ : ∃ y, dec y = some j ∧ 0 ≤ y := by
    unfold encS at h
    split at h
    · rename_i hc
      simp only [Bool.and_eq_true, decide_eq_true_eq] at hc
      refine ⟨_, hc.2, ?_⟩
      have : 0 ≤ wordS j ∧ wordS j < 18446744073709551616 := by unfold wordS layS; split <;> exact bits_range _ _ _
      exact this.1
    · cases h
  obtain ⟨hy4, k, hk, hm, hj⟩ := dec_some hy.1
  have hop : j.op = (k : Int) + 1 := by rw [hj]; rfl
  have hrow : rowOp j.op = rowAt k := by rw [hj]; exact insAt_row k y
  refine ⟨ho, ?_, ?_, ?_⟩
  · rw [hrow, hop]
    have := insAt_fill k y
    rw [← hj] at this
    exact this
  · have h1 := rdV_bd (rowAt k).fm y
    have h2 := aV_bd (rowAt k).fm y
    have h3 := bV_bd (rowAt k).fm y
    rintro p (rfl | rfl | rfl)
    · show 0 ≤ j.rd ∧ j.rd ≤ 31
      rw [hj]; exact h1
    · show 0 ≤ j.a ∧ j.a ≤ 31
      rw [hj]; exact h2
    · show 0 ≤ j.b ∧ j.b ≤ 31
      rw [hj]; exact h3
  · have h1 := rdV_bd (rowAt k).fm y
    have h2 := aV_bd (rowAt k).fm y
    have h3 := bV_bd (rowAt k).fm y
    have h4 := immV_bd (rowAt k).fm y hy.2 hy4
    have e1 : j.rd = rdV (rowAt k).fm y := by rw [hj]; rfl
    have e2 : j.a = aV (rowAt k).fm y := by rw [hj]; rfl
    have e3 : j.b = bV (rowAt k).fm y := by rw [hj]; rfl
    have e4 : j.imm = immV (rowAt k).fm y := by rw [hj]; rfl
    intro p
    unfold getP
    split <;> omega

def PR (text : List UInt8) (i : Ins) (t : Bool) : Prop :=
  (t = true ∧ IW i ∧ (encS i).2 = true ∧ shText i = text) ∨ (t = false ∧ i = noIns ∧ ∀ j, IW j → (encS j).2 = true → shText j ≠ text)

theorem noBlank_digits (u : Nat) : (32 : UInt8) ∉ Lib.decDigits u := by
  intro h
  have h1 := (decDigits_dig u).1
  rw [List.all_eq_true] at h1
  have := h1 32 h
  simp [isDig] at this

theorem noBlank_itoa (x : Int) : (32 : UInt8) ∉ Lib.itoa x := by
  unfold Lib.itoa
  split
  · simp [noBlank_digits]
  · exact noBlank_digits _

theorem noBlank_part (i : Ins) (p : Nat) : (32 : UInt8) ∉ shPart i p := by
  unfold shPart
  split <;> simp [noBlank_itoa]

theorem noBlank_name (op : Int) : (32 : UInt8) ∉ (nameOf op).data.toList := by
  have h : (List.range 98).all (fun k => (rowAt k).name.data.toList.all (fun c => !(c == 32))) = true := by kernel_rfl
  unfold nameOf
  split
  · rename_i hb
    have h2 : 1 ≤ op ∧ op ≤ 98 := of_decide_eq_true hb
    have := List.all_eq_true.1 h (op - 1).toNat (by simp; omega)
    intro hm
    have := List.all_eq_true.1 this 32 hm
    simp at this
  · simp

theorem spl_word (l : List UInt8) (h : (32 : UInt8) ∉ l) : ∀ (cur rest : List UInt8), spl cur (l ++ rest) = spl (cur ++ l) rest := by
  induction l with
  | nil => intro cur rest; simp
  | cons c l ih =>
    intro cur rest
    have hc : c ≠ 32 := fun e => h (by rw [e]; simp)
    have hl : (32 : UInt8) ∉ l := fun e => h (by simp [e])
    rw [List.cons_append, spl, if_neg hc, ih hl]
    simp

theorem spl_tail (i : Ins) : ∀ (ps : List Nat) (cur : List UInt8), spl cur (shTail i ps) = cur :: ps.map (shPart i) := by
  intro ps
  induction ps with
  | nil => intro cur; simp [shTail, spl]
  | cons p ps ih =>
    intro cur
    rw [shTail, spl, if_pos rfl, spl_word _ (noBlank_part i p), ih]
    simp

theorem spl_text (i : Ins) : spl [] (shText i) = (nameOf i.op).data.toList :: (shParts (rowOp i.op).fm).map (shPart i) := by
  unfold shText
  rw [spl_word _ (noBlank_name i.op), spl_tail]
  simp

theorem nm_back : ∀ k, k < 98 → findName (rowAt k).name 98 0 = (k : Int) + 1 := by
  have h : (List.range 98).all (fun k => findName (rowAt k).name 98 0 == (k : Int) + 1) = true := by kernel_rfl
  intro k hk
  have := List.all_eq_true.1 h k (by simpa using hk)
  exact eq_of_beq this

theorem name_op {op : Int} (h : opB op = true) : findName (nameOf op) 98 0 = op := by
  have h2 : 1 ≤ op ∧ op ≤ 98 := of_decide_eq_true h
  obtain ⟨k, rfl⟩ : ∃ k : Nat, op = (k : Int) + 1 := ⟨(op - 1).toNat, by omega⟩
  have := nm_back k (by omega)
  unfold nameOf
  rw [h, if_pos rfl, show ((k : Int) + 1 - 1).toNat = k from by omega]
  exact this

theorem findName_op (s : ByteArray) : ∀ n k, n + k = 98 → findName s n k = 0 ∨ opB (findName s n k) = true := by
  intro n
  induction n with
  | zero => intro k _; exact Or.inl rfl
  | succ n ih =>
    intro k hk
    unfold findName
    split
    · right
      exact decide_eq_true ⟨by omega, by omega⟩
    · exact ih (k + 1) (by omega)

theorem wf_i64 {x : Int} (h0 : -9223372036854775808 ≤ x) (h1 : x ≤ 9223372036854775807) : (Lit.int .i64 x).wf = true := by
  have hmin : IntKind.i64.min = -9223372036854775808 := rfl
  have hmax : IntKind.i64.max = 9223372036854775807 := rfl
  simp only [Lit.wf, Bool.and_eq_true, decide_eq_true_eq]
  omega

theorem numL_bd {l : List UInt8} {n : Int} (h : numL l = some n) : -1000000000000000000 < n ∧ n < 1000000000000000000 := by
  unfold numL at h
  dsimp only at h
  generalize decide (l.head? = some 45) = neg at h
  generalize (if neg = true then l.tail else l) = ds at h
  by_cases hc : (decide (1 ≤ ds.length ∧ ds.length ≤ 18) && ds.all isDig && !(decide (ds.head? = some 48) && (neg || decide (1 < l.length)))) = true
  · rw [if_pos hc] at h
    simp only [Bool.and_eq_true, decide_eq_true_eq] at hc
    have := digVal_18 _ hc.1.2 hc.1.1.2
    have := Option.some.inj h
    split at this <;> omega
  · rw [if_neg hc] at h; cases h

theorem IW.set {i : Ins} (h : IW i) (p : Nat) {x : Int} (hx : (Lit.int .i64 x).wf = true) : IW (setP i p x) := by
  unfold setP
  split
  · exact ⟨h.1, hx, h.2.2.1, h.2.2.2.1, h.2.2.2.2⟩
  · exact ⟨h.1, h.2.1, hx, h.2.2.2.1, h.2.2.2.2⟩
  · exact ⟨h.1, h.2.1, h.2.2.1, hx, h.2.2.2.2⟩
  · exact ⟨h.1, h.2.1, h.2.2.1, h.2.2.2.1, hx⟩

theorem setP_op (i : Ins) (p : Nat) (x : Int) : (setP i p x).op = i.op := by unfold setP; split <;> rfl

theorem part_reg {j : Ins} (h : EncOk j) (p : Nat) (hp : p = 0 ∨ p = 1 ∨ p = 2) : ∃ l, shPart j p = 120 :: l ∧ numL l = some (getP j p) := by
  have hb := h.reg p hp
  refine ⟨Lib.itoa (getP j p), ?_, numL_itoa _ (by omega) (by omega)⟩
  rcases hp with rfl | rfl | rfl <;> rfl

theorem part_imm {j : Ins} (h : EncOk j) : numL (shPart j 3) = some (getP j 3) := by
  have hb : -4294967296 ≤ j.imm ∧ j.imm ≤ 4294967296 := h.num 3
  exact numL_itoa j.imm (by omega) (by omega)

def u8i (l : List UInt8) : List Int := l.map fun b => (b.toNat : Int)

theorem Runs.congr {s s' : RdSt} {q : RdRes} (h : rdStep s = rdStep s') (k : Runs s' q) : Runs s q := by
  cases k with
  | stop e => exact .stop (h.trans e)
  | go e k => exact .go (h.trans e) k

theorem u8i_ne (b : UInt8) : (b.toNat : Int) ≠ -1 := by omega

theorem u8i_32 (b : UInt8) (h : b ≠ 32) : (b.toNat : Int) ≠ 32 := by
  intro e
  apply h
  have : b.toNat = 32 := by omega
  exact u8_eq (by decide) this

theorem name_run (l : List UInt8) (h : (32 : UInt8) ∉ l) : ∀ (ns rest : List Int) (q : RdRes), Runs (.name rest (ns ++ u8i l)) q → Runs (.name (u8i l ++ rest) ns) q := by
  induction l with
  | nil => intro ns rest q k; simpa [u8i] using k
  | cons c l ih =>
    intro ns rest q k
    have hc : c ≠ 32 := fun e => h (by rw [e]; simp)
    have hl : (32 : UInt8) ∉ l := fun e => h (by simp [e])
    refine .go (s' := .name (u8i l ++ rest) (ns ++ [(c.toNat : Int)])) ?_ (ih hl _ _ _ ?_)
    · show rdName _ _ = _
      simp only [u8i, List.map_cons, List.cons_append, rdName, List.headD_cons, List.tail_cons]
      rw [if_neg (u8i_ne c), if_neg (u8i_32 c hc)]
    · simpa [u8i] using k

theorem digits_run (ds : List UInt8) (hd : ds.all isDig = true) : ∀ (acc : Nat) (ns ms rest : List Int) (sign : Int) (q : RdRes), (∀ k, k ≤ ds.length → (ds.take k).foldl digStep acc < 1000000000000000000) →
    Runs (.num (rest.headD (-1)) rest.tail ns ms sign ((ds.foldl digStep acc : Nat) : Int)) q → Runs (.num ((u8i ds ++ rest).headD (-1)) (u8i ds ++ rest).tail ns ms sign (acc : Int)) q := by
  induction ds with
  | nil => intro acc ns ms rest sign q _ k; simpa [u8i] using k
  | cons c ds ih =>
    intro acc ns ms rest sign q hb k
    simp only [List.all_cons, Bool.and_eq_true] at hd
    have hc : 48 ≤ c.toNat ∧ c.toNat ≤ 57 := of_decide_eq_true hd.1
    have h0 := hb 0 (by omega)
    have h1 := hb 1 (by simp)
    simp only [List.take_zero, List.foldl_nil] at h0
    simp only [List.take_succ_cons, List.take_zero, List.foldl_cons, List.foldl_nil] at h1
    refine .go (s' := .num ((u8i ds ++ rest).headD (-1)) (u8i ds ++ rest).tail ns ms sign ((digStep acc c : Nat) : Int)) ?_ (ih hd.2 _ _ _ _ _ _ ?_ ?_)
    · show rdNum _ _ _ _ _ _ = _
      simp only [u8i, List.map_cons, List.cons_append, List.headD_cons, List.tail_cons]
      unfold rdNum
      rw [if_pos (by omega)]
      have e : wrap64 (wrap64 ((acc : Int) * 10) + ((c.toNat : Int) - 48)) = ((digStep acc c : Nat) : Int) := by
        unfold digStep at h1 ⊢
        unfold wrap64
        omega
      rw [e]
    · intro k hk
      have := hb (k + 1) (by simp; omega)
      simpa using this
    · simpa using k

theorem digVal_pre (ds : List UInt8) (hd : ds.all isDig = true) (hl : ds.length ≤ 18) : ∀ k, k ≤ ds.length → (ds.take k).foldl digStep 0 < 1000000000000000000 := by
  intro k hk
  refine digVal_18 (ds.take k) ?_ ?_
  · rw [List.all_eq_true] at hd ⊢
    exact fun x hx => hd x (List.mem_of_mem_take hx)
  · rw [List.length_take]; omega

theorem num_end (ns ms : List Int) (sign : Int) (acc : Int) (x : Int) (hx : wrap64 (sign * acc) = x) : Runs (.num (([] : List Int).headD (-1)) ([] : List Int).tail ns ms sign acc) (some (ns, ms ++ [x])) := by
  refine .stop ?_
  show rdNum _ _ _ _ _ _ = _
  simp only [List.headD_nil, List.tail_nil, rdNum]
  rw [if_neg (by omega), if_neg (by decide), if_pos (by decide), hx]

theorem num_next2 (ns ms rest : List Int) (sign : Int) (acc : Int) (x : Int) (hx : wrap64 (sign * acc) = x) (q : RdRes) (k : Runs (.ahead rest ns (ms ++ [x])) q) : Runs (.num ((32 :: rest).headD (-1)) (32 :: rest).tail ns ms sign acc) q := by
  refine .go ?_ k
  show rdNum _ _ _ _ _ _ = _
  simp only [List.headD_cons, List.tail_cons, rdNum]
  rw [if_neg (by omega), if_pos trivial, hx]

theorem ahead_reg (u : Nat) (hu : u < 1000000000000000000) (ns ms rest : List Int) (q : RdRes) (k : Runs (.num (rest.headD (-1)) rest.tail ns ms 1 (u : Int)) q) : Runs (.ahead (u8i (120 :: Lib.decDigits u) ++ rest) ns ms) q := by
  obtain ⟨h1, h2⟩ := decDigits_dig u
  have h3 := digits_run (Lib.decDigits u) h1 0 ns ms rest 1 q (digVal_pre _ h1 (decDigits_short u hu))
  rw [show (Lib.decDigits u).foldl digStep 0 = u from h2] at h3
  refine Runs.congr ?_ (h3 k)
  show rdAhead _ _ _ = rdNum _ _ _ _ _ _
  simp [rdAhead, u8i]

theorem ahead_neg (u : Nat) (hu : u < 1000000000000000000) (ns ms rest : List Int) (q : RdRes) (k : Runs (.num (rest.headD (-1)) rest.tail ns ms (-1) (u : Int)) q) : Runs (.ahead (u8i (45 :: Lib.decDigits u) ++ rest) ns ms) q := by
  obtain ⟨h1, h2⟩ := decDigits_dig u
  have h3 := digits_run (Lib.decDigits u) h1 0 ns ms rest (-1) q (digVal_pre _ h1 (decDigits_short u hu))
  rw [show (Lib.decDigits u).foldl digStep 0 = u from h2] at h3
  refine Runs.congr ?_ (h3 k)
  show rdAhead _ _ _ = rdNum _ _ _ _ _ _
  simp [rdAhead, u8i]

theorem ahead_pos (u : Nat) (hu : u < 1000000000000000000) (ns ms rest : List Int) (q : RdRes) (k : Runs (.num (rest.headD (-1)) rest.tail ns ms 1 (u : Int)) q) : Runs (.ahead (u8i (Lib.decDigits u) ++ rest) ns ms) q := by
  obtain ⟨h1, h2⟩ := decDigits_dig u
  have h3 := digits_run (Lib.decDigits u) h1 0 ns ms rest 1 q (digVal_pre _ h1 (decDigits_short u hu))
  rw [show (Lib.decDigits u).foldl digStep 0 = u from h2] at h3
  refine Runs.congr ?_ (h3 k)
  show rdAhead _ _ _ = rdNum _ _ _ _ _ _
  cases hd : Lib.decDigits u with
  | nil => exact absurd hd (decDigits_ne u)
  | cons c l =>
    rw [hd] at h1
    simp only [List.all_cons, Bool.and_eq_true] at h1
    have hc : 48 ≤ c.toNat ∧ c.toNat ≤ 57 := of_decide_eq_true h1.1
    simp only [rdAhead, u8i, List.map_cons, List.cons_append, List.headD_cons, List.tail_cons]
    rw [if_neg (by omega), if_neg (by omega)]
    rfl

theorem part_run {j : Ins} (h : EncOk j) (p : Nat) (hp : p = 0 ∨ p = 1 ∨ p = 2 ∨ p = 3) (ns ms rest : List Int) (q : RdRes)
    (k : ∀ sign acc, wrap64 (sign * acc) = getP j p → Runs (.num (rest.headD (-1)) rest.tail ns ms sign acc) q) : Runs (.ahead (u8i (shPart j p) ++ rest) ns ms) q := by
  by_cases h3 : p = 3
  · subst h3
    have hb : -4294967296 ≤ j.imm ∧ j.imm ≤ 4294967296 := h.num 3
    show Runs (.ahead (u8i (Lib.itoa j.imm) ++ rest) ns ms) q
    by_cases hn : j.imm < 0
    · rw [show Lib.itoa j.imm = 45 :: Lib.decDigits j.imm.natAbs by simp [Lib.itoa, hn]]
      refine ahead_neg _ (by omega) _ _ _ _ (k _ _ ?_)
      show _ = j.imm
      unfold wrap64
      omega
    · rw [show Lib.itoa j.imm = Lib.decDigits j.imm.toNat by simp [Lib.itoa, hn]]
      refine ahead_pos _ (by omega) _ _ _ _ (k _ _ ?_)
      show _ = j.imm
      unfold wrap64
      omega
  · have hp2 : p = 0 ∨ p = 1 ∨ p = 2 := by omega
    have hb := h.reg p hp2
    have e : shPart j p = 120 :: Lib.decDigits (getP j p).toNat := by
      have e1 : shPart j p = 120 :: Lib.itoa (getP j p) := by rcases hp2 with rfl | rfl | rfl <;> rfl
      rw [e1]
      simp only [Lib.itoa]
      rw [if_neg (by omega)]
    rw [e]
    refine ahead_reg _ (by omega) _ _ _ _ (k _ _ ?_)
    unfold wrap64
    omega

theorem tail_run {j : Ins} (h : EncOk j) (ns : List Int) : ∀ (ps : List Nat) (hps : ∀ p ∈ ps, p = 0 ∨ p = 1 ∨ p = 2 ∨ p = 3) (p : Nat) (hp : p = 0 ∨ p = 1 ∨ p = 2 ∨ p = 3) (ms : List Int),
    Runs (.ahead (u8i (shPart j p ++ shTail j ps)) ns ms) (some (ns, ms ++ (p :: ps).map (getP j))) := by
  intro ps
  induction ps with
  | nil =>
    intro _ p hp ms
    rw [show u8i (shPart j p ++ shTail j []) = u8i (shPart j p) ++ [] by simp [u8i, shTail]]
    exact part_run h p hp _ _ _ _ fun sign acc e => num_end ns ms sign acc _ e
  | cons p2 ps ih =>
    intro hps p hp ms
    rw [show u8i (shPart j p ++ shTail j (p2 :: ps)) = u8i (shPart j p) ++ (32 :: u8i (shPart j p2 ++ shTail j ps)) by simp [u8i, shTail]]
    refine part_run h p hp _ _ _ _ fun sign acc e => num_next2 ns ms _ sign acc _ e _ ?_
    have := ih (fun x hx => hps x (by simp [hx])) p2 (hps p2 (by simp)) (ms ++ [getP j p])
    simpa using this

theorem shParts_all (f : Fm) : ∀ p ∈ shParts f, p = 0 ∨ p = 1 ∨ p = 2 ∨ p = 3 := by
  cases f <;> decide

theorem text_run {j : Ins} (h : EncOk j) : Runs (.name (u8i (shText j)) []) (some (u8i (nameOf j.op).data.toList, (shParts (rowOp j.op).fm).map (getP j))) := by
  unfold shText
  have hall := shParts_all (rowOp j.op).fm
  generalize shParts (rowOp j.op).fm = ps at hall
  rw [show u8i ((nameOf j.op).data.toList ++ shTail j ps) = u8i (nameOf j.op).data.toList ++ u8i (shTail j ps) by simp [u8i]]
  refine name_run _ (noBlank_name j.op) _ _ _ ?_
  rw [List.nil_append]
  cases ps with
  | nil =>
    refine .stop ?_
    show rdName _ _ = _
    simp [rdName, shTail, u8i]
  | cons p ps =>
    have := tail_run h (u8i (nameOf j.op).data.toList) ps (fun x hx => hall x (by simp [hx])) p (hall p (by simp)) []
    rw [List.nil_append] at this
    refine Runs.congr ?_ this
    show rdName _ _ = rdAhead _ _ _
    simp [rdName, shTail, u8i]

theorem decode_low (s : ByteArray) (i : Nat) (c : UInt8) (hi : s.data.toList[i]? = some c) (hc : c.toNat < 128) : Utf8.decode s i = (c.toNat, 1) := by
  have hg : s.get! i = c := by
    have hlt : i < s.data.size := by
      by_cases h : i < s.data.size
      · exact h
      · rw [Array.getElem?_toList, Array.getElem?_eq_none (by omega)] at hi; cases hi
    rw [Array.getElem?_toList, Array.getElem?_eq_getElem hlt] at hi
    show s.data[i]! = c
    rw [getElem!_pos s.data i hlt]
    exact Option.some.inj hi
  unfold Utf8.decode
  simp only [Nat.add_zero, hg]
  rw [if_pos hc]

theorem runesFrom_low (s : ByteArray) (h : ∀ c ∈ s.data.toList, c.toNat < 128) : ∀ (bound i : Nat) (acc : Array Value), (Conv.runesFrom s bound i acc).toList = acc.toList ++ ((s.data.toList.drop i).take bound).map fun c => Value.int .i32 (c.toNat : Int) := by
  intro bound
  induction bound with
  | zero => intro i acc; simp [Conv.runesFrom]
  | succ n ih =>
    intro i acc
    have hl : s.data.toList.length = s.size := by rw [Array.length_toList]; rfl
    unfold Conv.runesFrom
    split
    · rename_i hi
      have hi2 : i < s.data.toList.length := by omega
      have hg : s.data.toList[i]? = some s.data.toList[i] := List.getElem?_eq_getElem hi2
      have hd := decode_low s i _ hg (h _ (List.getElem_mem hi2))
      rw [hd, ih, Array.toList_push, List.drop_eq_getElem_cons hi2, List.take_succ_cons, List.map_cons]
      simp
    · rename_i hi
      rw [List.drop_eq_nil_of_le (by omega)]
      simp

theorem runesL_low (s : ByteArray) (h : ∀ c ∈ s.data.toList, c.toNat < 128) : runesL s = u8i s.data.toList := by
  unfold runesL
  rw [runesFrom_low s h]
  have hl : s.data.toList.length = s.size := by rw [Array.length_toList]; rfl
  rw [List.drop_zero, List.take_of_length_le (by omega)]
  simp [u8i, intOf]

theorem encode_low (c : UInt8) (h : c.toNat < 128) : Utf8.encode (c.toNat : Int) = ⟨#[c]⟩ := by
  unfold Utf8.encode
  have hv : Utf8.valid (c.toNat : Int) = true := by unfold Utf8.valid; simp; omega
  simp only [hv, if_true, Int.toNat_natCast]
  rw [if_pos h]
  simp

theorem runesBytes_low (l : List UInt8) (h : ∀ c ∈ l, c.toNat < 128) : runesBytes (u8i l) = ⟨l.toArray⟩ := by
  have key : ∀ (l : List UInt8) (acc : ByteArray), (∀ c ∈ l, c.toNat < 128) → (u8i l).foldl (fun r n => r ++ Utf8.encode n) acc = acc ++ ⟨l.toArray⟩ := by
    intro l
    induction l with
    | nil => intro acc _; apply ByteArray.ext; simp [u8i]
    | cons c l ih =>
      intro acc hl
      simp only [u8i, List.map_cons, List.foldl_cons]
      have := ih (acc ++ Utf8.encode (c.toNat : Int)) (fun x hx => hl x (by simp [hx]))
      simp only [u8i] at this
      rw [this, encode_low c (hl c (by simp))]
      apply ByteArray.ext
      apply Array.toList_inj.1
      simp [ByteArray.data_append]
  have := key l ByteArray.empty h
  unfold runesBytes
  rw [this]
  apply ByteArray.ext
  apply Array.toList_inj.1
  simp

theorem low_digits (u : Nat) : ∀ c ∈ Lib.decDigits u, c.toNat < 128 := by
  intro c hc
  have h1 := (decDigits_dig u).1
  rw [List.all_eq_true] at h1
  have h2 : 48 ≤ c.toNat ∧ c.toNat ≤ 57 := of_decide_eq_true (h1 c hc)
  omega

theorem low_itoa (x : Int) : ∀ c ∈ Lib.itoa x, c.toNat < 128 := by
  intro c hc
  unfold Lib.itoa at hc
  split at hc
  · rcases List.mem_cons.1 hc with h | h
    · rw [h]; decide
    · exact low_digits _ c h
  · exact low_digits _ c hc

theorem low_part (i : Ins) (p : Nat) : ∀ c ∈ shPart i p, c.toNat < 128 := by
  intro c hc
  unfold shPart at hc
  split at hc
  all_goals first
    | (rcases List.mem_cons.1 hc with h | h
       · rw [h]; decide
       · exact low_itoa _ c h)
    | exact low_itoa _ c hc

theorem low_tail (i : Ins) : ∀ (ps : List Nat), ∀ c ∈ shTail i ps, c.toNat < 128 := by
  intro ps
  induction ps with
  | nil => intro c hc; simp [shTail] at hc
  | cons p ps ih =>
    intro c hc
    rw [shTail] at hc
    rcases List.mem_cons.1 hc with h | h
    · rw [h]; decide
    · rcases List.mem_append.1 h with h | h
      · exact low_part i p c h
      · exact ih c h

theorem low_name (op : Int) : ∀ c ∈ (nameOf op).data.toList, c.toNat < 128 := by
  have h : (List.range 98).all (fun k => (rowAt k).name.data.toList.all (fun c => decide (c.toNat < 128))) = true := by kernel_rfl
  unfold nameOf
  split
  · rename_i hb
    have h2 : 1 ≤ op ∧ op ≤ 98 := of_decide_eq_true hb
    have := List.all_eq_true.1 h (op - 1).toNat (by simp; omega)
    intro c hm
    exact of_decide_eq_true (List.all_eq_true.1 this c hm)
  · simp

theorem low_text (i : Ins) : ∀ c ∈ shText i, c.toNat < 128 := by
  intro c hc
  unfold shText at hc
  rcases List.mem_append.1 hc with h | h
  · exact low_name _ c h
  · exact low_tail i _ c h

def opsE (i : Nat) : MapEntry := { key := .string (rowAt i).name, val := .int .i64 ((i : Int) + 1), born := i }

def opsEs (k : Nat) : Array MapEntry := ((List.range k).map opsE).toArray

theorem same_name (s : ByteArray) (k : Nat) : Instr.sameNow .string (.string s) (opsE k).key = some ((rowAt k).name.toList == s.toList) := by
  show some (s == (rowAt k).name) = _
  congr 1
  have h1 := MapKept.bytes_beq s (rowAt k).name
  by_cases h : s = (rowAt k).name
  · rw [h1.2 h, ← h]; simp
  · have h2 : (s == (rowAt k).name) = false := by
      cases hb : (s == (rowAt k).name) with
      | false => rfl
      | true => exact absurd (h1.1 hb) h
    rw [h2]
    symm
    rw [beq_eq_false_iff_ne]
    intro he
    rw [Go.ByteArray.toList_eq, Go.ByteArray.toList_eq] at he
    exact h (ByteArray.ext (Array.toList_inj.1 he.symm))

theorem findNow_ops (s : ByteArray) : ∀ n k m, ∃ r, Instr.findNow .string (.string s) ((List.range' k n).map opsE) m = some r ∧ ((findName s n k = 0 ∧ r = none) ∨ (findName s n k ≠ 0 ∧ ∃ i, r = some (i, .int .i64 (findName s n k)))) := by
  intro n
  induction n with
  | zero => intro k m; exact ⟨none, rfl, Or.inl ⟨rfl, rfl⟩⟩
  | succ n ih =>
    intro k m
    rw [List.range'_succ, List.map_cons]
    unfold Instr.findNow
    rw [same_name]
    unfold findName
    cases h : ((rowAt k).name.toList == s.toList) with
    | true => exact ⟨_, rfl, Or.inr ⟨by simp; omega, m, rfl⟩⟩
    | false => exact ih (k + 1) (m + 1)

theorem opsEs_push (k : Nat) : opsEs (k + 1) = (opsEs k).push { key := .string (rowAt k).name, val := .int .i64 ((k : Int) + 1), born := k } := by
  simp [opsEs, List.range_succ, opsE]

theorem names_new : ∀ k, k < 98 → findName (rowAt k).name k 0 = 0 := by
  have h : (List.range 98).all (fun k => findName (rowAt k).name k 0 == 0) = true := by kernel_rfl
  intro k hk
  have := List.all_eq_true.1 h k (by simpa using hk)
  exact eq_of_beq this

theorem run_checkKeyS (e : Bool) (s : ByteArray) (w : World) : (Instr.checkKey e 10000 9 (.string s)).run Tryd.prog w = .ok () w := by kernel_rfl

theorem run_opsUpdate (w : World) (bm k : Nat) (hk : k < 98) (nm : ByteArray) (hnm : nm = (rowAt k).name) (hb : w.heap[bm]? = some (.map (opsEs k) k)) :
    (Instr.mapUpdate 46 (.map (some bm)) (.string nm) (.int .i64 ((k : Int) + 1))).run Tryd.prog w = .ok () (ChangeMaps.setBlock w bm (.map (opsEs (k + 1)) (k + 1))) := by
  have hf : (Instr.findKey 9 (.string nm) (opsEs k).toList).run Tryd.prog w = .ok none w := by
    obtain ⟨r, h1, h2⟩ := findNow_ops nm k 0 0
    rw [hnm, names_new k hk] at h2
    rw [h2.resolve_right (fun h => h.1 rfl) |>.2] at h1
    refine MapKept.run_findKey Tryd.underlying9 ?_
    rw [show (opsEs k).toList = (List.range' 0 k).map opsE from by rw [opsEs, List.range_eq_range']]
    exact h1
  rw [opsEs_push k, ← hnm]
  simp [Instr.mapUpdate, run_underlying Tryd.underlying46, MapKept.run_getObj_map hb, run_checkKeyS, hf, MapKept.run_setObj_map _ hb, Result.andThen, ChangeMaps.setBlock]

theorem i64_zero : (Tryd.prog.info? 2).bind (·.zero) = some (.int .i64 0) := by kernel_rfl

theorem run_opsLookup (w : World) (bm clock : Nat) (s : ByteArray) (hb : w.heap[bm]? = some (.map (opsEs 98) clock)) :
    (Instr.lookup 46 (.map (some bm)) (.string s) true).run Tryd.prog w = .ok (.tuple #[.int .i64 (findName s 98 0), .bool (findName s 98 0 != 0)]) w := by
  obtain ⟨r, h1, h2⟩ := findNow_ops s 98 0 0
  have hf : (Instr.findKey 9 (.string s) (opsEs 98).toList).run Tryd.prog w = .ok r w := by
    refine MapKept.run_findKey Tryd.underlying9 ?_
    rw [show (opsEs 98).toList = (List.range' 0 98).map opsE from by rw [opsEs, List.range_eq_range']]
    exact h1
  rcases h2 with ⟨h3, rfl⟩ | ⟨h3, i, rfl⟩
  · rw [h3]
    simp [Instr.lookup, run_underlying Tryd.underlying46, MapKept.run_getObj_map hb, run_checkKeyS, hf, run_zero i64_zero]
  · have hne : (findName s 98 0 != 0) = true := by simpa using h3
    rw [hne]
    simp [Instr.lookup, run_underlying Tryd.underlying46, MapKept.run_getObj_map hb, run_checkKeyS, hf]

def OpsAt (w : World) (bm : Nat) : Prop := ∃ clock, w.heap[bm]? = some (.map (opsEs 98) clock)

theorem OpsAt.keep {w w' : World} {bm : Nat} (h : OpsAt w bm) (hb : Below w.heap.size w w') : OpsAt w' bm := by
  obtain ⟨c, h⟩ := h; exact ⟨c, row_keep h hb⟩

theorem wpList_updS {ops : Array Oper} {rest : List Oper} {o : Oper} {A : Act} {w W0 w' : World} {Q : Exit → Act → World → Prop} {bm : Nat} {key val : Value} (H : Hid ((Instr.mapUpdate 46 (.map (some bm)) key val).run Tryd.prog W0 = .ok () w'))
    (hg : o.guard = none) (m k v : Operand) (ho : o.op = .mapUpdate 46 m k v) (hm : A.eval m = .map (some bm)) (hk : A.eval k = key) (hv : A.eval v = val) (hw : w = W0) (h : wpList Tryd.prog ops Q rest (A.put o.dst undef) w') : wpList Tryd.prog ops Q (o :: rest) A w := by
  subst hw
  refine wpList_plain hg fun K hK => ?_
  unfold Oper.wp
  simp [execOp, ho, hm, hk, hv, H.out, Result.andThen]
  exact hK _ _ h

theorem wpList_lookS {ops : Array Oper} {rest : List Oper} {o : Oper} {A : Act} {w : World} {Q : Exit → Act → World → Prop} {bm : Nat} {key V : Value} (H : Hid ((Instr.lookup 46 (.map (some bm)) key true).run Tryd.prog w = .ok V w)) (hg : o.guard = none) (x y : Operand) (ho : o.op = .lookup 46 x y true)
    (hx : A.eval x = .map (some bm)) (hy : A.eval y = key) (h : wpList Tryd.prog ops Q rest (A.put o.dst V) w) : wpList Tryd.prog ops Q (o :: rest) A w := by
  refine wpList_plain hg fun K hK => ?_
  have hrun : (execOp A.eval o).run Tryd.prog w = .ok (.value V) w := by
    simp [execOp, ho, hx, hy, H.out]
  unfold Oper.wp
  rw [hrun, Oper.upon_value]
  exact hK _ _ h

set_option maxRecDepth 20000 in
set_option maxHeartbeats 1600000 in
theorem opsByName_any (w : World) : Calls Tryd.prog 19 #[] w fun e w' => ∃ bm, e = .returned (.map (some bm)) ∧ Hid (OpsAt w' bm) ∧ Hid (w.heap.size ≤ bm) ∧ Below w.heap.size w w' := by
  have MK : ∀ w : World, (Instr.makeMap 46 none).run Tryd.prog w = .ok (.map (some w.heap.size)) (w.alloc (.map #[] 0)) := fun w => rfl
  go_enter Tryd.func19, Tryd.ntmps19
  go_wp2_with fail
  refine (opRows_T _).mono ?_
  rintro e w1 ⟨T, rfl, HT, hb⟩
  clear MK
  have M0 : Hid (w1.heap[w.heap.size]? = some (.map (opsEs 0) 0)) := by
    have h0 : (w.alloc (.map #[] 0)).heap[w.heap.size]? = some (.map #[] 0) := heap_alloc_new _ _
    exact row_keep h0 hb
  have hb0 : Below w.heap.size w w1 := below_trans ((Below.refl _ _).alloc (Nat.le_refl _) _) hb
  clear hb
  go_wp2_with fail
  go_loopw [6] (fun i wr => ∃ k : Nat, k ≤ 98 ∧ i = .int .i64 k ∧ Hid (wr.heap[w.heap.size]? = some (.map (opsEs k) k)) ∧ Below w.heap.size w wr)
    (fun i _ => 98 - (intOf i).toNat)
  case atStart => exact ⟨0, by omega, rfl, M0, hb0⟩
  case round =>
    obtain ⟨k, hk, rfl, M, hb2⟩ := hrel
    clear hb0 M0
    by_cases hlt : k < 98
    · obtain ⟨r, hr0⟩ : ∃ r, r = rowAt k := ⟨_, rfl⟩
      have hr : Hid (r = rowAt k) := hr0
      have HNM : Hid (r.name = (rowAt k).name) := by rw [hr0]; exact (rfl : _ = _)
      clear hr0
      obtain ⟨nm, f, o, m3, m⟩ := r
      obtain ⟨z, hz⟩ : ∃ z, z = Row.f3z ⟨nm, f, o, m3, m⟩ := ⟨_, rfl⟩
      have HIX : Hid (∀ w : World, (Instr.index 55 T (.int .i64 (k : Int))).run Tryd.prog w = .ok (.agg #[.string nm, .string f.str, .int .u64 o, .int .u64 z, .int .u64 m]) w) := by
        intro w
        rw [run_index_T HT .i64 k hlt _ hr w, hz]
      obtain ⟨fs, hfs⟩ : ∃ fs, fs = f.str := ⟨_, rfl⟩
      rw [← hfs] at HIX
      clear hr hz hfs
      have HNM2 : Hid (nm = (rowAt k).name) := HNM.out
      obtain ⟨w2, hw2⟩ : ∃ w2, w2 = wr.alloc (.cells #[.string nm, .string fs, .int .u64 o, .int .u64 z, .int .u64 m] 54) := ⟨_, rfl⟩
      have hbw : Below wr.heap.size wr w2 := by rw [hw2]; exact (Below.refl _ _).alloc (Nat.le_refl _) _
      have M2 := row_keep M.out hbw
      have hb3 := below_trans hb2 hbw
      have UP : Hid _ := run_opsUpdate w2 w.heap.size k hlt nm HNM2.out M2
      have MF : Hid ((ChangeMaps.setBlock w2 w.heap.size (.map (opsEs (k + 1)) (k + 1))).heap[w.heap.size]? = some (.map (opsEs (k + 1)) (k + 1))) := ChangeMaps.heap_setBlock_same M2 _
      have BF : Below w.heap.size w (ChangeMaps.setBlock w2 w.heap.size (.map (opsEs (k + 1)) (k + 1))) :=
        ⟨hb3.os, hb3.tape, hb3.output, by simpa [ChangeMaps.setBlock] using hb3.size, fun n hn => (ChangeMaps.heap_setBlock_other M2 _ (by omega)).trans (hb3.block n hn)⟩
      obtain ⟨w3, hw3⟩ : ∃ w3, w3 = ChangeMaps.setBlock w2 w.heap.size (.map (opsEs (k + 1)) (k + 1)) := ⟨_, rfl⟩
      rw [← hw3] at UP MF BF
      rw [hw2] at UP
      clear hw3 M2 hbw hb3 M hb2 hw2
      go_wp2_with (first | refine wpList_indexH HIX rfl _ _ rfl rfl rfl ?_ | refine wpList_updS UP rfl (.tmp 10) (.tmp 12) (.tmp 14) rfl rfl rfl rfl rfl ?_)
      go_roundw
      case rel => exact ⟨k + 1, by omega, by go_num, MF, BF⟩
      case measure => simp [intOf]; omega
    · have hk2 : k = 98 := by omega
      subst hk2
      have HO : Hid (OpsAt wr w.heap.size) := ⟨98, M.out⟩
      have HL : Hid (w.heap.size ≤ w.heap.size) := Nat.le_refl _
      clear M
      go_wp2_with fail
      go_ret
      exact ⟨w.heap.size, rfl, HO, HL, hb2⟩

def Tp (w : World) : Prop := 1 < w.heap.size ∧ Lib.TabIs Tryd.prog w "internal/strconv.uint64pow10" .u64 Lib.pow10Tab

theorem Tp.below {w w' : World} (h : Tp w) (hb : Below w.heap.size w w') : Tp w' := by
  refine ⟨Nat.lt_of_lt_of_le h.1 hb.size, ?_⟩
  have h2 := h.2
  have hg : Tryd.prog.globalNamed "internal/strconv.uint64pow10" = some 1 := by kernel_rfl
  unfold Lib.TabIs World.var? at h2 ⊢
  rw [hg] at h2 ⊢
  simp only [Option.bind_some] at h2 ⊢
  rw [hb.block _ h.1]
  exact h2

theorem below_grow {w : World} (k : Nat) (os : Array Obj) : Below w.heap.size w (Go.Sort.grow (w.drewN k) os) := by
  refine ⟨rfl, rfl, rfl, ?_, fun j hj => ?_⟩
  · simp [Go.Sort.grow, World.drewN]
  · show (w.heap ++ os)[j]? = w.heap[j]?
    rw [Array.getElem?_append_left hj]

theorem fmt_any (n : Int) (h0 : (Lit.int .i64 n).wf = true) (w : World) (hT : Tp w) :
    Calls Tryd.prog 59 #[.int .i64 n, .int .i64 10] w fun e w' => e = .returned (.string ⟨(Lib.itoa n).toArray⟩) ∧ Below w.heap.size w w' := by
  refine (Tryd.strconv_FormatInt_10 n (wf_bds h0).1 (wf_bds h0).2 w hT.2).mono ?_
  rintro e w' ⟨rfl, k, os, rfl⟩
  exact ⟨rfl, below_grow k os⟩

theorem sl_new (kd : IntKind) (T : TypeId) (zs : List Int) (w : World) : Sl kd (w.alloc (.cells (zs.map (Value.int kd)).toArray T (0, 0))) (some ⟨w.heap.size, 0, none⟩) zs := by
  intro i hi
  have hn : (w.alloc (.cells (zs.map (Value.int kd)).toArray T (0, 0))).heap[w.heap.size]? = some (.cells (zs.map (Value.int kd)).toArray T (0, 0)) := heap_alloc_new _ _
  refine ⟨w.heap.size, 0, rfl, ?_, ?_⟩
  · by_cases hl : w.heap.size < (w.alloc (.cells (zs.map (Value.int kd)).toArray T (0, 0))).heap.size
    · exact hl
    · rw [Array.getElem?_eq_none (by omega)] at hn; cases hn
  · simp only [World.cell?, hn]
    simp [List.getD, hi]

def shInts (f : Fm) : List Int := (shParts f).map fun (p : Nat) => (p : Int)

theorem partsOf_any (f : Fm) (w : World) : Calls Tryd.prog 29 #[.string f.str] w fun e w' => ∃ a, e = .returned (.slice a (shParts f).length (shParts f).length) ∧ Hid (Sl .i64 w' a (shInts f)) ∧ Below w.heap.size w w' := by
  cases f <;> simp only [Fm.str] <;> go_enter Tryd.func29, Tryd.ntmps29 <;> go_wp2 <;> go_ret <;>
    first
      | exact ⟨_, rfl, sl_new .i64 _ [_, _, _, _] _, (Below.refl _ _).alloc (Nat.le_refl _) _⟩
      | exact ⟨_, rfl, sl_new .i64 _ [_, _, _] _, (Below.refl _ _).alloc (Nat.le_refl _) _⟩
      | exact ⟨_, rfl, sl_new .i64 _ [_, _] _, (Below.refl _ _).alloc (Nat.le_refl _) _⟩
      | exact ⟨_, rfl, (fun i hi => absurd hi (Nat.not_lt_zero i) : Sl .i64 w _ (shInts .x)), Below.refl _ _⟩

theorem partsOf_none (w : World) : Calls Tryd.prog 29 #[.string ⟨#[]⟩] w fun e w' => e = .returned (.slice none 0 0) ∧ w' = w := by
  go_enter Tryd.func29, Tryd.ntmps29
  go_wp2
  go_ret
  exact ⟨rfl, rfl⟩

set_option maxRecDepth 20000 in
set_option maxHeartbeats 800000 in
theorem showPart_0 (i : Ins) (h : IW i) (w : World) (hT : Tp w) : Calls Tryd.prog 31 #[.agg #[.int .i64 i.op, .int .i64 i.rd, .int .i64 i.a, .int .i64 i.b, .int .i64 i.imm], .int .i64 0] w fun e w' => e = .returned (.string ⟨(shPart i 0).toArray⟩) ∧ Below w.heap.size w w' := by
  obtain ⟨T, hT0⟩ : ∃ T : ByteArray, T = ⟨(Lib.itoa i.rd).toArray⟩ := ⟨_, rfl⟩
  have HT : Hid (T = ⟨(Lib.itoa i.rd).toArray⟩) := hT0
  have HC : Hid (∀ W : World, Tp W → Calls Tryd.prog 59 #[.int .i64 i.rd, .int .i64 10] W fun e w' => e = .returned (.string T) ∧ Below W.heap.size W w') := fun W hW => by rw [hT0]; exact fmt_any i.rd h.2.1 W hW
  have hTl : T.size ≤ 21 := by rw [hT0]; simpa [ByteArray.size] using Lib.itoa_length_le i.rd (wf_bds h.2.1).1 (wf_bds h.2.1).2
  have hg2 : ¬ 9223372036854775807 < 1 + T.size := by omega
  have HP : Hid (Tp w) := hT
  clear hT0 hTl hT
  go_enter Tryd.func31, Tryd.ntmps31
  go_wp2_with fail
  refine (HC.out _ (HP.out.below ((Below.refl _ _).alloc (Nat.le_refl _) _))).mono ?_
  rintro e w5 ⟨rfl, hb5⟩
  go_wp2_with fail
  go_ret
  refine ⟨?_, below_trans ((Below.refl _ _).alloc (Nat.le_refl _) _) hb5⟩
  have : (⟨#[120]⟩ : ByteArray) ++ T = ⟨(shPart i 0).toArray⟩ := by
    rw [HT.out]; apply ByteArray.ext; apply Array.toList_inj.1; simp [shPart, ByteArray.data_append]
  rw [← this]; rfl

set_option maxRecDepth 20000 in
set_option maxHeartbeats 800000 in
theorem showPart_1 (i : Ins) (h : IW i) (w : World) (hT : Tp w) : Calls Tryd.prog 31 #[.agg #[.int .i64 i.op, .int .i64 i.rd, .int .i64 i.a, .int .i64 i.b, .int .i64 i.imm], .int .i64 1] w fun e w' => e = .returned (.string ⟨(shPart i 1).toArray⟩) ∧ Below w.heap.size w w' := by
  obtain ⟨T, hT0⟩ : ∃ T : ByteArray, T = ⟨(Lib.itoa i.a).toArray⟩ := ⟨_, rfl⟩
  have HT : Hid (T = ⟨(Lib.itoa i.a).toArray⟩) := hT0
  have HC : Hid (∀ W : World, Tp W → Calls Tryd.prog 59 #[.int .i64 i.a, .int .i64 10] W fun e w' => e = .returned (.string T) ∧ Below W.heap.size W w') := fun W hW => by rw [hT0]; exact fmt_any i.a h.2.2.1 W hW
  have hTl : T.size ≤ 21 := by rw [hT0]; simpa [ByteArray.size] using Lib.itoa_length_le i.a (wf_bds h.2.2.1).1 (wf_bds h.2.2.1).2
  have hg2 : ¬ 9223372036854775807 < 1 + T.size := by omega
  have HP : Hid (Tp w) := hT
  clear hT0 hTl hT
  go_enter Tryd.func31, Tryd.ntmps31
  go_wp2_with fail
  refine (HC.out _ (HP.out.below ((Below.refl _ _).alloc (Nat.le_refl _) _))).mono ?_
  rintro e w5 ⟨rfl, hb5⟩
  go_wp2_with fail
  go_ret
  refine ⟨?_, below_trans ((Below.refl _ _).alloc (Nat.le_refl _) _) hb5⟩
  have : (⟨#[120]⟩ : ByteArray) ++ T = ⟨(shPart i 1).toArray⟩ := by
    rw [HT.out]; apply ByteArray.ext; apply Array.toList_inj.1; simp [shPart, ByteArray.data_append]
  rw [← this]; rfl

set_option maxRecDepth 20000 in
set_option maxHeartbeats 800000 in
theorem showPart_2 (i : Ins) (h : IW i) (w : World) (hT : Tp w) : Calls Tryd.prog 31 #[.agg #[.int .i64 i.op, .int .i64 i.rd, .int .i64 i.a, .int .i64 i.b, .int .i64 i.imm], .int .i64 2] w fun e w' => e = .returned (.string ⟨(shPart i 2).toArray⟩) ∧ Below w.heap.size w w' := by
  obtain ⟨T, hT0⟩ : ∃ T : ByteArray, T = ⟨(Lib.itoa i.b).toArray⟩ := ⟨_, rfl⟩
  have HT : Hid (T = ⟨(Lib.itoa i.b).toArray⟩) := hT0
  have HC : Hid (∀ W : World, Tp W → Calls Tryd.prog 59 #[.int .i64 i.b, .int .i64 10] W fun e w' => e = .returned (.string T) ∧ Below W.heap.size W w') := fun W hW => by rw [hT0]; exact fmt_any i.b h.2.2.2.1 W hW
  have hTl : T.size ≤ 21 := by rw [hT0]; simpa [ByteArray.size] using Lib.itoa_length_le i.b (wf_bds h.2.2.2.1).1 (wf_bds h.2.2.2.1).2
  have hg2 : ¬ 9223372036854775807 < 1 + T.size := by omega
  have HP : Hid (Tp w) := hT
  clear hT0 hTl hT
  go_enter Tryd.func31, Tryd.ntmps31
  go_wp2_with fail
  refine (HC.out _ (HP.out.below ((Below.refl _ _).alloc (Nat.le_refl _) _))).mono ?_
  rintro e w5 ⟨rfl, hb5⟩
  go_wp2_with fail
  go_ret
  refine ⟨?_, below_trans ((Below.refl _ _).alloc (Nat.le_refl _) _) hb5⟩
  have : (⟨#[120]⟩ : ByteArray) ++ T = ⟨(shPart i 2).toArray⟩ := by
    rw [HT.out]; apply ByteArray.ext; apply Array.toList_inj.1; simp [shPart, ByteArray.data_append]
  rw [← this]; rfl

set_option maxRecDepth 20000 in
set_option maxHeartbeats 800000 in
theorem showPart_3 (i : Ins) (h : IW i) (w : World) (hT : Tp w) : Calls Tryd.prog 31 #[.agg #[.int .i64 i.op, .int .i64 i.rd, .int .i64 i.a, .int .i64 i.b, .int .i64 i.imm], .int .i64 3] w fun e w' => e = .returned (.string ⟨(shPart i 3).toArray⟩) ∧ Below w.heap.size w w' := by
  obtain ⟨T, hT0⟩ : ∃ T : ByteArray, T = ⟨(Lib.itoa i.imm).toArray⟩ := ⟨_, rfl⟩
  have HT : Hid (T = ⟨(Lib.itoa i.imm).toArray⟩) := hT0
  have HC : Hid (∀ W : World, Tp W → Calls Tryd.prog 59 #[.int .i64 i.imm, .int .i64 10] W fun e w' => e = .returned (.string T) ∧ Below W.heap.size W w') := fun W hW => by rw [hT0]; exact fmt_any i.imm h.2.2.2.2 W hW
  have hTl : T.size ≤ 21 := by rw [hT0]; simpa [ByteArray.size] using Lib.itoa_length_le i.imm (wf_bds h.2.2.2.2).1 (wf_bds h.2.2.2.2).2
  have hg2 : ¬ 9223372036854775807 < 1 + T.size := by omega
  have HP : Hid (Tp w) := hT
  clear hT0 hTl hT
  go_enter Tryd.func31, Tryd.ntmps31
  go_wp2_with fail
  refine (HC.out _ (HP.out.below ((Below.refl _ _).alloc (Nat.le_refl _) _))).mono ?_
  rintro e w5 ⟨rfl, hb5⟩
  go_wp2_with fail
  go_ret
  refine ⟨?_, below_trans ((Below.refl _ _).alloc (Nat.le_refl _) _) hb5⟩
  have : T = ⟨(shPart i 3).toArray⟩ := by
    rw [HT.out]; rfl
  rw [← this]; rfl

theorem showPart_any (i : Ins) (h : IW i) (p : Nat) (hp : p = 0 ∨ p = 1 ∨ p = 2 ∨ p = 3) (w : World) (hT : Tp w) : Calls Tryd.prog 31 #[.agg #[.int .i64 i.op, .int .i64 i.rd, .int .i64 i.a, .int .i64 i.b, .int .i64 i.imm], .int .i64 p] w fun e w' => e = .returned (.string ⟨(shPart i p).toArray⟩) ∧ Below w.heap.size w w' := by
  rcases hp with rfl | rfl | rfl | rfl
  · exact showPart_0 i h w hT
  · exact showPart_1 i h w hT
  · exact showPart_2 i h w hT
  · exact showPart_3 i h w hT

set_option maxRecDepth 20000 in
set_option maxHeartbeats 1600000 in
theorem implShow_any (i : Ins) (h : IW i) (w : World) (hT : Tp w) : Calls Tryd.prog 10 #[.agg #[.int .i64 i.op, .int .i64 i.rd, .int .i64 i.a, .int .i64 i.b, .int .i64 i.imm]] w fun e w' => e = .returned (.string ⟨(showL i).toArray⟩) ∧ Below w.heap.size w w' := by
  have HE : Hid (∀ W : World, _) := encI_cc i h
  have HO : Hid ((encS i).2 = true → opB i.op = true) := encS_opB
  have HS : Hid (showL i = if (encS i).2 then shText i else []) := rfl
  obtain ⟨⟨x, t⟩, hxt⟩ : ∃ xt, xt = encS i := ⟨_, rfl⟩
  rw [← hxt] at HE HO HS
  clear hxt
  have HP : Hid (Tp w) := hT
  clear hT
  have hrow0 : (w.alloc (.cells #[.int .i64 i.op, .int .i64 i.rd, .int .i64 i.a, .int .i64 i.b, .int .i64 i.imm] 30 (0, 0))).heap[w.heap.size]? = some (.cells #[.int .i64 i.op, .int .i64 i.rd, .int .i64 i.a, .int .i64 i.b, .int .i64 i.imm] 30 (0, 0)) := heap_alloc_new _ _
  have HR0 : Hid (_ = _) := hrow0
  clear hrow0
  go_enter Tryd.func10, Tryd.ntmps10
  go_wp2_with fail
  refine (HE.out _).mono ?_
  rintro e w1 ⟨rfl, hb1⟩
  cases t with
  | false =>
    go_wp2_with fail
    go_ret
    exact ⟨by rw [HS.out]; rfl, below_trans ((Below.refl _ _).alloc (Nat.le_refl _) _) hb1⟩
  | true =>
    have HR1 : Hid (_ = _) := row_keep HR0.out hb1
    obtain ⟨c0, c1, c2, c3, c4⟩ := ins_row HR1.out
    clear c1 c2 c3 c4
    go_wp2_with fail
    refine (implName_any i.op h.1 _).mono ?_
    rintro e w2 ⟨rfl, hb2⟩
    have HR2 : Hid (_ = _) := row_keep HR1.out hb2
    have HB2 : Hid (Below w.heap.size w w2) := below_trans (below_trans ((Below.refl _ _).alloc (Nat.le_refl _) _) hb1) hb2
    clear c0
    obtain ⟨c0, c1, c2, c3, c4⟩ := ins_row HR2.out
    clear c1 c2 c3 c4
    obtain ⟨nm, hnm0⟩ : ∃ nm, nm = nameOf i.op := ⟨_, rfl⟩
    have HN : Hid (nm = nameOf i.op) := hnm0
    rw [← hnm0]
    clear hnm0
    go_wp2_with fail
    refine (implForm_any i.op h.1 _).mono ?_
    rintro e w3 ⟨rfl, hb3⟩
    have HF : Hid (∃ f, f = (rowOp i.op).fm ∧ formOf i.op = f.str) := ⟨_, rfl, formOf_true (HO.out trivial)⟩
    obtain ⟨f, hf, hff⟩ := HF.out
    rw [hff]
    have HFm : Hid (f = (rowOp i.op).fm) := hf
    clear HF hf hff
    have HR3 : Hid (_ = _) := row_keep HR2.out hb3
    have HB3 : Hid (Below w.heap.size w w3) := below_trans HB2.out hb3
    clear hb1 hb2 hb3 HB2 HR2 HR1 HR0 c0 HE HO
    go_wp2_with fail
    refine (partsOf_any f _).mono ?_
    rintro e w4 ⟨a, rfl, HSl, hb4⟩
    have HR4 : Hid (_ = _) := row_keep HR3.out hb4
    have HB4 : Hid (Below w.heap.size w w4) := below_trans HB3.out hb4
    obtain ⟨n, hn0⟩ : ∃ n, n = (shParts f).length := ⟨_, rfl⟩
    have HZ : Hid (n = (shParts f).length) := hn0
    have hF4 : n ≤ 4 := by rw [hn0]; exact shParts_len f
    rw [← hn0]
    clear hn0 hb4 HR3 HB3
    go_wp2_with fail
    go_loopw [23, 5] (fun kv sv wr => ∃ (k : Nat) (S : ByteArray), kv = .int .i64 k ∧ sv = .string S ∧ k ≤ n ∧ Hid (S.data.toList = nm.data.toList ++ shTail i ((shParts f).take k)) ∧ Hid (Sl .i64 wr a (shInts f)) ∧ Hid (wr.heap[w.heap.size]? = some (.cells #[.int .i64 i.op, .int .i64 i.rd, .int .i64 i.a, .int .i64 i.b, .int .i64 i.imm] 30 (0, 0))) ∧ Hid (Below w.heap.size w wr))
      (fun kv _ _ => n - (intOf kv).toNat)
    case atStart => exact ⟨0, nm, rfl, rfl, Nat.zero_le _, (by simp [shTail] : nm.data.toList = nm.data.toList ++ shTail i ((shParts f).take 0)), HSl, HR4, HB4⟩
    case round =>
      obtain ⟨k, S, rfl, rfl, hk, hS, hSl, hR, hB⟩ := hrel
      obtain ⟨c0, c1, c2, c3, c4⟩ := ins_row hR.out
      clear HR4 HB4
      by_cases hlt : k < n
      · have hk4 : k < (shParts f).length := by rw [← HZ.out]; exact hlt
        obtain ⟨p, hp, hpc, htk⟩ := shParts_at f k hk4
        obtain ⟨g, off, rfl, hgl, hcell⟩ := hSl.out k (by simpa [shInts] using hk4)
        have hpv : (shInts f).getD k 0 = (p : Int) := by simp [shInts, List.getD, hp]
        rw [hpv] at hcell
        have HSm : Hid (S.size ≤ 200) := by
          show S.size ≤ 200
          have e : S.size = S.data.toList.length := by rw [Array.length_toList]; rfl
          have h1 := name_len i.op
          have h2 := shTail_len i h ((shParts f).take k)
          have h3 := shParts_len f
          rw [e, hS.out, HN.out, List.length_append]
          simp only [List.length_take] at h2
          omega
        obtain ⟨T, hT0⟩ : ∃ T : ByteArray, T = ⟨(shPart i p).toArray⟩ := ⟨_, rfl⟩
        have HC : Hid (∀ W : World, Tp W → Calls Tryd.prog 31 #[.agg #[.int .i64 i.op, .int .i64 i.rd, .int .i64 i.a, .int .i64 i.b, .int .i64 i.imm], .int .i64 p] W fun e w' => e = .returned (.string T) ∧ Below W.heap.size W w') := fun W hW => by rw [hT0]; exact showPart_any i h p hpc W hW
        have hTl : T.size ≤ 22 := by rw [hT0]; simpa [ByteArray.size] using shPart_len i h p
        have hg1 : ¬ 9223372036854775807 < 1 + T.size := by omega
        have hg2 : ¬ 9223372036854775807 < S.size + (1 + T.size) := by have := HSm.out; omega
        have HN1 : Hid ((S ++ (⟨#[32]⟩ ++ T)).data.toList = nm.data.toList ++ shTail i ((shParts f).take (k + 1))) := by
          show (S ++ (⟨#[32]⟩ ++ T)).data.toList = nm.data.toList ++ shTail i ((shParts f).take (k + 1))
          rw [htk, shTail_snoc, ByteArray.data_append, ByteArray.data_append, Array.toList_append, Array.toList_append, hS.out, hT0]
          simp
        clear hT0 hTl htk hpv hpc hp hk4 hgl
        go_wp2_with fail
        refine (HC.out _ (HP.out.below hB.out)).mono ?_
        rintro e w5 ⟨rfl, hb5⟩
        have hR5 : Hid (_ = _) := row_keep hR.out hb5
        have hSl5 : Hid (Sl .i64 w5 (some ⟨g, off, none⟩) (shInts f)) := hSl.out.below hb5
        have hB5 : Hid (Below w.heap.size w w5) := below_trans hB.out hb5
        clear hb5 hR hB HC hS hSl
        go_wp2_with fail
        go_roundw
        case rel => exact ⟨k + 1, _, by go_num, rfl, by omega, HN1, hSl5, hR5, hB5⟩
        case measure => simp [intOf]; omega
      · have hk2 : k = (shParts f).length := by rw [← HZ.out]; omega
        have HN2 : Hid (S = ⟨(showL i).toArray⟩) := by
          apply ByteArray.ext
          apply Array.toList_inj.1
          rw [hS.out, HS.out, if_pos trivial, hk2, List.take_length, HFm.out, HN.out]
          rfl
        clear hk2
        go_wp2_with fail
        go_ret
        exact ⟨by rw [← HN2.out]; rfl, hB.out⟩

end Go.Proofs.YtjjpklalihaanaaDoor
