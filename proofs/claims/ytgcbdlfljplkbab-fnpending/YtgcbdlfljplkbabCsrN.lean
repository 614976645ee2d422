/- impl.leftBy and the small functions: what a write leaves; who may reach a register. -/
import Derived.Test.YtgcbdlfljplkbabCsrM
namespace Go.Proofs.Ytgcbdlfljplkbab
open Go.RowKit
set_option linter.unusedVariables false

def CK.goodB : CK → Bool
  | .addr e => decide (e < 4) | _ => true

theorem ck_good : ∀ k, k < 22 → (ckAt k).2.goodB = true := by decide

theorem stays_any (k : CK) (hk : k.holds = true) (hg : k.goodB = true) (a : Option Addr) (cap : Nat) (l : List Int) (x : Int) (w : World) (hz : l.length = 22) (hs : Sl .u64 w a l) (hl : ∀ j, 0 ≤ l.getD j 0 ∧ l.getD j 0 < 18446744073709551616) (h0 : 0 ≤ x) (h1 : x < 18446744073709551616) :
    Calls Try.prog k.staysF #[k.val, .slice a 22 cap, .int .u64 x] w fun e w' => e = .returned (.int .u64 (staysV (l.getD 16 0) k x)) ∧ Below w.heap.size w w' := by
  cases k with
  | plain b => cases hk
  | mst => cases hk
  | mie => cases hk
  | mip => exact stays_mip a cap x w
  | satp => exact stays_satp a cap _ x h0 h1 w
  | cfg => exact stays_cfg a cap l x w hz hs hl
  | addr e => exact stays_addr e (by simpa [CK.goodB] using hg) a cap l x w hz hs hl

theorem stays_found (k : CK) (hk : k.holds = true) (w : World) : (method 244 k.ty k.val "loop.example/g00134/impl.stays").run Try.prog w = .ok (k.staysF, k.val) w := by
  cases k <;> first | (cases hk; done) | kernel_rfl

theorem stays_enters (k : CK) (hk : k.holds = true) : (Try.prog.funcs[k.staysF]?).map (fun fn => (fn.name == "runtime.NumGoroutine", fn.body.isSome)) = some (false, true) := by
  cases k <;> first | (cases hk; done) | kernel_rfl

theorem stays_has (k : CK) (hk : k.holds = true) (xT : TypeId) (w : World) : (Instr.typeAssert (.iface k.ty k.val) xT 108 true).run Try.prog w = .ok (.tuple #[.iface k.ty k.val, .bool true]) w := by
  cases k <;> first | (cases hk; done) | exact run_typeAssert_hasB Try.underlying108 (by kernel_rfl) _ xT w

theorem stays_lacks (k : CK) (hk : k.holds = false) (xT : TypeId) (w : World) : (Instr.typeAssert (.iface k.ty k.val) xT 108 true).run Try.prog w = .ok (.tuple #[.nilIface, .bool false]) w := by
  cases k <;> first | (cases hk; done) | exact run_typeAssert_lacksB Try.underlying108 (by kernel_rfl) (by kernel_rfl) _ xT w

/-- The bits that a write may turn, less those that stay. -/
def turnsV (c : Int) (k : CK) (wr x : Int) : Int := if k.holds = true then bits .andNot .u64 wr (staysV c k x) else wr

def leftV (l : List Int) (k : Nat) (wr x : Int) : Int :=
  bits .or .u64 (bits .andNot .u64 (l.getD k 0) (turnsV (l.getD 16 0) (ckAt k).2 wr x)) (bits .and .u64 (fitV (ckAt k).2 x) (turnsV (l.getD 16 0) (ckAt k).2 wr x))

theorem fit_keeps1 (k : CK) (x : Int) (h0 : 0 ≤ x) (h1 : x < 18446744073709551616) (w : World) (p : Addr) (u : Value) (hp : w.cell? p = some u) :
    Calls Try.prog k.fitF #[k.val, .int .u64 x] w fun e w' => e = .returned (.int .u64 (fitV k x)) ∧ Below w.heap.size w w' ∧ w'.cell? p = some u :=
  (fit_any k x h0 h1 w).mono fun e w' h => ⟨h.1, h.2, (h.2.cell (World.block_lt_of_cell? _ _ hp)).trans hp⟩

theorem run_field1 (n : Int) (t : TypeId) (v : Value) (w : World) : (Instr.field 83 (.agg #[.int .i64 n, .iface t v]) 1).run Try.prog w = .ok (.iface t v) w := by kernel_rfl

set_option maxRecDepth 100000 in
set_option maxHeartbeats 1600000 in
theorem leftBy_any (a : Option Addr) (cap : Nat) (l : List Int) (k : Nat) (hk : k < 22) (wr x : Int) (w : World) (hz : l.length = 22) (hs : Sl .u64 w a l) (hl : ∀ j, 0 ≤ l.getD j 0 ∧ l.getD j 0 < 18446744073709551616) (h0 : 0 ≤ x) (h1 : x < 18446744073709551616) :
    Calls Try.prog 49 #[.slice a 22 cap, .int .i64 k, .int .u64 wr, .int .u64 x] w fun e w' => e = .returned (.int .u64 (leftV l k wr x)) ∧ Below w.heap.size w w' := by
  have F0 : leftV l k wr x = bits .or .u64 (bits .andNot .u64 (l.getD k 0) (turnsV (l.getD 16 0) (ckAt k).2 wr x)) (bits .and .u64 (fitV (ckAt k).2 x) (turnsV (l.getD 16 0) (ckAt k).2 wr x)) := rfl
  have hgd := ck_good k hk
  have hgo := hs k (by omega)
  have HST : Hid (∀ (K : CK), K.holds = true → K.goodB = true → ∀ w, Sl .u64 w a l → Calls Try.prog K.staysF #[K.val, .slice a 22 cap, .int .u64 x] w fun e w' => e = .returned (.int .u64 (staysV (l.getD 16 0) K x)) ∧ Below w.heap.size w w') := fun K h2 h3 w hs => stays_any K h2 h3 a cap l x w hz hs hl h0 h1
  have HS : Hid (Sl .u64 w a l) := hs
  obtain ⟨r, hr⟩ : ∃ r, r = ckAt k := ⟨_, rfl⟩
  have HR : Hid (r = ckAt k) := hr
  rw [← hr] at F0 hgd
  obtain ⟨b, off, rfl, hb0, hc⟩ := hgo
  generalize l.getD k 0 = y at *
  have hk0 : (0 : Int) ≤ (k : Int) := by omega
  have hk1 : (k : Int) < 22 := by omega
  have mf := fit_found r.2
  have en := enters_g (fit_enters r.2)
  have hfi := run_field1 r.1 r.2.ty r.2.val
  clear hr hz hl hs
  cases d : r.2.holds with
  | false =>
    have F1 : turnsV (l.getD 16 0) r.2 wr x = wr := by simp [turnsV, d]
    rw [F1] at F0
    have F : Hid (leftV l k wr x = bits .or .u64 (bits .andNot .u64 y wr) (bits .and .u64 (fitV r.2 x) wr)) := F0
    clear F0 F1 HST
    have hla := stays_lacks r.2 d
    go_enter Try.func49, Try.ntmps49
    go_wp2_with fail
    refine (csrRows_T _).mono ?_
    rintro e w1 ⟨T, rfl, HT, hb⟩
    have hcx : w1.cell? ⟨b, off + k, none⟩ = some (.int .u64 y) := (hb.cell (by exact hb0)).trans hc
    go_wp2_with (first | refine wpList_indexC HT .i64 k hk r HR rfl (.tmp 12) (.tmp 13) rfl rfl rfl ?_)
    go_region_held3 (fun w' => w'.cell? ⟨b, off + k, none⟩ = some (.int .u64 y)) (go_keep) (first | (refine (fit_keeps1 r.2 x h0 h1 _ ⟨b, off + k, none⟩ (.int .u64 y) ?_).mono ?_; (first | assumption | (simp [*])); rintro e w2 ⟨rfl, hb2, hp2⟩))
    go_wp2_with fail
    go_ret
    exact ⟨by rw [F.out]; rfl, below_trans (w1 := w1.drew) hb.drew hb2⟩
  | true =>
    obtain ⟨sv, hsv⟩ : ∃ sv, staysV (l.getD 16 0) r.2 x = sv := ⟨_, rfl⟩
    have F1 : turnsV (l.getD 16 0) r.2 wr x = bits .andNot .u64 wr sv := by unfold turnsV; rw [if_pos d, hsv]
    rw [F1] at F0
    obtain ⟨tv, htv⟩ : ∃ tv, bits .andNot .u64 wr sv = tv := ⟨_, rfl⟩
    rw [htv] at F0
    have F : Hid (leftV l k wr x = bits .or .u64 (bits .andNot .u64 y tv) (bits .and .u64 (fitV r.2 x) tv)) := F0
    have HST2 : Hid (∀ w, Sl .u64 w (some ⟨b, off, none⟩) l → Calls Try.prog r.2.staysF #[r.2.val, .slice (some ⟨b, off, none⟩) 22 cap, .int .u64 x] w fun e w' => e = .returned (.int .u64 sv) ∧ Below w.heap.size w w') := by rw [← hsv]; exact HST.out r.2 d hgd
    clear F0 F1 HST hsv
    have hha := stays_has r.2 d
    have mf2 := stays_found r.2 d
    have en2 := enters_g (stays_enters r.2 d)
    go_enter Try.func49, Try.ntmps49
    go_wp2_with fail
    refine (csrRows_T _).mono ?_
    rintro e w1 ⟨T, rfl, HT, hb⟩
    go_wp2_with (first | refine wpList_indexC HT .i64 k hk r HR rfl (.tmp 12) (.tmp 13) rfl rfl rfl ?_)
    refine (HST2.out _ (HS.out.below hb)).mono ?_
    rintro e w3 ⟨rfl, hb3⟩
    have B3 := below_trans hb hb3
    have hcx : w3.cell? ⟨b, off + k, none⟩ = some (.int .u64 y) := (B3.cell (by exact hb0)).trans hc
    go_wp2_with fail
    go_region_held3 (fun w' => w'.cell? ⟨b, off + k, none⟩ = some (.int .u64 y)) (go_keep) (first | (refine (fit_keeps1 r.2 x h0 h1 _ ⟨b, off + k, none⟩ (.int .u64 y) ?_).mono ?_; (first | assumption | (simp [*])); rintro e w2 ⟨rfl, hb2, hp2⟩))
    go_wp2_with fail
    go_ret
    exact ⟨by rw [F.out]; rfl, below_trans (w1 := w3.drew) B3.drew hb2⟩

theorem privOk_any (p : Int) (w : World) : Calls Try.prog 82 #[.int .i64 p] w fun e w' => e = .returned (.bool (privB p)) ∧ w' = w := by
  have F : Hid (privB p = ((p == 0) || (p == 1) || (p == 3))) := (rfl : privB p = _)
  cases d0 : (p == 0) with
  | true =>
    rw [d0] at F
    go_enter Try.func82, Try.ntmps82
    go_wp2_with fail
    go_ret
    exact ⟨by rw [F.out]; rfl, rfl⟩
  | false =>
    cases d1 : (p == 1) with
    | true =>
      rw [d0, d1] at F
      go_enter Try.func82, Try.ntmps82
      go_wp2_with fail
      go_ret
      exact ⟨by rw [F.out]; rfl, rfl⟩
    | false =>
      rw [d0, d1] at F
      go_enter Try.func82, Try.ntmps82
      go_wp2_with fail
      go_ret
      exact ⟨by rw [F.out]; rfl, rfl⟩

/-- Who may reach a register by its number. -/
def reachB (n p : Int) : Bool := privB p && decide (bits .and .i64 (n / 256) 3 ≤ p)

theorem mayReach_any (n p : Int) (w : World) : Calls Try.prog 45 #[.int .i64 n, .int .i64 p] w fun e w' => e = .returned (.bool (reachB n p)) ∧ w' = w := by
  have HP : Hid (∀ w, Calls Try.prog 82 #[.int .i64 p] w fun e w' => e = .returned (.bool (privB p)) ∧ w' = w) := privOk_any p
  have F : Hid (reachB n p = (privB p && decide (bits .and .i64 (n / 256) 3 ≤ p))) := (rfl : reachB n p = _)
  generalize privB p = q at *
  cases q with
  | false =>
    go_enter Try.func45, Try.ntmps45
    go_wp2_with fail
    refine (HP.out _).mono ?_
    rintro e w1 ⟨rfl, hw1⟩
    subst hw1
    go_wp2_with fail
    go_ret
    exact ⟨by rw [F.out]; rfl, rfl⟩
  | true =>
    go_enter Try.func45, Try.ntmps45
    go_wp2_with fail
    refine (HP.out _).mono ?_
    rintro e w1 ⟨rfl, hw1⟩
    subst hw1
    go_wp2_with fail
    go_ret
    exact ⟨by rw [F.out]; rfl, rfl⟩

def onlyB (n : Int) : Bool := (bits .and .i64 (n / 1024) 3 == 3)

theorem readOnly_any (n : Int) (w : World) : Calls Try.prog 46 #[.int .i64 n] w fun e w' => e = .returned (.bool (onlyB n)) ∧ w' = w := by
  have F : Hid (onlyB n = (bits .and .i64 (n / 1024) 3 == 3)) := (rfl : onlyB n = _)
  go_enter Try.func46, Try.ntmps46
  go_wp2_with fail
  go_ret
  exact ⟨by rw [F.out]; rfl, rfl⟩

def fixB (n : Int) : Bool := (n == 769) || (n == 3860)

def fixV (n : Int) : Int := if n = 769 then 9223372036856090881 else 0

theorem fixedCsr_any (n : Int) (w : World) : Calls Try.prog 48 #[.int .i64 n] w fun e w' => e = .returned (.tuple #[.int .u64 (fixV n), .bool (fixB n)]) ∧ w' = w := by
  by_cases h1 : n = 769
  · subst h1
    go_enter Try.func48, Try.ntmps48
    go_wp2_with fail
    go_ret2
    exact ⟨rfl, rfl⟩
  · by_cases h2 : n = 3860
    · subst h2
      go_enter Try.func48, Try.ntmps48
      go_wp2_with fail
      go_ret2
      exact ⟨rfl, rfl⟩
    · have d1 : (n == 769) = false := by simpa using h1
      have d2 : (n == 3860) = false := by simpa using h2
      have F : Hid (fixV n = 0 ∧ fixB n = false) := ⟨by simp [fixV, h1], by simp [fixB, h1, h2]⟩
      clear h1 h2
      go_enter Try.func48, Try.ntmps48
      go_wp2_with fail
      go_ret2
      exact ⟨by rw [F.out.1, F.out.2]; rfl, rfl⟩

end Go.Proofs.Ytgcbdlfljplkbab
