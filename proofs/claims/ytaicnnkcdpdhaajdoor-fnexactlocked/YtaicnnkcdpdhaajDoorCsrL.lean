/- impl.CsrsOk. -/
import Derived.Test.YtaicnnkcdpdhaajDoorCsrK
import Derived.Deep.RegionHeld3
namespace Go.Proofs.YtaicnnkcdpdhaajDoor
open Go.RowKit
set_option linter.unusedVariables false

/-- From register k on, n being left. -/
def fitsRest (l : List Int) : Nat → Nat → Bool
  | 0, _ => true
  | n + 1, k => (fitV (ckAt k).2 (l.getD k 0) == l.getD k 0) && fitsRest l n (k + 1)

def fitsOk (n : Nat) (l : List Int) : Bool := decide (n = 22) && fitsRest l 22 0

theorem fitsRest_yes (l : List Int) (k : Nat) (hk : k < 22) (h : (fitV (ckAt k).2 (l.getD k 0) == l.getD k 0) = true) : fitsRest l (22 - k) k = fitsRest l (22 - (k + 1)) (k + 1) := by
  rw [show 22 - k = (22 - (k + 1)) + 1 from by omega, fitsRest, h, Bool.true_and]

theorem fitsRest_no (l : List Int) (k : Nat) (hk : k < 22) (h : (fitV (ckAt k).2 (l.getD k 0) == l.getD k 0) = false) : fitsRest l (22 - k) k = false := by
  rw [show 22 - k = (22 - (k + 1)) + 1 from by omega, fitsRest, h, Bool.false_and]

theorem csrRow_size : (Tryd.prog.info? 49).map (·.size) = some 2 := by kernel_rfl

theorem csrRow_one (n : Int) (t : Nat) (v : Value) : (#[Value.int .i64 n, .iface t v] : Array Value).all (·.oneCell') = true := by
  simp [Value.oneCell']

theorem fit_found (k : CK) (w : World) : (method 190 k.ty k.val "loop.example/g00134/impl.fit").run Tryd.prog w = .ok (k.fitF, k.val) w := by cases k <;> kernel_rfl

theorem enters_g {n : Nat} (h : (Tryd.prog.funcs[n]?).map (fun fn => (fn.name == "runtime.NumGoroutine", fn.body.isSome)) = some (false, true)) (args : Array Value) (w : World) : (callFunc n args).run Tryd.prog w = .ok (.enter n args) w := by
  cases hf : Tryd.prog.funcs[n]? with
  | none => rw [hf] at h; cases h
  | some fn =>
    rw [hf] at h
    simp only [Option.map_some, Option.some.injEq, Prod.mk.injEq] at h
    have h1 : fn.name ≠ "runtime.NumGoroutine" := by simpa using h.1
    obtain ⟨c, hc⟩ := Option.isSome_iff_exists.mp h.2
    simp [callFunc, hf, h1, hc, mark]

theorem fit_enters (k : CK) : (Tryd.prog.funcs[k.fitF]?).map (fun fn => (fn.name == "runtime.NumGoroutine", fn.body.isSome)) = some (false, true) := by cases k <;> kernel_rfl

/-- What fit leaves: its answer, and two cells that were there. -/
theorem fit_keeps (k : CK) (x : Int) (h0 : 0 ≤ x) (h1 : x < 18446744073709551616) (w : World) (p q : Addr) (u v : Value) (hp : w.cell? p = some u ∧ w.cell? q = some v) :
    Calls Tryd.prog k.fitF #[k.val, .int .u64 x] w fun e w' => e = .returned (.int .u64 (fitV k x)) ∧ Below w.heap.size w w' ∧ w'.cell? p = some u ∧ w'.cell? q = some v :=
  (fit_any k x h0 h1 w).mono fun e w' h => ⟨h.1, h.2, (h.2.cell (World.block_lt_of_cell? _ _ hp.1)).trans hp.1, (h.2.cell (World.block_lt_of_cell? _ _ hp.2)).trans hp.2⟩

set_option maxRecDepth 100000 in
set_option maxHeartbeats 800000 in
theorem implCsrsOk_any (a : Option Addr) (n cap : Nat) (l : List Int) (w : World) (hz : l.length = n) (hs : Sl .u64 w a l) (hl : ∀ j, 0 ≤ l.getD j 0 ∧ l.getD j 0 < 18446744073709551616) :
    Calls Tryd.prog 17 #[.slice a n cap] w fun e w' => e = .returned (.bool (fitsOk n l)) ∧ Below w.heap.size w w' := by
  by_cases hn : n = 22
  · have hok : fitsOk n l = fitsRest l 22 0 := by simp [fitsOk, hn]
    rw [hok]
    have HZ : Hid (l.length = n) := hz
    have HL : Hid (∀ j, 0 ≤ l.getD j 0 ∧ l.getD j 0 < 18446744073709551616) := hl
    subst hn
    clear hz hok hl
    go_enter Tryd.func17, Tryd.ntmps17
    go_wp2_with fail
    refine (csrRows_T _).mono ?_
    rintro e w1 ⟨T, rfl, HT, hb⟩
    go_wp2_with fail
    go_loopw [9] (fun i wr => ∃ k : Nat, k ≤ 22 ∧ i = .int .i64 k ∧ Hid (fitsRest l (22 - k) k = fitsRest l 22 0) ∧ Below w.heap.size w wr)
      (fun i _ => 22 - (intOf i).toNat)
    case atStart => exact ⟨0, by omega, rfl, (rfl : fitsRest l (22 - 0) 0 = fitsRest l 22 0), hb⟩
    case round =>
      obtain ⟨k, hk, rfl, hf, hbel⟩ := hrel
      by_cases hlt : k < 22
      · obtain ⟨b, off, rfl, hb0, hc⟩ := hs k (by rw [HZ.out]; exact hlt)
        have hx := HL.out k
        obtain ⟨r, hr⟩ : ∃ r, r = ckAt k := ⟨_, rfl⟩
        have HR : Hid (r = ckAt k) := hr
        have Yes : (fitV r.2 (l.getD k 0) == l.getD k 0) = true → Hid (fitsRest l (22 - (k + 1)) (k + 1) = fitsRest l 22 0) := fun h => (fitsRest_yes l k hlt (by rw [← hr]; exact h)).symm.trans hf.out
        have No : (fitV r.2 (l.getD k 0) == l.getD k 0) = false → Hid (fitsRest l 22 0 = false) := fun h => hf.out.symm.trans (fitsRest_no l k hlt (by rw [← hr]; exact h))
        have YES : Hid ((fitV r.2 (l.getD k 0) == l.getD k 0) = true → Hid (fitsRest l (22 - (k + 1)) (k + 1) = fitsRest l 22 0)) := Yes
        have NO : Hid ((fitV r.2 (l.getD k 0) == l.getD k 0) = false → Hid (fitsRest l 22 0 = false)) := No
        clear hr Yes No
        have dk : decide ((k : Int) < 22) = true := by simp; omega
        have hk0 : (0 : Int) ≤ (k : Int) := by omega
        have hk1 : (k : Int) < 22 := by omega
        have mf := fit_found r.2
        have en := enters_g (fit_enters r.2)
        have hcx : wr.cell? ⟨b, off + k, none⟩ = some (.int .u64 (l.getD k 0)) := (hbel.cell (by exact hb0)).trans hc
        generalize l.getD k 0 = x at *
        go_wp2_with (first | refine wpList_indexC HT .i64 k hlt r HR rfl (.tmp 8) (.tmp 9) rfl rfl rfl ?_)
        go_region_held3 (fun w' => w'.cell? ⟨wr.heap.size, 1, none⟩ = some (.iface r.2.ty r.2.val) ∧ w'.cell? ⟨b, off + k, none⟩ = some (.int .u64 x)) (go_keep) (first | (refine (fit_keeps r.2 x hx.1 hx.2 _ ⟨wr.heap.size, 1, none⟩ ⟨b, off + k, none⟩ (.iface r.2.ty r.2.val) (.int .u64 x) ?_).mono ?_; (first | assumption | (simp [*])); rintro e w2 ⟨rfl, hb2, hp2, hq2⟩))
        have B2 : Hid (Below w.heap.size w w2) := by
          show Below _ _ _
          refine below_trans (w1 := (wr.alloc (Obj.cells #[.int .i64 r.1, .iface r.2.ty r.2.val] 49)).drew) ?_ hb2
          exact (hbel.alloc hbel.size _).drew
        clear hb2 hp2 hq2 mf en
        obtain ⟨y, hy⟩ : ∃ y, fitV r.2 x = y := ⟨_, rfl⟩
        rw [hy] at YES NO ⊢
        clear hy
        cases d : (y == x) with
        | true =>
          have F := YES.out d
          have d2 : (y != x) = false := by simp [bne, d]
          clear YES NO d
          rw [d2]
          go_wp2_with fail
          go_roundw
          case rel => exact ⟨k + 1, by omega, by go_num, F, B2.out⟩
          case measure => simp [intOf]; omega
        | false =>
          have F := NO.out d
          have d2 : (y != x) = true := by simp [bne, d]
          clear YES NO d
          rw [d2]
          go_wp2_with fail
          go_ret
          exact ⟨by rw [F.out]; rfl, B2.out⟩
      · have hk2 : k = 22 := by omega
        subst hk2
        have F : Hid (fitsRest l 22 0 = true) := hf.out.symm
        go_wp2_with fail
        go_ret
        exact ⟨by rw [F.out]; rfl, hbel⟩
  · have F : Hid (fitsOk n l = false) := by show _ = _; simp [fitsOk, hn]
    have d : ((n : Int) != 22) = true := by simp; omega
    clear hz hs
    go_enter Tryd.func17, Tryd.ntmps17
    go_wp2_with fail
    go_ret
    exact ⟨by rw [F.out]; rfl, Below.refl _ _⟩

end Go.Proofs.YtaicnnkcdpdhaajDoor
