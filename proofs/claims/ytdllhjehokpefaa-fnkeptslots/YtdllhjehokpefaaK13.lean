/- Own lemmas. -/
import Derived.Test.YtdllhjehokpefaaK01
import Derived.ChangeMaps5
namespace Go.Proofs.Ytdllhjehokpefaa
open Go.RowKit
set_option linter.unusedVariables false

theorem kindOk_s (k : Int) (w : World) : Calls Try.prog 31 #[.int .i64 k] w fun e w' => e = .returned (.bool (decide (1 ≤ k ∧ k ≤ 3))) ∧ w' = w := by
  obtain ⟨t, ht⟩ : ∃ t, decide (1 ≤ k ∧ k ≤ 3) = t := ⟨_, rfl⟩
  rw [ht]
  cases e1 : (k == 1)
  · cases e2 : (k == 2)
    · cases e3 : (k == 3)
      · have F := dhid (show t = false by rw [← ht]; simp at e1 e2 e3; simp; omega)
        clear ht
        go_enter Try.func31, Try.ntmps31
        go_wp2_with fail
        go_ret
        exact ⟨by rw [F.out]; rfl, rfl⟩
      · have F := dhid (show t = true by rw [← ht]; simp at e1 e2 e3; simp; omega)
        clear ht
        go_enter Try.func31, Try.ntmps31
        go_wp2_with fail
        go_ret
        exact ⟨by rw [F.out]; rfl, rfl⟩
    · have F := dhid (show t = true by rw [← ht]; simp at e1 e2; simp; omega)
      clear ht
      go_enter Try.func31, Try.ntmps31
      go_wp2_with fail
      go_ret
      exact ⟨by rw [F.out]; rfl, rfl⟩
  · have F := dhid (show t = true by rw [← ht]; simp at e1; simp; omega)
    clear ht
    go_enter Try.func31, Try.ntmps31
    go_wp2_with fail
    go_ret
    exact ⟨by rw [F.out]; rfl, rfl⟩

theorem keptPriv_any (p : Int) (w : World) : Calls Try.prog 32 #[.int .i64 p] w fun e w' => e = .returned (.bool (decide (0 ≤ p ∧ p ≤ 1))) ∧ w' = w := by
  obtain ⟨t, ht⟩ : ∃ t, decide (0 ≤ p ∧ p ≤ 1) = t := ⟨_, rfl⟩
  rw [ht]
  cases e1 : (p == 0)
  · cases e2 : (p == 1)
    · have F := dhid (show t = false by rw [← ht]; simp at e1 e2; simp; omega)
      clear ht
      go_enter Try.func32, Try.ntmps32
      go_wp2_with fail
      go_ret
      exact ⟨by rw [F.out]; rfl, rfl⟩
    · have F := dhid (show t = true by rw [← ht]; simp at e1 e2; simp; omega)
      clear ht
      go_enter Try.func32, Try.ntmps32
      go_wp2_with fail
      go_ret
      exact ⟨by rw [F.out]; rfl, rfl⟩
  · have F := dhid (show t = true by rw [← ht]; simp at e1; simp; omega)
    clear ht
    go_enter Try.func32, Try.ntmps32
    go_wp2_with fail
    go_ret
    exact ⟨by rw [F.out]; rfl, rfl⟩

theorem key_size : (Try.prog.info? 57).map (·.size) = some 3 := by kernel_rfl

def keyV (k p g : Int) : Value := .agg #[.int .i64 k, .int .i64 p, .int .u64 g]

theorem slotKey_any (s : Slt) (w : World) : Calls Try.prog 55 #[s.v] w fun e w' => e = .returned (keyV s.k s.p s.g) ∧ Below w.heap.size w w' := by
  obtain ⟨u, k, p, g, f⟩ := s
  simp only [Slt.v, keyV]
  go_enter Try.func55, Try.ntmps55
  go_wp2_with fail
  exact bodyPost_ret (results_cell_row Try.results55 _ _ _ _ _ _ _ rfl (rows2 (Below.refl _ _)).2 Try.underlying57 rfl key_size) rfl ⟨rfl, ((Below.refl _ _).alloc (Nat.le_refl _) _).alloc (by simp) _⟩

theorem keyPlace_any (k p g : Int) (hk : 1 ≤ k ∧ k ≤ 3) (hp : 0 ≤ p ∧ p ≤ 1) (h0 : 0 ≤ g) (h1 : g < 4503599627370496) (w : World) :
    Calls Try.prog 34 #[keyV k p g] w fun e w' => e = .returned (.int .u64 (plS k p g)) ∧ Below w.heap.size w w' := by
  unfold plS keyV
  go_enter Try.func34, Try.ntmps34
  go_wp2_with fail
  go_ret
  exact ⟨rfl, (Below.refl _ _).alloc (Nat.le_refl _) _⟩

set_option maxRecDepth 100000 in
set_option maxHeartbeats 1600000 in
theorem okAt_any (s : Slt) (i : Int) (hi : 0 ≤ i ∧ i ≤ 15) (hs : (0 ≤ s.g ∧ s.g ≤ 18446744073709551615) ∧ (0 ≤ s.f ∧ s.f ≤ 18446744073709551615)) (w : World) :
    Calls Try.prog 41 #[s.v, .int .u64 i] w fun e w' => e = .returned (.bool (okS s i)) ∧ Below w.heap.size w w' := by
  have hB : ∀ o, Below w.heap.size w (w.alloc o) := fun o => (Below.refl _ _).alloc (Nat.le_refl _) o
  have HK := dhid (fun w => slotKey_any s w)
  obtain ⟨u, k, p, g, f⟩ := s
  dsimp only at hs
  obtain ⟨⟨g0, g1⟩, f0, f1⟩ := hs
  dsimp only [Slt.v, keyV] at HK ⊢
  obtain ⟨t, ht⟩ : ∃ t, okS ⟨u, k, p, g, f⟩ i = t := ⟨_, rfl⟩
  rw [ht]
  cases u
  case false =>
    have dn := dhid (show decide ((⟨false, k, p, g, f⟩ : Slt) = slt0) = t by rw [← ht]; rfl)
    clear ht
    go_enter Try.func41, Try.ntmps41
    go_wp2_with (refine wpList_eqlSlt (s := ⟨false, k, p, g, f⟩) (t := slt0) rfl (.tmp 8) (.tmp 9) _ rfl rfl rfl _ dn.out ?_)
    go_ret
    exact ⟨rfl, hB _⟩
  have H1 := dhid (kindOk_s k)
  have H2 := dhid (keptPriv_any p)
  have OK : okS ⟨true, k, p, g, f⟩ i = okU ⟨true, k, p, g, f⟩ i := rfl
  rw [OK, okU] at ht
  dsimp only at ht
  clear OK
  cases t1 : decide (1 ≤ k ∧ k ≤ 3)
  case false =>
    rw [t1] at H1 ht
    have F := dhid (show t = false by rw [← ht]; rfl)
    clear ht t1
    go_enter Try.func41, Try.ntmps41
    go_wp2_with (first | (go_at_call 31; refine (H1.out _).mono ?_; rintro e w1 ⟨rfl, rfl⟩))
    go_ret
    exact ⟨by rw [F.out]; rfl, hB _⟩
  cases t2 : decide (0 ≤ p ∧ p ≤ 1)
  case false =>
    rw [t1] at H1 ht
    rw [t2] at H2 ht
    have F := dhid (show t = false by rw [← ht]; rfl)
    clear ht t1 t2
    go_enter Try.func41, Try.ntmps41
    go_wp2_with (first | (go_at_call 31; refine (H1.out _).mono ?_; rintro e w1 ⟨rfl, rfl⟩) | (go_at_call 32; refine (H2.out _).mono ?_; rintro e w1 ⟨rfl, rfl⟩))
    go_ret
    exact ⟨by rw [F.out]; rfl, hB _⟩
  have k12 : 1 ≤ k ∧ k ≤ 3 := of_decide_eq_true t1
  have p12 : 0 ≤ p ∧ p ≤ 1 := of_decide_eq_true t2
  rw [t1] at H1 ht
  rw [t2] at H2 ht
  clear t1 t2
  cases t3 : decide (g < 4503599627370496)
  case false =>
    rw [t3] at ht
    have F := dhid (show t = false by rw [← ht]; rfl)
    clear ht k12 p12
    go_enter Try.func41, Try.ntmps41
    go_wp2_with (first | (go_at_call 31; refine (H1.out _).mono ?_; rintro e w1 ⟨rfl, rfl⟩) | (go_at_call 32; refine (H2.out _).mono ?_; rintro e w1 ⟨rfl, rfl⟩))
    go_ret
    exact ⟨by rw [F.out]; rfl, hB _⟩
  cases t4 : decide (f < 4503599627370496)
  case false =>
    rw [t3, t4] at ht
    have F := dhid (show t = false by rw [← ht]; rfl)
    clear ht k12 p12
    go_enter Try.func41, Try.ntmps41
    go_wp2_with (first | (go_at_call 31; refine (H1.out _).mono ?_; rintro e w1 ⟨rfl, rfl⟩) | (go_at_call 32; refine (H2.out _).mono ?_; rintro e w1 ⟨rfl, rfl⟩))
    go_ret
    exact ⟨by rw [F.out]; rfl, hB _⟩
  have HP := dhid (fun w => keyPlace_any k p g k12 p12 g0 (of_decide_eq_true t3) w)
  dsimp only [keyV] at HP
  rw [t3, t4] at ht
  have PB := plS_bd k p g
  obtain ⟨q, hq⟩ : ∃ q, plS k p g = q := ⟨_, rfl⟩
  rw [hq] at HP ht PB
  have ht' : (q == i) = t := by rw [← ht]; rfl
  clear ht k12 p12 hq
  go_enter Try.func41, Try.ntmps41
  go_wp2_with (first | (go_at_call 31; refine (H1.out _).mono ?_; rintro e w1 ⟨rfl, rfl⟩) | (go_at_call 32; refine (H2.out _).mono ?_; rintro e w1 ⟨rfl, rfl⟩) | (go_at_call 55; refine (HK.out _).mono ?_; rintro e w2 ⟨rfl, hb2⟩) | (go_at_call 34; refine (HP.out _).mono ?_; rintro e w3 ⟨rfl, hb3⟩))
  go_ret
  exact ⟨rfl, below_trans (below_trans (hB _) hb2) hb3⟩

set_option maxRecDepth 100000 in
set_option maxHeartbeats 1600000 in
theorem implCacheOk_any (a : Option Addr) (n cap : Nat) (ss : List Slt) (w : World) (hz : ss.length = n) (hn : n ≤ 1048576) (hw : Sw ss) (hs : Ss w a ss) :
    Calls Try.prog 18 #[.agg #[.slice a n cap]] w fun e w' => e = .returned (.bool (cacheB ss)) ∧ Below w.heap.size w w' := by
  have HZ : Hid (ss.length = n) := hz
  by_cases h16 : n = 16
  case neg =>
    have F := dhid (show cacheB ss = false by simp [cacheB]; intro h; omega)
    have d : ((n : Int) != 16) = true := by simp; omega
    clear h16 hz hs hw
    go_enter Try.func18, Try.ntmps18
    go_wp2_with fail
    go_ret
    exact ⟨by rw [F.out]; rfl, (Below.refl _ _).alloc (Nat.le_refl _) _⟩
  subst h16
  have HS := dhid hs
  have HW := dhid hw
  clear hz hs hw
  go_enter Try.func18, Try.ntmps18
  go_wp2_with fail
  obtain ⟨W, hW⟩ : ∃ W, W = w.alloc (.cells #[.slice a 16 cap] 26) := ⟨_, rfl⟩
  rw [← hW]
  have BW := dhid (show Below w.heap.size w W by rw [hW]; exact (Below.refl _ _).alloc (Nat.le_refl _) _)
  clear hW
  go_loopw [12] (fun i wr => ∃ k : Nat, k ≤ 16 ∧ i = .int .i64 k ∧ Hid (okTo ss k = true) ∧ Below W.heap.size W wr) (fun i _ => 16 - (intOf i).toNat)
  case atStart => exact ⟨0, by omega, rfl, rfl, Below.refl _ _⟩
  case round =>
    obtain ⟨k, hk, rfl, hok, hbel⟩ := hrel
    by_cases hlt : k < 16
    · obtain ⟨s, hss⟩ : ∃ s, ss.getD k slt0 = s := ⟨_, rfl⟩
      obtain ⟨b, off, rfl, hb, c0, c1, c2, c3, c4⟩ := ((HS.out.below BW.out).below hbel).at k (by have := HZ.out; omega) s hss
      have gb : (0 ≤ s.g ∧ s.g ≤ 18446744073709551615) ∧ (0 ≤ s.f ∧ s.f ≤ 18446744073709551615) := by rw [← hss]; exact HW.out.get k
      have NXT := dhid (fun (h : okS s k = true) => show okTo ss (k + 1) = true by rw [okTo_succ, hok.out, hss, h]; rfl)
      have BAD := dhid (fun (h : okS s k = false) => show cacheB ss = false by rw [cacheB, okTo_false hlt (by rw [hss]; exact h), Bool.and_false])
      have HO := dhid (fun w => okAt_any s k (by omega) gb w)
      have HB := dhid hbel
      have HB2 := dhid (below_trans BW.out hbel)
      obtain ⟨t, ht⟩ : ∃ t, okS s k = t := ⟨_, rfl⟩
      rw [ht] at NXT BAD HO
      obtain ⟨u, kk, p, g, f⟩ := s
      dsimp only [Slt.v] at c0 c1 c2 c3 c4 HO
      clear hss hok hbel hb gb ht
      cases t
      · have BD := dhid (BAD.out rfl)
        clear NXT BAD
        go_wp2_with (first | (go_at_call 41; refine (HO.out _).mono ?_; rintro e w1 ⟨rfl, hb1⟩))
        go_ret
        exact ⟨by rw [BD.out]; rfl, below_trans (HB2.out.alloc HB2.out.size _) (hb1.mono (by simp))⟩
      · have NX := dhid (NXT.out rfl)
        clear NXT BAD
        go_wp2_with (first | (go_at_call 41; refine (HO.out _).mono ?_; rintro e w1 ⟨rfl, hb1⟩))
        go_roundw
        case rel => exact ⟨k + 1, by omega, by go_num, NX, below_trans (HB.out.alloc HB.out.size _) (hb1.mono (by simp))⟩
        case measure => simp [intOf]; omega
    · have : k = 16 := by omega
      subst this
      have F := dhid (show cacheB ss = true by rw [cacheB, hok.out, HZ.out]; rfl)
      go_wp2_with fail
      go_ret
      exact ⟨by rw [F.out]; rfl, below_trans BW.out hbel⟩

theorem implNewCache_any (w : World) : Calls Try.prog 17 #[] w fun e w' => ∃ g, e = .returned (.agg #[.slice (some ⟨g, 0, none⟩) 16 16]) ∧
    w'.ownsRow w.heap.size 60 5 (.slice (some ⟨g, 0, none⟩) 16 16) 16 (flatS (List.replicate 16 slt0)) ∧ Below w.heap.size w w' := by
  obtain ⟨i0, hi, hz0, hz1, hz2⟩ := info_parts Try.info60
  have hb2 : i0.bytes * 16 ≤ 281474976710656 := by rw [hz2]; omega
  have hb3 : 16 ≤ maxLen := by unfold maxLen; omega
  clear hz2
  go_enter Try.func17, Try.ntmps17
  go_wp2_with (at_make; refine wpList_make_full _ rfl (.const (.int .i64 16)) (.const (.int .i64 16)) 24 rfl w.heap.size 60 i0 _ 5 Try.underlying24 hi hz0 hz1 .i64 .i64 _ _ 16 rfl rfl rfl rfl hb2 hb3 (by simp) ?_; intro w1 hown hgrow; have r1 := (hgrow.block w.heap.size (by simp) (by simp)).trans (heap_alloc_new _ _); have q0 := row_at1 r1; have f0 := froz r1 0; have HG := dhid hgrow; have HO := dhid hown; have R1 := dhid r1; clear hown hgrow r1)
  have OW : w1.ownsRow w.heap.size 60 5 (.slice (some ⟨w.heap.size + 1, 0, none⟩) 16 16) 16 (flatS (List.replicate 16 slt0)) := by
    rw [← made_flat]; simpa [Value.cells] using HO.out
  have T1 := row_set R1.out 0 (.slice (some ⟨w.heap.size + 1, 0, none⟩) 16 16)
  have O1 := own_far OW ⟨w.heap.size, 0, none⟩ (.slice (some ⟨w.heap.size + 1, 0, none⟩) 16 16) (by intro k hk; simp [Value.ownBlock] at hk; dsimp only; omega)
  have B1 : Below w.heap.size w w1 := ((Below.refl _ _).alloc (Nat.le_refl _) _).grown HG.out (by simp) (by intro k h; cases h)
  exact bodyPost_ret (results_cell_row Try.results17 _ _ _ _ _ _ _ rfl T1 Try.underlying26 rfl cache_size) rfl ⟨_, rfl, O1, B1.setCell (by exact Nat.le_refl _) _⟩

theorem eql_nilS (a : Addr) (n c : Nat) (w : World) : (binOp .eql 24 (.slice (some a) n c) (.slice none 0 0)).run Try.prog w = .ok (.bool false) w := by
  simp only [binOp]
  simp [run_equal_slice_nil w 24 60 (some a) n c Try.underlying24]

set_option maxRecDepth 100000 in
theorem cloneS_any (a : Option Addr) (n cap : Nat) (ss : List Slt) (w : World) (hz : ss.length = n) (hn0 : 0 < n) (hn : n ≤ 1048576) (hs : Ss w a ss) :
    Calls Try.prog 33 #[.slice a n cap] w fun e w' => ∃ g c, e = .returned (.slice (some ⟨g, 0, none⟩) n c) ∧
      w'.ownsRow w.heap.size 60 5 (.slice (some ⟨g, 0, none⟩) n c) n (flatS ss) ∧ Below w.heap.size w w' := by
  obtain ⟨b, off, rfl, _⟩ := hs 0 (by omega)
  have hE := own_empty5 w w.heap.size (Nat.le_refl _) (.cells #[] 60 (0, 0)) rfl
  have HS := dhid (hs.below ((Below.refl _ _).alloc (Nat.le_refl _) (.cells #[] 60 (0, 0))))
  have hnil := eql_nilS ⟨b, off, none⟩ n cap
  clear hs
  go_enter Try.func33, Try.ntmps33
  go_wp2_with (at_builtin; refine wpList_app5 rfl (.tmp 5) (.tmp 6) rfl w.heap.size _ rfl hE (some ⟨b, off, none⟩) n cap ss rfl hz hn0 hn HS.out (by simp) ?_; intro g c w1 ow gr hg; have B1 := dhid (((Below.refl w.heap.size w).alloc (Nat.le_refl _) (.cells #[] 60 (0, 0))).grown gr (by simp) (by intro k hk; cases hk; exact Nat.le_refl _)); have HO := dhid ow; clear gr ow)
  go_ret
  exact ⟨g, c, rfl, HO.out, B1.out⟩

theorem key_stood : Try.prog.stoodInHeld 57 = false := by kernel_rfl

set_option maxHeartbeats 400000 in
theorem run_eqKey (a b c a' b' c' : Int) (w : World) : (Op.equal 57 (keyV a b c) (keyV a' b' c')).run Try.prog w = .ok (a == a' && b == b' && c == c') w := by
  have e1 : Op.equal 57 (keyV a b c) (keyV a' b' c') = Op.equalIn (9999 + 1) 57 (keyV a b c) (keyV a' b' c') := rfl
  rw [e1]
  simp only [keyV]
  rw [run_equalIn_struct w 9999 _ _ _ (by rw [Program.fieldsOf, Try.underlying57]) key_stood]
  simp only [Program.fieldsOf, Try.underlying57]
  have PI : ∀ (k : Nat) (x1 x2 x3 v : Value), (#[x1, x2, x3] : Array Value)[k]? = some v → ∀ w, (part 2 #[x1, x2, x3] k).run Try.prog w = .ok v w := by
    intro k x1 x2 x3 v h w
    simp [part, isAgg, run_underlying Try.underlying2, h]
  have PU : ∀ (k : Nat) (x1 x2 x3 v : Value), (#[x1, x2, x3] : Array Value)[k]? = some v → ∀ w, (part 27 #[x1, x2, x3] k).run Try.prog w = .ok v w := by
    intro k x1 x2 x3 v h w
    simp [part, isAgg, run_underlying Try.underlying27, h]
  have QI : ∀ (x y : Int) (w : World), (Op.equalIn 9999 2 (.int .i64 x) (.int .i64 y)).run Try.prog w = .ok (x == y) w := fun x y w => run_equalIn_int w 9998 2 .i64 .i64 x y Try.underlying2
  have QU : ∀ (x y : Int) (w : World), (Op.equalIn 9999 27 (.int .u64 x) (.int .u64 y)).run Try.prog w = .ok (x == y) w := fun x y w => run_equalIn_int w 9998 27 .u64 .u64 x y Try.underlying27
  simp [Op.eqFields, Sem.run_bind, PI 0 _ _ _ _ rfl, PI 1 _ _ _ _ rfl, PU 2 _ _ _ _ rfl, QI, QU]
  by_cases h1 : a = a' <;> by_cases h2 : b = b' <;> by_cases h3 : c = c' <;> simp [h1, h2, h3]

def fEnt (s : Slt) (i : Nat) : MapEntry := { key := keyV s.k s.p s.g, val := .int .u64 s.f, born := i }

def fEs (l : List Slt) : Array MapEntry := ((l.zipIdx 0).map fun q => fEnt q.1 q.2).toArray

theorem fEs_push (l : List Slt) (s : Slt) : fEs (l ++ [s]) = (fEs l).push (fEnt s l.length) := by
  simp [fEs, List.zipIdx_append]

theorem run_findF (k p g : Int) (w : World) : ∀ (l : List Slt) (m n : Nat),
    (Instr.findAsking 57 (keyV k p g) ((l.zipIdx m).map fun q => fEnt q.1 q.2) n).run Try.prog w = .ok ((l.zipIdx n).findSome? fun q => if (k == q.1.k && p == q.1.p && g == q.1.g) = true then some (q.2, Value.int .u64 q.1.f) else none) w := by
  intro l
  induction l with
  | nil => intro m n; simp [Instr.findAsking]
  | cons s l ih =>
    intro m n
    simp only [List.zipIdx_cons, List.map_cons, fEnt, Instr.findAsking, Sem.run_bind, run_eqKey, Result.andThen_ok, List.findSome?_cons]
    cases h : (k == s.k && p == s.p && g == s.g)
    · simp only [Bool.false_eq_true, if_false]
      exact ih (m + 1) (n + 1)
    · simp

theorem run_findKeyF (k p g : Int) (l : List Slt) (w : World) :
    (Instr.findKey 57 (keyV k p g) (fEs l).toList).run Try.prog w = .ok ((l.zipIdx 0).findSome? fun q => if (k == q.1.k && p == q.1.p && g == q.1.g) = true then some (q.2, Value.int .u64 q.1.f) else none) w := by
  have h := run_findF k p g w l 0 0
  unfold Instr.findKey
  rw [Sem.run_bind, run_underlying Try.underlying57, Result.andThen_ok]
  simp only [fEs]
  cases l with
  | nil => simp [Instr.findNow]
  | cons s l =>
    simp only [List.zipIdx_cons, List.map_cons, Instr.findNow, Instr.sameNow, fEnt, keyV] at h ⊢
    exact h

theorem find_zip (P : Slt → Bool) : ∀ (l : List Slt) (n : Nat), ((l.zipIdx n).findSome? fun q => if P q.1 = true then some (q.2, Value.int .u64 q.1.f) else none) = none ↔ l.find? P = none := by
  intro l
  induction l with
  | nil => intro n; simp
  | cons s l ih =>
    intro n
    simp only [List.zipIdx_cons, List.findSome?_cons, List.find?_cons]
    cases h : P s
    · simpa using ih (n + 1)
    · simp

theorem find_zip_some (P : Slt → Bool) : ∀ (l : List Slt) (n : Nat) (s : Slt), l.find? P = some s → ∃ i, ((l.zipIdx n).findSome? fun q => if P q.1 = true then some (q.2, Value.int .u64 q.1.f) else none) = some (i, Value.int .u64 s.f) := by
  intro l
  induction l with
  | nil => intro n s h; simp at h
  | cons t l ih =>
    intro n s h
    simp only [List.zipIdx_cons, List.findSome?_cons, List.find?_cons] at h ⊢
    cases hp : P t
    · rw [hp] at h
      simpa using ih (n + 1) s h
    · rw [hp] at h
      simp at h
      subst h
      exact ⟨n, by simp⟩

theorem run_checkKeyF (e : Bool) (k p g : Int) (w : World) : (Instr.checkKey e 10000 57 (keyV k p g)).run Try.prog w = .ok () w := by kernel_rfl

theorem run_updF (w : World) (bm : Nat) (l : List Slt) (s : Slt) (hb : w.heap[bm]? = some (.map (fEs l) l.length)) (hnew : ∀ t ∈ l, (s.k == t.k && s.p == t.p && s.g == t.g) = false) :
    (Instr.mapUpdate 66 (.map (some bm)) (keyV s.k s.p s.g) (.int .u64 s.f)).run Try.prog w = .ok () (ChangeMaps.setBlock w bm (.map (fEs (l ++ [s])) (l ++ [s]).length)) := by
  have hf : (Instr.findKey 57 (keyV s.k s.p s.g) (fEs l).toList).run Try.prog w = .ok none w := by
    rw [run_findKeyF, (find_zip (fun t => s.k == t.k && s.p == t.p && s.g == t.g) l 0).2]
    rw [List.find?_eq_none]
    intro t ht
    rw [hnew t ht]
    simp
  rw [fEs_push]
  simp only [keyV] at hf
  have hc := run_checkKeyF
  simp only [keyV] at hc
  simp [keyV, fEnt, Instr.mapUpdate, run_underlying Try.underlying66, MapKept.run_getObj_map hb, hc, hf, MapKept.run_setObj_map _ hb, Result.andThen, ChangeMaps.setBlock]

theorem run_lookF (w : World) (bm : Nat) (l : List Slt) (k p g : Int) (clock : Nat) (hb : w.heap[bm]? = some (.map (fEs l) clock)) :
    (Instr.lookup 66 (.map (some bm)) (keyV k p g) true).run Try.prog w = .ok (.tuple #[.int .u64 (((findS l k p g).map (·.f)).getD 0), .bool (findS l k p g).isSome]) w := by
  have hf := run_findKeyF k p g l w
  have hc := run_checkKeyF
  simp only [keyV] at hf hc ⊢
  cases h : findS l k p g with
  | none =>
    rw [(find_zip (fun t => k == t.k && p == t.p && g == t.g) l 0).2 h] at hf
    simp [Instr.lookup, run_underlying Try.underlying66, MapKept.run_getObj_map hb, hc, hf]
  | some s =>
    obtain ⟨i, hi⟩ := find_zip_some (fun t => k == t.k && p == t.p && g == t.g) l 0 s h
    rw [hi] at hf
    simp [Instr.lookup, run_underlying Try.underlying66, MapKept.run_getObj_map hb, hc, hf]

end Go.Proofs.Ytdllhjehokpefaa
