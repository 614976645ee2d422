/- Own lemmas. -/
import Derived.Test.YtmigfnlfjgkgkaaK02
import Derived.Test.YtmigfnlfjgkgkaaK03
import Derived.Test.YtmigfnlfjgkgkaaK04
import Derived.Test.YtmigfnlfjgkgkaaK06
import Derived.Test.YtmigfnlfjgkgkaaK08
import Derived.Test.YtmigfnlfjgkgkaaK09
import Derived.Deep.Cut
import Derived.Deep.CutRange
namespace Go.Proofs.Ytmigfnlfjgkgkaa
open Go.RowKit
set_option linter.unusedVariables false

def rawC (vx vc vr : Value) : Array Value := #[.int .u64 2147483648, vx, .int .i64 3, vc, vr, .int .u64 0, .int .u64 0, .bool false, .slice none 0 0, .slice none 0 0, .int .i64 0, .int .u64 0, .bool false, .bool false]

def Zs (B : Nat) (W : World) (m : Nat) (v : Value) : Prop := ∃ a, v = .slice a m m ∧ W.ownsRow B 24 1 (.slice a m m) m ((List.replicate m (0 : Int)).map (Value.int .u64))

structure Nm3 (B n : Nat) (ram : List Int) (W : World) (vx vc vr : Value) : Prop where
  x : Zs B W 32 vx
  c : Zs B W 22 vc
  r : W.ownsRow B 5 1 vr n (ram.map (Value.int .u8))

def nmV (B n cap : Nat) (ad : Addr) (ram : List Int) (W : World) : Nat → List Value → Prop
  | 0, [v] => Zs B W 32 v
  | 1, [v] => Zs B W 22 v
  | 2, [v] => ∃ g, v = .slice (some ⟨g, 0, none⟩) 0 0 ∧ W.ownsRow 0 5 1 (.slice (some ⟨g, 0, none⟩) 0 0) 0 []
  | 3, [v] => v = .slice (some ad) n cap
  | 4, [v] => W.ownsRow B 5 1 v n (ram.map (Value.int .u8))
  | 5, [v] => ∃ vx vc vr, v = .agg (rawC vx vc vr) ∧ Nm3 B n ram W vx vc vr
  | 6, [v] => ∃ r cs, v = .pointer (some ⟨r, 0, none⟩) ∧ B ≤ r ∧ W.heap[r]? = some (.cells cs 29 (0, 0)) ∧ cs.size = 14
  | 7, [p] => ∃ r vx vc vr, p = .pointer (some ⟨r, 0, none⟩) ∧ B ≤ r ∧ W.heap[r]? = some (.cells (rawC vx vc vr) 29 (0, 0)) ∧ Nm3 B n ram W vx vc vr
  | _, _ => True

def nmD : Nat → List Nat
  | 7 => [6]
  | i => [i]

theorem raw_built3 (ax ac ar : Option Addr) (n cr : Nat) : Try.prog.built 29 [(0, .int .u64 2147483648), (1, .slice ax 32 32), (2, .int .i64 3), (3, .slice ac 22 22), (4, .slice ar n cr)] = some (rawC (.slice ax 32 32) (.slice ac 22 22) (.slice ar n cr)) := by kernel_rfl

theorem wp_of_wanted {P : Program} {o : Oper} {a : Act} {W : World} {K : Act → World → Prop} {Q : Exit → Act → World → Prop} (ys : Nat → Option Bool) (hw : Region.wanted o ys = true) (h : if Region.wanted o ys = true then Oper.wp P o a W K Q else K (a.put o.dst undef) W) : o.wp P a W K Q := by
  rwa [if_pos hw] at h

theorem own_kept {W W' : World} {B n : Nat} {t : TypeId} {v : Value} {xs : List Value} (h : W.ownsRow B t 1 v n xs) (hk : ∀ (g : Nat) (cs : Array Value), W.heap[g]? = some (.cells cs t (0, 0)) → W'.heap[g]? = some (.cells cs t (0, 0))) : W'.ownsRow B t 1 v n xs := by
  refine ⟨h.1, ?_⟩
  rcases h.2 with h1 | ⟨g, cap, cur, e1, e2, e3, e4⟩
  · exact .inl h1
  · exact .inr ⟨g, cap, cur, e1, e2, hk g cur e3, e4⟩

theorem Zs.kept {B m : Nat} {W W' : World} {v : Value} (h : Zs B W m v) (hk : ∀ (g : Nat) (cs : Array Value), W.heap[g]? = some (.cells cs 24 (0, 0)) → W'.heap[g]? = some (.cells cs 24 (0, 0))) : Zs B W' m v := by
  obtain ⟨a, e, h⟩ := h
  exact ⟨a, e, own_kept h hk⟩

theorem Nm3.kept {B n : Nat} {ram : List Int} {W W' : World} {vx vc vr : Value} (h : Nm3 B n ram W vx vc vr) (hk : ∀ (g : Nat) (cs : Array Value) (t : TypeId), t ≠ 29 → W.heap[g]? = some (.cells cs t (0, 0)) → W'.heap[g]? = some (.cells cs t (0, 0))) : Nm3 B n ram W' vx vc vr :=
  ⟨h.x.kept (fun g cs => hk g cs _ (by decide)), h.c.kept (fun g cs => hk g cs _ (by decide)), own_kept h.r (fun g cs => hk g cs _ (by decide))⟩

theorem nmV_kept {B n cap : Nat} {ad : Addr} {ram : List Int} {W W' : World} (hk : ∀ (g : Nat) (cs : Array Value) (t : TypeId), t ≠ 29 → W.heap[g]? = some (.cells cs t (0, 0)) → W'.heap[g]? = some (.cells cs t (0, 0))) (hm : ∀ (g : Nat) (cs : Array Value), W.heap[g]? = some (.cells cs 29 (0, 0)) → ∃ ds : Array Value, W'.heap[g]? = some (.cells ds 29 (0, 0)) ∧ ds.size = cs.size ∧ (ds = cs ∨ ∃ vx vc vr, ds = rawC vx vc vr ∧ Nm3 B n ram W' vx vc vr)) :
    ∀ j l, nmV B n cap ad ram W j l → nmV B n cap ad ram W' j l := by
  intro j l h
  unfold nmV at h ⊢
  split
  · exact h.kept (fun g cs => hk g cs _ (by decide))
  · exact h.kept (fun g cs => hk g cs _ (by decide))
  · obtain ⟨g, e, h⟩ := h
    exact ⟨g, e, own_kept h (fun g cs => hk g cs _ (by decide))⟩
  · exact h
  · exact own_kept h (fun g cs => hk g cs _ (by decide))
  · obtain ⟨vx, vc, vr, e, h⟩ := h
    exact ⟨vx, vc, vr, e, h.kept hk⟩
  · obtain ⟨r, cs, e, hB, hr, hs⟩ := h
    obtain ⟨ds, h1, h2, _⟩ := hm r cs hr
    exact ⟨r, ds, e, hB, h1, by omega⟩
  · obtain ⟨r, vx, vc, vr, e, hB, hr, hs⟩ := h
    obtain ⟨ds, h1, h2, h3⟩ := hm r _ hr
    rcases h3 with rfl | ⟨vx2, vc2, vr2, rfl, h4⟩
    · exact ⟨r, vx, vc, vr, e, hB, h1, hs.kept hk⟩
    · exact ⟨r, vx2, vc2, vr2, e, hB, h1, h4⟩
  · trivial

theorem nmV_below {B n cap : Nat} {ad : Addr} {ram : List Int} {W W' : World} (hb : Below W.heap.size W W') : ∀ j l, nmV B n cap ad ram W j l → nmV B n cap ad ram W' j l := by
  have h : ∀ (g : Nat) (o : Obj), W.heap[g]? = some o → W'.heap[g]? = some o := fun g o e => by rw [hb.block g (Array.getElem?_eq_some_iff.1 e).1]; exact e
  exact nmV_kept (fun g cs t _ e => h g _ e) (fun g cs e => ⟨cs, h g _ e, rfl, .inl rfl⟩)

theorem nmV_set {B n cap : Nat} {ad : Addr} {ram : List Int} {W : World} {r : Nat} {cs : Array Value} {vx vc vr : Value} (hr : W.heap[r]? = some (.cells cs 29 (0, 0))) (hs : cs.size = 14) (h3 : Nm3 B n ram W vx vc vr) :
    Nm3 B n ram (W.setRow r (rawC vx vc vr)) vx vc vr ∧ ∀ j l, nmV B n cap ad ram W j l → nmV B n cap ad ram (W.setRow r (rawC vx vc vr)) j l := by
  have hk : ∀ (g : Nat) (ds : Array Value) (t : TypeId), t ≠ 29 → W.heap[g]? = some (.cells ds t (0, 0)) → (W.setRow r (rawC vx vc vr)).heap[g]? = some (.cells ds t (0, 0)) := by
    intro g ds t ht e
    rw [setRow_other W r g _ (fun e2 => ?_)]
    · exact e
    · subst e2
      rw [hr] at e
      simp only [Option.some.injEq, Obj.cells.injEq] at e
      exact ht e.2.1.symm
  have h4 := h3.kept hk
  refine ⟨h4, nmV_kept hk (fun g ds e => ?_)⟩
  by_cases hg : g = r
  · subst hg
    rw [hr] at e
    simp only [Option.some.injEq, Obj.cells.injEq, and_true] at e
    subst e
    exact ⟨_, setRow_heap _ _ _ _ _ _ hr, by rw [hs]; rfl, .inr ⟨vx, vc, vr, rfl, h4⟩⟩
  · exact ⟨ds, by rw [setRow_other W r g _ hg]; exact e, rfl, .inl rfl⟩

theorem own_shape3 {B n : Nat} {t : TypeId} {W : World} {v : Value} {xs : List Value} (h : W.ownsRow B t 1 v n xs) : ∃ a c, v = .slice a n c := by
  rcases h.2 with ⟨e1, e0⟩ | ⟨g, cap, cur, e1, _⟩
  · exact ⟨none, 0, by rw [e1, e0]⟩
  · exact ⟨_, _, e1⟩

theorem Nm3.one {B n : Nat} {ram : List Int} {W : World} {vx vc vr : Value} (h : Nm3 B n ram W vx vc vr) : (rawC vx vc vr).all (·.oneCell') = true := by
  obtain ⟨ax, rfl, _⟩ := h.x
  obtain ⟨ac, rfl, _⟩ := h.c
  obtain ⟨ar, cr, rfl⟩ := own_shape3 h.r
  kernel_rfl

theorem own_at {B n c k : Nat} {t : TypeId} {W : World} {a : Option Addr} {xs : List Value} (h : W.ownsRow B t 1 (.slice a n c) n xs) (hk : (Value.slice a n c).ownBlock = some k) : ∃ cs, W.heap[k]? = some (.cells cs t (0, 0)) ∧ cs.size = c := by
  rcases h.2 with ⟨e1, _⟩ | ⟨g, cap, cur, e1, _, hh, _, _, hs, _⟩
  · rw [e1] at hk; cases hk
  · cases e1
    cases hk
    exact ⟨cur, hh, by omega⟩

theorem Nm3.fam {B n : Nat} {ram : List Int} {W : World} {vx vc vr : Value} {r : Nat} {cs : Array Value} (h : Nm3 B n ram W vx vc vr) (hr : W.heap[r]? = some (.cells cs 29 (0, 0))) :
    ∃ C : MA, vx = .slice C.ax 32 C.cx ∧ vc = .slice C.ac 22 C.cc ∧ vr = .slice C.ar n C.cr ∧ C.ai = none ∧ C.ci = 0 ∧ C.ao = none ∧ C.co = 0 ∧ Fam B W.heap.size W [wRow C.ax 32 C.cx (List.replicate 32 0), wRow C.ac 22 C.cc (List.replicate 22 0), bRow C.ar n C.cr ram, bRow none 0 0 [], bRow none 0 0 []] ∧ (∀ q ∈ [wRow C.ax 32 C.cx (List.replicate 32 0), wRow C.ac 22 C.cc (List.replicate 22 0), bRow C.ar n C.cr ram, bRow none 0 0 [], bRow none 0 0 []], q.v.ownBlock ≠ some r) := by
  obtain ⟨ax, rfl, hx⟩ := h.x
  obtain ⟨ac, rfl, hc⟩ := h.c
  obtain ⟨ar, cr, e⟩ := own_shape3 h.r
  have hb := h.r
  rw [e] at hb
  have ht : ∀ (k : Nat) (cs ds : Array Value) (t u : TypeId), W.heap[k]? = some (.cells cs t (0, 0)) → W.heap[k]? = some (.cells ds u (0, 0)) → t = u ∧ cs = ds := by
    intro k cs ds t u h1 h2
    rw [h1] at h2
    simp only [Option.some.injEq, Obj.cells.injEq] at h2
    exact ⟨h2.2.1, h2.1⟩
  have kx := fun k => own_at (k := k) hx
  have kc := fun k => own_at (k := k) hc
  have kb := fun k => own_at (k := k) hb
  have lt : ∀ (k : Nat) (cs : Array Value) (t : TypeId), W.heap[k]? = some (.cells cs t (0, 0)) → k < W.heap.size := fun k cs t h => (Array.getElem?_eq_some_iff.1 h).1
  refine ⟨⟨ax, 32, ac, 22, ar, cr, none, 0, none, 0⟩, rfl, rfl, e, rfl, rfl, rfl, rfl, ⟨fun q hq => ?_, fun q hq k ek => ?_, ?_⟩, fun q hq er => ?_⟩
  · simp only [List.mem_cons, List.not_mem_nil, or_false] at hq
    rcases hq with rfl | rfl | rfl | rfl | rfl
    · exact hx
    · exact hc
    · exact hb
    · exact ⟨rfl, .inl ⟨rfl, rfl⟩⟩
    · exact ⟨rfl, .inl ⟨rfl, rfl⟩⟩
  · simp only [List.mem_cons, List.not_mem_nil, or_false] at hq
    rcases hq with rfl | rfl | rfl | rfl | rfl
    · obtain ⟨_, h1, _⟩ := kx k ek; exact lt _ _ _ h1
    · obtain ⟨_, h1, _⟩ := kc k ek; exact lt _ _ _ h1
    · obtain ⟨_, h1, _⟩ := kb k ek; exact lt _ _ _ h1
    · cases ek
    · cases ek
  · simp only [List.pairwise_cons, List.mem_cons, List.not_mem_nil, or_false]
    refine ⟨fun s hs k e1 e2 => ?_, fun s hs k e1 e2 => ?_, fun s hs k e1 e2 => ?_, fun s hs k e1 => (by cases e1), fun s hs => hs.elim, List.Pairwise.nil⟩
    · obtain ⟨_, h1, h2⟩ := kx k e1
      rcases hs with rfl | rfl | rfl | rfl
      · obtain ⟨_, h3, h4⟩ := kc k e2
        rw [(ht _ _ _ _ _ h1 h3).2] at h2
        omega
      · obtain ⟨_, h3, h4⟩ := kb k e2
        exact absurd (ht _ _ _ _ _ h1 h3).1 (by decide)
      · cases e2
      · cases e2
    · obtain ⟨_, h1, h2⟩ := kc k e1
      rcases hs with rfl | rfl | rfl
      · obtain ⟨_, h3, h4⟩ := kb k e2
        exact absurd (ht _ _ _ _ _ h1 h3).1 (by decide)
      · cases e2
      · cases e2
    · rcases hs with rfl | rfl
      · cases e2
      · cases e2
  · simp only [List.mem_cons, List.not_mem_nil, or_false] at hq
    rcases hq with rfl | rfl | rfl | rfl | rfl
    · obtain ⟨_, h1, _⟩ := kx r er; exact absurd (ht _ _ _ _ _ h1 hr).1 (by decide)
    · obtain ⟨_, h1, _⟩ := kc r er; exact absurd (ht _ _ _ _ _ h1 hr).1 (by decide)
    · obtain ⟨_, h1, _⟩ := kb r er; exact absurd (ht _ _ _ _ _ h1 hr).1 (by decide)
    · cases er
    · cases er

set_option maxRecDepth 100000 in
set_option maxHeartbeats 12800000 in
theorem specNewMachine_any (ad : Option Addr) (n cap : Nat) (ram : List Int) (w : World) (hz : ram.length = n) (hn : n ≤ 1048576) (hs : Sl .u8 w ad ram) :
    Calls Try.prog 44 #[.slice ad n cap] w fun e w' => ∃ C : MA, e = .returned (.tuple #[.agg (mvc (newM ram) C), .bool (ramOkB n)]) ∧ Fam w.heap.size w'.heap.size w' (mvF (newM ram) C) ∧ Below w.heap.size w w' := by
  have B0 : Below w.heap.size w (w.alloc (.cells #[.int .u64 0, .slice none 0 0, .int .i64 0, .slice none 0 0, .slice none 0 0, .int .u64 0, .int .u64 0, .bool false, .slice none 0 0, .slice none 0 0, .int .i64 0, .int .u64 0, .bool false, .bool false] 29)) := (Below.refl _ _).alloc (Nat.le_refl _) _
  have rb : (w.alloc (.cells #[.int .u64 0, .slice none 0 0, .int .i64 0, .slice none 0 0, .slice none 0 0, .int .u64 0, .int .u64 0, .bool false, .slice none 0 0, .slice none 0 0, .int .i64 0, .int .u64 0, .bool false, .bool false] 29)).heap[w.heap.size]? = some (.cells #[.int .u64 0, .slice none 0 0, .int .i64 0, .slice none 0 0, .slice none 0 0, .int .u64 0, .int .u64 0, .bool false, .slice none 0 0, .slice none 0 0, .int .i64 0, .int .u64 0, .bool false, .bool false] 29) := heap_alloc_new _ _
  obtain ⟨Q, hQ⟩ : ∃ Q : World → Prop, Q = fun W => Below (w.heap.size + 1) (w.alloc (.cells #[.int .u64 0, .slice none 0 0, .int .i64 0, .slice none 0 0, .slice none 0 0, .int .u64 0, .int .u64 0, .bool false, .slice none 0 0, .slice none 0 0, .int .i64 0, .int .u64 0, .bool false, .bool false] 29)) W := ⟨_, rfl⟩
  have PB : Hid (∀ W W', Q W → Below W.heap.size W W' → Q W') := by rw [hQ]; exact fun W W' h hb => h.trans (hb.mono (by have := h.size; simp only [World.size_alloc] at this; omega))
  have PU : Hid (∀ W g, Q W → w.heap.size + 1 ≤ g → ∀ cs, Q (W.setRow g cs)) := by rw [hQ]; exact fun W g h hg => below_row9 h hg
  have PE : Hid (∀ W, Q W → Below w.heap.size w W) := by rw [hQ]; exact fun W h => B0.trans (h.mono (by omega))
  have PZ : Hid (∀ W, Q W → w.heap.size + 1 ≤ W.heap.size) := by rw [hQ]; exact fun W h => by have := h.size; simp only [World.size_alloc] at this; omega
  have PR : Hid (∀ W, Q W → W.heap[w.heap.size]? = some (.cells #[.int .u64 0, .slice none 0 0, .int .i64 0, .slice none 0 0, .slice none 0 0, .int .u64 0, .int .u64 0, .bool false, .slice none 0 0, .slice none 0 0, .int .i64 0, .int .u64 0, .bool false, .bool false] 29)) := by rw [hQ]; exact fun W h => (h.block _ (by omega)).trans rb
  have PK : Hid (∀ W W' L B E, Q W → KeepL L W W' → Fam B E W L → w.heap.size + 1 ≤ B → Q W') := by rw [hQ]; exact fun W W' L B E h k f hB => h.trans ((k.keep f).below hB (by have := h.size; simp only [World.size_alloc] at this; omega))
  have q0 : Q (w.alloc (.cells #[.int .u64 0, .slice none 0 0, .int .i64 0, .slice none 0 0, .slice none 0 0, .int .u64 0, .int .u64 0, .bool false, .slice none 0 0, .slice none 0 0, .int .i64 0, .int .u64 0, .bool false, .bool false] 29)) := by rw [hQ]; exact Below.refl _ _
  have KS : Hid (∀ w', Q w' → Q w') := fun w' h => h
  have HOK : Hid (∀ w, Calls Try.prog 34 #[.slice ad n cap] w fun e w' => e = .returned (.bool (ramOkB n)) ∧ w' = w) := fun w => specRamOk_any _ _ _ w hn
  have HNC : Hid (∀ w, Calls Try.prog 59 #[] w fun e w' => e = .returned (.slice (some ⟨w.heap.size, 0, none⟩) 22 22) ∧ w'.ownsRow w.heap.size 24 1 (.slice (some ⟨w.heap.size, 0, none⟩) 22 22) 22 ((List.replicate 22 (0 : Int)).map (Value.int .u64)) ∧ Below w.heap.size w w') := specNewCsrs_any
  have HLN : Hid (∀ (C : MA) (b B E : Nat) (w' : World), w'.heap[b]? = some (.cells #[.int .u64 2147483648, .slice C.ax 32 C.cx, .int .i64 3, .slice C.ac 22 C.cc, .slice C.ar n C.cr, .int .u64 0, .int .u64 0, .bool false, .slice C.ai 0 C.ci, .slice C.ao 0 C.co, .int .i64 0, .int .u64 0, .bool false, .bool false] 29 (0, 0)) → Fam B E w' (mvF (rawM ram) C) → (∀ q ∈ mvF (rawM ram) C, q.v.ownBlock ≠ some b) → Calls Try.prog 48 #[.pointer (some ⟨b, 0, none⟩)] w' fun e w'' => e = .returned (.tuple #[]) ∧ w''.heap[b]? = some (.cells #[.int .u64 2147483648, .slice C.ax 32 C.cx, .int .i64 3, .slice C.ac 22 C.cc, .slice C.ar n C.cr, .int .u64 0, .int .u64 0, .bool false, .slice C.ai 0 C.ci, .slice C.ao 0 C.co, .int .i64 0, .int .u64 0, .bool false, .bool false] 29 (0, 0)) ∧ Fam B E w'' (mvF (lineM (rawM ram)) C) ∧ KeepL (mvF (rawM ram) C) w' w'') := fun C b B E w' hr hf hb => by
    subst hz
    have h2 := l9Line_any (rawM ram) C b B E w' rfl (raw_len ram hn) hr hf hb
    rw [mvc_line] at h2
    exact h2
  have HMV : Hid (∀ C : MA, mvc (lineM (rawM ram)) C = #[.int .u64 2147483648, .slice C.ax 32 C.cx, .int .i64 3, .slice C.ac 22 C.cc, .slice C.ar n C.cr, .int .u64 0, .int .u64 0, .bool false, .slice C.ai 0 C.ci, .slice C.ao 0 C.co, .int .i64 0, .int .u64 0, .bool false, .bool false]) := fun C => by subst hz; exact (mvc_line (rawM ram) C).trans rfl
  obtain ⟨V, hV⟩ : ∃ V, V = newM ram := ⟨_, rfl⟩
  rw [← hV]
  clear hQ rb
  cases hok : ramOkB n with
  | false =>
    have F : Hid (V = zeroM) := by show _ = _; rw [hV]; unfold newM; rw [hz, hok]; rfl
    rw [hok] at HOK
    clear HNC HLN hV HMV hs hz hn hok
    go_enter Try.func44, Try.ntmps44
    go_wp2_with fail
    refine (HOK.out _).mono ?_
    rintro e w1 ⟨rfl, hw1⟩
    subst hw1
    go_wp2_with fail
    exact bodyPost_ret (results_ct8 Try.results44 _ _ _ _ _ _ _ rfl (PR.out _ q0) Try.underlying29 rfl mac_size) rfl ⟨zeroA, by rw [F.out]; rfl, by rw [F.out]; exact fam_zeroM _ _ _, PE.out _ q0⟩
  | true =>
    have F : Hid (V = lineM (rawM ram)) := by show _ = _; rw [hV]; unfold newM; rw [hz, hok]; rfl
    have hpos := ramOk_pos hok
    rw [hok] at HOK
    have HN : Hid (ram.length = n ∧ 0 < n ∧ n ≤ 1048576) := ⟨hz, hpos, hn⟩
    obtain ⟨ad0, rfl⟩ : ∃ x, ad = some x := by
      obtain ⟨b, off, e, _⟩ := hs 0 (by omega)
      exact ⟨_, e⟩
    have HSL : Hid (∀ W, Below w.heap.size w W → Sl .u8 W (some ad0) ram) := fun W hb => hs.below hb
    clear hs hz hn hok hpos hV
    go_enter Try.func44, Try.ntmps44
    go_wp2_with fail
    refine (HOK.out _).mono ?_
    rintro e w1 ⟨rfl, hw1⟩
    subst hw1
    go_wp2_with fail
    go_cut [4] from 5 (fun y wc => ∃ (r : Nat) (C : MA), y = .pointer (some ⟨r, 0, none⟩) ∧ Hid (wc.heap[r]? = some (.cells #[.int .u64 2147483648, .slice C.ax 32 C.cx, .int .i64 3, .slice C.ac 22 C.cc, .slice C.ar n C.cr, .int .u64 0, .int .u64 0, .bool false, .slice none 0 0, .slice none 0 0, .int .i64 0, .int .u64 0, .bool false, .bool false] 29 (0, 0)) ∧ Fam (w.heap.size + 1) wc.heap.size wc ([wRow C.ax 32 C.cx (List.replicate 32 0), wRow C.ac 22 C.cc (List.replicate 22 0), bRow C.ar n C.cr ram, bRow none 0 0 [], bRow none 0 0 []]) ∧ (∀ q ∈ [wRow C.ax 32 C.cx (List.replicate 32 0), wRow C.ac 22 C.cc (List.replicate 22 0), bRow C.ar n C.cr ram, bRow none 0 0 [], bRow none 0 0 []], q.v.ownBlock ≠ some r) ∧ w.heap.size + 1 ≤ r ∧ Q wc) ∧ C.ai = none ∧ C.ci = 0 ∧ C.ao = none ∧ C.co = 0)
    case first =>
      have p0 := PB.out _ _ q0 (Below.refl _ _).drew
      refine wp_region_lin (by kernel_rfl) nmD (fun j l W => nmV (w.heap.size + 1) n cap ad0 ram W j l) Q (by kernel_rfl) p0 ?_ ?_
      · intro i o ho a W hq hoff hsz hd
        rcases i with _ | _ | _ | _ | _ | _ | _ | _ | i
        · obtain rfl := Option.some.inj ho
          refine wp_of_wanted (fun _ => none) (by rfl) (wpH_make (by rfl) 32 (.const (.int .i64 32)) (.const (.int .i64 32)) rfl rfl rfl (by omega) ?_)
          intro W' ow hb
          exact ⟨_, rfl, ⟨_, rfl, own_low ow (PZ.out _ hq)⟩, PB.out _ _ hq hb, nmV_below hb⟩
        · obtain rfl := Option.some.inj ho
          go_simp
          refine (HNC.out _).mono ?_
          rintro e W' ⟨rfl, ow, hb⟩
          exact ⟨_, rfl, ⟨_, rfl, own_low ow (PZ.out _ hq)⟩, PB.out _ _ hq hb, nmV_below hb⟩
        · obtain rfl := Option.some.inj ho
          have hb : Below W.heap.size W (W.alloc (.cells #[] 5 (0, 0))) := (Below.refl _ _).alloc (Nat.le_refl _) _
          go_simp
          exact ⟨_, rfl, ⟨_, rfl, own_low (own_empty8 W _ (Nat.le_refl _) _ rfl) (Nat.zero_le _)⟩, PB.out _ _ hq hb, nmV_below hb⟩
        · obtain rfl := Option.some.inj ho
          have e0 : a.tmps[0]? = some (.slice (some ad0) n cap) := hoff 0 (by kernel_rfl)
          refine wp_val (v := .slice (some ad0) n cap) ?_ ⟨_, rfl, rfl, hq, fun _ _ h => h⟩
          simp [execOp, Act.eval, Array.getD_eq_getD_getElem?, e0]
        · obtain rfl := Option.some.inj ho
          obtain ⟨g, e2, ol⟩ := hd 2 (by decide) (by kernel_rfl)
          have e3 := hd 3 (by decide) (by kernel_rfl)
          refine wp_of_wanted (fun _ => none) (by rfl) (wpH_app8 (by rfl) (.tmp 11) (.tmp 12) rfl g e2 ad0 n cap ram e3 ol HN.out.1 HN.out.2.1 HN.out.2.2 (HSL.out _ (PE.out _ hq)) ?_)
          intro k W' ow hb
          exact ⟨_, rfl, own_low ow (PZ.out _ hq), PB.out _ _ hq hb, nmV_below hb⟩
        · obtain rfl := Option.some.inj ho
          have h0 := hd 0 (by decide) (by kernel_rfl)
          have h1 := hd 1 (by decide) (by kernel_rfl)
          have h4 := hd 4 (by decide) (by kernel_rfl)
          obtain ⟨ax, ex, hx⟩ := h0
          obtain ⟨ac, ec, hc⟩ := h1
          obtain ⟨ar, cr, er⟩ := own_shape3 h4
          refine wp_val (v := .agg (rawC (.slice ax 32 32) (.slice ac 22 22) (.slice ar n cr))) (yields_build _ _ rfl [(0, .int .u64 2147483648), (1, .slice ax 32 32), (2, .int .i64 3), (3, .slice ac 22 22), (4, .slice ar n cr)] ?_ _ (raw_built3 _ _ _ _ _)) ⟨_, rfl, ⟨_, _, _, rfl, ⟨?_, ?_, ?_⟩⟩, hq, fun _ _ h => h⟩
          · rw [← ex, ← ec, ← er]
            rfl
          · exact ⟨_, rfl, hx⟩
          · exact ⟨_, rfl, hc⟩
          · rw [← er]; exact h4
        · obtain rfl := Option.some.inj ho
          go_simp
          exact ⟨_, rfl, ⟨W.heap.size, _, rfl, PZ.out _ hq, heap_alloc_new _ _, rfl⟩, PB.out _ _ hq ((Below.refl _ _).alloc (Nat.le_refl _) _), nmV_below ((Below.refl _ _).alloc (Nat.le_refl _) _)⟩
        · obtain rfl := Option.some.inj ho
          obtain ⟨vx, vc, vr, e5, h3⟩ := hd 5 (by decide) (by kernel_rfl)
          obtain ⟨r, cs, e6, hB, hr, hs⟩ := hd 6 (by decide) (by kernel_rfl)
          obtain ⟨h4, h5⟩ := nmV_set (cap := cap) (ad := ad0) hr hs h3
          refine wp_store_row 29 (.tmp 4) (.tmp 14) rfl r (rawC vx vc vr) e6 e5 _ cs hr mac_size hs h3.one ?_
          exact ⟨_, rfl, ⟨r, vx, vc, vr, e6, hB, setRow_heap _ _ _ _ _ _ hr, h4⟩, PU.out _ r hq hB _, h5⟩
        · cases ho
      · intro a W hq hoff hsz hdf hv
        obtain ⟨u4, g4⟩ := slot_some hsz 4 (by rfl)
        obtain ⟨u9, g9⟩ := slot_some hsz 9 (by rfl)
        obtain ⟨u10, g10⟩ := slot_some hsz 10 (by rfl)
        obtain ⟨u11, g11⟩ := slot_some hsz 11 (by rfl)
        obtain ⟨u12, g12⟩ := slot_some hsz 12 (by rfl)
        obtain ⟨u13, g13⟩ := slot_some hsz 13 (by rfl)
        obtain ⟨u14, g14⟩ := slot_some hsz 14 (by rfl)
        obtain ⟨r, vx, vc, vr, e6, hB, hr, h3⟩ := hv 7 (by decide)
        have e6' : u4 = .pointer (some ⟨r, 0, none⟩) := by
          rw [← e6]
          show u4 = a.tmps.getD 4 undef
          rw [Array.getD_eq_getD_getElem?, g4]
          rfl
        subst e6'
        obtain ⟨C, rfl, rfl, rfl, ai, ci, ao, co, hf, hn⟩ := h3.fam hr
        have ha := act_lit (a := a) (l := [.slice (some ad0) n cap, undef, .pointer (some ⟨w.heap.size, 0, none⟩), .bool false, .pointer (some ⟨r, 0, none⟩), .slice (some ad0) n cap, .bool true, .bool false, undef, u9, u10, u11, u12, u13, u14, undef, undef]) hsz (fun i hi => ?_) hdf
        · subst ha
          clear hv hoff hsz hdf g4 g9 g10 g11 g12 g13 g14 e6
          go_wp2_with fail
          go_meet
          exact ⟨r, C, rfl, ⟨hr, hf, hn, hB, hq⟩, ai, ci, ao, co⟩
        · rcases i with _ | _ | _ | _ | _ | _ | _ | _ | _ | _ | _ | _ | _ | _ | _ | _ | _ | i
          all_goals first | assumption | exact hoff _ (by kernel_rfl) | (simp at hi; omega)
    case rest =>
      obtain ⟨r, C, rfl, LI, cai, cci, cao, cco⟩ := hcut
      have LJ : Hid (wc.heap[r]? = some (.cells #[.int .u64 2147483648, .slice C.ax 32 C.cx, .int .i64 3, .slice C.ac 22 C.cc, .slice C.ar n C.cr, .int .u64 0, .int .u64 0, .bool false, .slice C.ai 0 C.ci, .slice C.ao 0 C.co, .int .i64 0, .int .u64 0, .bool false, .bool false] 29 (0, 0)) ∧ Fam (w.heap.size + 1) wc.heap.size wc (mvF (rawM ram) C) ∧ (∀ q ∈ mvF (rawM ram) C, q.v.ownBlock ≠ some r) ∧ w.heap.size + 1 ≤ r ∧ Q wc) := by
        have h := LI.out
        obtain ⟨ax, cx, ac, cc, ar, cr, ai, ci, ao, co⟩ := C
        dsimp only at cai cci cao cco h
        subst cai
        subst cci
        subst cao
        subst cco
        have hn2 := HN.out.1
        subst hn2
        exact h
      obtain ⟨row, fam, ne, hr, qc⟩ := LJ.out
      clear LI LJ cai cci cao cco
      go_wp2_with fail
      refine (HLN.out C r _ _ _ row fam ne).mono ?_
      rintro e w3 ⟨rfl, row3, fm3, kp3⟩
      have q3 : Q w3 := PK.out _ _ _ _ _ qc kp3 fam (Nat.le_refl _)
      have Z3 := dhid kp3.size
      have nd1 : ¬ r = w.heap.size := by omega
      have nd2 : ¬ w.heap.size = r := by omega
      clear kp3 row fam ne
      obtain ⟨a0, a1, a2, a3, a4, a5, a6, a7, a8, a9, a10, a11, a12, a13⟩ := cells14 row3
      obtain ⟨s0, s1, s2, s3, s4, s5, s6, s7, s8, s9, s10, s11, s12, s13⟩ := cells14 (PR.out _ q3)
      obtain ⟨y0, y1, y2, y3, y4, y5, y6, y7, y8, y9, y10, y11, y12, y13⟩ := froz14 (PR.out _ q3)
      go_wp2_with fail
      exact bodyPost_ret (results_ct8 Try.results44 _ _ _ _ _ _ _ rfl (row_put14 (PR.out _ q3) (.int .u64 2147483648) (.slice C.ax 32 C.cx) (.int .i64 3) (.slice C.ac 22 C.cc) (.slice C.ar n C.cr) (.int .u64 0) (.int .u64 0) (.bool false) (.slice C.ai 0 C.ci) (.slice C.ao 0 C.co) (.int .i64 0) (.int .u64 0) (.bool false) (.bool false)) Try.underlying29 rfl mac_size) rfl ⟨C, by rw [F.out, HMV.out]; rfl, by rw [F.out]; exact (fm3.put14 w.heap.size (.inl (by omega)) (.int .u64 2147483648) (.slice C.ax 32 C.cx) (.int .i64 3) (.slice C.ac 22 C.cc) (.slice C.ar n C.cr) (.int .u64 0) (.int .u64 0) (.bool false) (.slice C.ai 0 C.ci) (.slice C.ao 0 C.co) (.int .i64 0) (.int .u64 0) (.bool false) (.bool false)).low (by omega) (by have := Z3.out; simp only [size_set]; omega), below_put14 (PE.out _ q3) (Nat.le_refl _) (.int .u64 2147483648) (.slice C.ax 32 C.cx) (.int .i64 3) (.slice C.ac 22 C.cc) (.slice C.ar n C.cr) (.int .u64 0) (.int .u64 0) (.bool false) (.slice C.ai 0 C.ci) (.slice C.ao 0 C.co) (.int .i64 0) (.int .u64 0) (.bool false) (.bool false)⟩

def Rg (w0 : World) (g : Nat) (a : Option Addr) (n cap : Nat) (w wr : World) : Prop :=
  ∃ zs : List Int, (∀ j, U (zs.getD j 0)) ∧ wr.ownsRow w.heap.size 24 1 (.slice (some ⟨w.heap.size, 0, none⟩) 22 22) 22 (zs.map (Value.int .u64)) ∧ Cs w0 g a n cap w wr ∧ g < w.heap.size

theorem Rg.next {w0 : World} {g : Nat} {a : Option Addr} {n cap : Nat} {w wr wx : World} (h : Rg w0 g a n cap w wr) (k : Cs w0 g a n cap wr wx) : Rg w0 g a n cap w wx := by
  obtain ⟨zs, hu, ho, hc, hg⟩ := h
  refine ⟨zs, hu, kept_of ho k.2 ?_, hc.trans k, hg⟩
  intro j hj hne
  simp [Value.ownBlock] at hj hne
  omega

theorem Rg.cur {w0 : World} {g : Nat} {a : Option Addr} {n cap : Nat} {w wr : World} (h : Rg w0 g a n cap w wr) : Cur w0 wr g a n cap := by
  obtain ⟨zs, hu, ho, hc, hg⟩ := h
  exact hc.1

theorem getD_set (zs : List Int) (k j : Nat) (y : Int) (hu : ∀ j, U (zs.getD j 0)) (hy : U y) : U ((zs.set k y).getD j 0) := by
  by_cases hkj : k = j
  · subst hkj
    by_cases hl : k < zs.length
    · have e : (zs.set k y).getD k 0 = y := by simp [List.getD, hl]
      rw [e]; exact hy
    · have e : (zs.set k y).getD k 0 = 0 := by simp [List.getD, hl]
      rw [e]; constructor <;> decide
  · have e : (zs.set k y).getD j 0 = zs.getD j 0 := by simp [List.getD, hkj]
    rw [e]; exact hu j

theorem Rg.put {w0 : World} {g : Nat} {a : Option Addr} {n cap : Nat} {w wr : World} (h : Rg w0 g a n cap w wr) (k : Nat) (y : Int) (hy : U y) : Rg w0 g a n cap w (wr.setCell ⟨w.heap.size, k, none⟩ (.int .u64 y)) := by
  obtain ⟨zs, hu, ho, hc, hg⟩ := h
  have hst := ho.stored k (.int .u64 y)
  rw [map_set_u64] at hst
  refine ⟨zs.set k y, fun j => getD_set zs k j y hu hy, hst.1, ⟨?_, ?_⟩, hg⟩
  · obtain ⟨i, x, hi, hrow⟩ := hc.1.row
    refine ⟨hc.1.new, hc.1.below.setCell ?_ _, i, x, hi, ?_⟩
    · show w0.heap.size ≤ w.heap.size
      have := hc.1.new; omega
    · rw [heap_setCell_other _ _ _ _ (by show g ≠ w.heap.size; omega)]; exact hrow
  · refine ⟨hc.2.os, hc.2.tape, hc.2.output, by simpa [World.setCell] using hc.2.size, fun j hj hne => ?_⟩
    rw [heap_setCell_other _ _ _ _ (by show j ≠ w.heap.size; omega)]
    exact hc.2.block j hj hne

theorem Rg.cell {w0 : World} {g : Nat} {a : Option Addr} {n cap : Nat} {w wr : World} (h : Rg w0 g a n cap w wr) (k : Nat) (hk : k < 22) : ∃ v, U v ∧ wr.cell? ⟨w.heap.size, k, none⟩ = some (.int .u64 v) ∧ wr.frozen? ⟨w.heap.size, k, none⟩ = false := by
  obtain ⟨zs, hu, ho, hc, hg⟩ := h
  have hl : zs.length = 22 := by have := ho.1; simpa using this
  obtain ⟨b, off, e, _, hcl⟩ := own_sl ho k (by omega)
  simp only [Option.some.injEq, Addr.mk.injEq, and_true] at e
  obtain ⟨rfl, rfl⟩ := e
  rw [Nat.zero_add] at hcl
  exact ⟨_, hu k, hcl, ho.frozenAt k⟩

theorem U_legal (p x : Int) (h : U x) : U (legal p x) := by
  unfold legal
  split
  · unfold mst; split <;> exact U_bits _ _ _
  · split
    · exact U_bits _ _ _
    · split
      · exact U_bits _ _ _
      · split
        · exact U_bits _ _ _
        · split
          · exact U_bits _ _ _
          · split
            · exact U_bits _ _ _
            · split
              · exact U_bits _ _ _
              · split
                · exact U_bits _ _ _
                · split
                  · exact U_bits _ _ _
                  · exact h

theorem U0 : U 0 := ⟨by decide, by decide⟩

theorem zeros_at (m j : Nat) : (List.replicate m (0 : Int)).getD j 0 = 0 := by
  by_cases hj : j < m
  · simp [List.getD, hj]
  · simp [List.getD, hj]

theorem zeros_U (j : Nat) : U ((List.replicate 22 (0 : Int)).getD j 0) := by
  rw [zeros_at]; exact U0

theorem l4Legal_U (p x : Int) (h : U x) (w : World) : Calls Try.prog 60 #[.int .i64 p, .int .u64 x] w fun e w' => ∃ v, e = .returned (.int .u64 v) ∧ Hid (U v) ∧ w' = w :=
  (l4Legal_any p x w).mono fun e w' h2 => ⟨_, h2.1, U_legal p x h, h2.2⟩

set_option maxRecDepth 20000 in
set_option maxHeartbeats 6400000 in
theorem l4DrawCsrs_c {w0 : World} {g : Nat} {a : Option Addr} {n cap : Nat} {zs : List Int} (hcd : Code w0 a n zs) (w : World) (hc : Cur w0 w g a n cap) :
    Calls Try.prog 46 #[.pointer (some ⟨g, 0, none⟩)] w fun e w' => e = .returned (.slice (some ⟨w.heap.size, 0, none⟩) 22 22) ∧ Hid (Rg w0 g a n cap w w') := by
  have HD : Hid (Code w0 a n zs) := hcd
  have HC : Hid (Cur w0 w g a n cap) := hc
  clear hcd hc
  go_enter Try.func46, Try.ntmps46
  go_wp2_with fail
  refine (specNewCsrs_any _).mono ?_
  rintro e w1 ⟨rfl, ho1, hb1⟩
  have R1 : Hid (Rg w0 g a n cap w w1) := ⟨List.replicate 22 0, zeros_U, ho1, Cs.of_below HC.out hb1, HC.out.lt⟩
  clear ho1 hb1
  go_wp2_with fail
  refine (l1Below_c HD.out 16 (by omega) _ R1.out.cur).mono ?_
  rintro e w2 ⟨m, rfl, ⟨hm0, hm1⟩, hs2⟩
  have R2 : Hid (Rg w0 g a n cap w w2) := R1.out.next hs2.out
  obtain ⟨mm, rfl⟩ := Int.eq_ofNat_of_zero_le hm0
  clear R1 hs2
  go_wp2_with fail
  go_loopw [4] (fun i wr => ∃ k : Nat, k ≤ 16 ∧ i = .int .i64 k ∧ Hid (Rg w0 g a n cap w wr)) (fun i _ => (intOf i).toNat)
  case atStart => exact ⟨mm, by omega, rfl, R2⟩
  case round =>
    obtain ⟨k, hk, rfl, hR⟩ := hrel
    by_cases hlt : 0 < k
    · go_wp2_with fail
      refine (l1Below_c HD.out 22 (by omega) _ hR.out.cur).mono ?_
      rintro e w3 ⟨p, rfl, ⟨hp0, hp1⟩, hs3⟩
      have R3 : Hid (Rg w0 g a n cap w w3) := hR.out.next hs3.out
      obtain ⟨pp, rfl⟩ := Int.eq_ofNat_of_zero_le hp0
      clear hs3 hR
      go_wp2_with fail
      refine (l1DrawWord_c HD.out _ R3.out.cur).mono ?_
      rintro e w4 ⟨x, rfl, hx, hs4⟩
      have R4 : Hid (Rg w0 g a n cap w w4) := R3.out.next hs4.out
      have HX : Hid (U x) := hx
      clear hs4 R3 hx
      obtain ⟨j, rfl⟩ : ∃ j, k = j + 1 := ⟨k - 1, by omega⟩
      by_cases h4 : pp = 4 ∨ pp = 10
      · rcases h4 with rfl | rfl
        · go_wp2_with fail
          refine (l1Below_c HD.out 512 (by omega) _ R4.out.cur).mono ?_
          rintro e w5 ⟨y, rfl, ⟨hy0, hy1⟩, hs5⟩
          have R5 : Hid (Rg w0 g a n cap w w5) := R4.out.next hs5.out
          clear hs5 R4
          go_wp2_with fail
          refine (l1Below_c HD.out 2 (by omega) _ R5.out.cur).mono ?_
          rintro e w6 ⟨z, rfl, ⟨hz0, hz1⟩, hs6⟩
          have R6 : Hid (Rg w0 g a n cap w w6) := R5.out.next hs6.out
          clear hs6 R5 HX
          obtain ⟨v9, _, hc9, hf9⟩ := R6.out.cell 4 (by omega)
          go_wp2_with fail
          refine (l4Legal_U _ _ ?_ _).mono ?_
          · first | exact U_wrap _ | (constructor <;> omega)
          rintro e wl ⟨lv, rfl, HLV, hwl⟩
          have hwl2 := hwl.symm
          subst hwl2
          go_wp2_with fail
          go_roundw
          case rel => exact ⟨j, by omega, by go_num, R6.out.put 4 _ HLV.out⟩
          case measure => simp [intOf]
        · go_wp2_with fail
          refine (l1Below_c HD.out 512 (by omega) _ R4.out.cur).mono ?_
          rintro e w5 ⟨y, rfl, ⟨hy0, hy1⟩, hs5⟩
          have R5 : Hid (Rg w0 g a n cap w w5) := R4.out.next hs5.out
          clear hs5 R4
          go_wp2_with fail
          refine (l1Below_c HD.out 2 (by omega) _ R5.out.cur).mono ?_
          rintro e w6 ⟨z, rfl, ⟨hz0, hz1⟩, hs6⟩
          have R6 : Hid (Rg w0 g a n cap w w6) := R5.out.next hs6.out
          clear hs6 R5 HX
          obtain ⟨v9, _, hc9, hf9⟩ := R6.out.cell 10 (by omega)
          go_wp2_with fail
          refine (l4Legal_U _ _ ?_ _).mono ?_
          · first | exact U_wrap _ | (constructor <;> omega)
          rintro e wl ⟨lv, rfl, HLV, hwl⟩
          have hwl2 := hwl.symm
          subst hwl2
          go_wp2_with fail
          go_roundw
          case rel => exact ⟨j, by omega, by go_num, R6.out.put 10 _ HLV.out⟩
          case measure => simp [intOf]
      by_cases h16 : pp = 16
      · subst h16
        go_wp2_with fail
        go_loopw [6, 7] (fun y i wx => ∃ (q : Nat) (v : Int), q ≤ 4 ∧ y = .int .u64 v ∧ U v ∧ i = .int .i64 q ∧ Hid (Rg w0 g a n cap w wx)) (fun _ i _ => 4 - (intOf i).toNat)
        case atStart => exact ⟨0, 0, by omega, rfl, U0, rfl, R4⟩
        case round =>
          obtain ⟨q, v, hq, rfl, hv, rfl, hR⟩ := hrel
          have HVV : Hid (U v) := hv
          clear hv
          by_cases hq4 : q < 4
          · go_wp2_with fail
            have HA := Cs.alloc hR.out.cur (.cells #[.int .u64 0, .int .u64 15, .int .u64 31, .int .u64 27, .int .u64 25, .int .u64 7, .int .u64 24, .int .u64 159, .int .u64 143, .int .u64 153] 24)
            refine (l1Below_c HD.out 10 (by omega) _ HA.1).mono ?_
            rintro e w5 ⟨y, rfl, ⟨hy0, hy1⟩, hs5⟩
            obtain ⟨yy, rfl⟩ := Int.eq_ofNat_of_zero_le hy0
            obtain ⟨v2, hv2, hcell⟩ := few_words [0, 15, 31, 27, 25, 7, 24, 159, 143, 153] 24 (hs5.out.keep (heap_alloc_new _ _) (Nat.ne_of_gt hR.out.cur.lt)) (by intro x hx; simp at hx; constructor <;> omega) (k := yy) (by simp; omega)
            have R5 : Hid (Rg w0 g a n cap w w5) := (hR.out.next HA).next hs5.out
            clear hs5 hR HA hv2
            go_wp2_with fail
            go_roundw
            case rel => exact ⟨q + 1, _, by omega, rfl, U_bits _ _ _, by go_num, R5⟩
            case measure => simp [intOf]; omega
          · go_wp2_with fail
            refine (l1Once_c HD.out 3 (by omega) _ hR.out.cur).mono ?_
            rintro e w5 ⟨c, rfl, hs5⟩
            have R5 : Hid (Rg w0 g a n cap w w5) := hR.out.next hs5.out
            clear hs5 hR
            cases c with
            | true =>
                obtain ⟨v9, _, hc9, hf9⟩ := R5.out.cell 16 (by omega)
                go_wp2_with fail
                refine (l4Legal_U _ _ ?_ _).mono ?_
                · first | exact HVV.out | exact U_bits _ _ _
                rintro e wl ⟨lv, rfl, HLV, hwl⟩
                have hwl2 := hwl.symm
                subst hwl2
                go_wp2_with fail
                go_roundw
                case rel => exact ⟨j, by omega, by go_num, R5.out.put 16 _ HLV.out⟩
                case measure => simp [intOf]
              | false =>
                obtain ⟨v9, _, hc9, hf9⟩ := R5.out.cell 16 (by omega)
                go_wp2_with fail
                refine (l4Legal_U _ _ ?_ _).mono ?_
                · first | exact U_bits _ _ _ | exact HVV.out
                rintro e wl ⟨lv, rfl, HLV, hwl⟩
                have hwl2 := hwl.symm
                subst hwl2
                go_wp2_with fail
                go_roundw
                case rel => exact ⟨j, by omega, by go_num, R5.out.put 16 _ HLV.out⟩
                case measure => simp [intOf]
      by_cases h17 : pp = 17 ∨ pp = 18 ∨ pp = 19 ∨ pp = 20
      · rcases h17 with rfl | rfl | rfl | rfl
        · go_wp2_with fail
          refine (l1Below_c HD.out 2048 (by omega) _ R4.out.cur).mono ?_
          rintro e w5 ⟨y, rfl, ⟨hy0, hy1⟩, hs5⟩
          have R5 : Hid (Rg w0 g a n cap w w5) := R4.out.next hs5.out
          clear hs5 R4
          go_wp2_with fail
          refine (l1Once_c HD.out 2 (by omega) _ R5.out.cur).mono ?_
          rintro e w6 ⟨c, rfl, hs6⟩
          have R6 : Hid (Rg w0 g a n cap w w6) := R5.out.next hs6.out
          clear hs6 R5 HX
          cases c with
          | _ =>
            go_wp2_with fail
            refine (l1Once_c HD.out 3 (by omega) _ R6.out.cur).mono ?_
            rintro e w7 ⟨c, rfl, hs7⟩
            have R7 : Hid (Rg w0 g a n cap w w7) := R6.out.next hs7.out
            clear hs7 R6
            cases c with
            | _ =>
              obtain ⟨v9, _, hc9, hf9⟩ := R7.out.cell 17 (by omega)
              go_wp2_with fail
              refine (l4Legal_U _ _ ?_ _).mono ?_
              · first | exact U_wrap _ | (constructor <;> omega)
              rintro e wl ⟨lv, rfl, HLV, hwl⟩
              have hwl2 := hwl.symm
              subst hwl2
              go_wp2_with fail
              go_roundw
              case rel => exact ⟨j, by omega, by go_num, R7.out.put 17 _ HLV.out⟩
              case measure => simp [intOf]
        · go_wp2_with fail
          refine (l1Below_c HD.out 2048 (by omega) _ R4.out.cur).mono ?_
          rintro e w5 ⟨y, rfl, ⟨hy0, hy1⟩, hs5⟩
          have R5 : Hid (Rg w0 g a n cap w w5) := R4.out.next hs5.out
          clear hs5 R4
          go_wp2_with fail
          refine (l1Once_c HD.out 2 (by omega) _ R5.out.cur).mono ?_
          rintro e w6 ⟨c, rfl, hs6⟩
          have R6 : Hid (Rg w0 g a n cap w w6) := R5.out.next hs6.out
          clear hs6 R5 HX
          cases c with
          | _ =>
            go_wp2_with fail
            refine (l1Once_c HD.out 3 (by omega) _ R6.out.cur).mono ?_
            rintro e w7 ⟨c, rfl, hs7⟩
            have R7 : Hid (Rg w0 g a n cap w w7) := R6.out.next hs7.out
            clear hs7 R6
            cases c with
            | _ =>
              obtain ⟨v9, _, hc9, hf9⟩ := R7.out.cell 18 (by omega)
              go_wp2_with fail
              refine (l4Legal_U _ _ ?_ _).mono ?_
              · first | exact U_wrap _ | (constructor <;> omega)
              rintro e wl ⟨lv, rfl, HLV, hwl⟩
              have hwl2 := hwl.symm
              subst hwl2
              go_wp2_with fail
              go_roundw
              case rel => exact ⟨j, by omega, by go_num, R7.out.put 18 _ HLV.out⟩
              case measure => simp [intOf]
        · go_wp2_with fail
          refine (l1Below_c HD.out 2048 (by omega) _ R4.out.cur).mono ?_
          rintro e w5 ⟨y, rfl, ⟨hy0, hy1⟩, hs5⟩
          have R5 : Hid (Rg w0 g a n cap w w5) := R4.out.next hs5.out
          clear hs5 R4
          go_wp2_with fail
          refine (l1Once_c HD.out 2 (by omega) _ R5.out.cur).mono ?_
          rintro e w6 ⟨c, rfl, hs6⟩
          have R6 : Hid (Rg w0 g a n cap w w6) := R5.out.next hs6.out
          clear hs6 R5 HX
          cases c with
          | _ =>
            go_wp2_with fail
            refine (l1Once_c HD.out 3 (by omega) _ R6.out.cur).mono ?_
            rintro e w7 ⟨c, rfl, hs7⟩
            have R7 : Hid (Rg w0 g a n cap w w7) := R6.out.next hs7.out
            clear hs7 R6
            cases c with
            | _ =>
              obtain ⟨v9, _, hc9, hf9⟩ := R7.out.cell 19 (by omega)
              go_wp2_with fail
              refine (l4Legal_U _ _ ?_ _).mono ?_
              · first | exact U_wrap _ | (constructor <;> omega)
              rintro e wl ⟨lv, rfl, HLV, hwl⟩
              have hwl2 := hwl.symm
              subst hwl2
              go_wp2_with fail
              go_roundw
              case rel => exact ⟨j, by omega, by go_num, R7.out.put 19 _ HLV.out⟩
              case measure => simp [intOf]
        · go_wp2_with fail
          refine (l1Below_c HD.out 2048 (by omega) _ R4.out.cur).mono ?_
          rintro e w5 ⟨y, rfl, ⟨hy0, hy1⟩, hs5⟩
          have R5 : Hid (Rg w0 g a n cap w w5) := R4.out.next hs5.out
          clear hs5 R4
          go_wp2_with fail
          refine (l1Once_c HD.out 2 (by omega) _ R5.out.cur).mono ?_
          rintro e w6 ⟨c, rfl, hs6⟩
          have R6 : Hid (Rg w0 g a n cap w w6) := R5.out.next hs6.out
          clear hs6 R5 HX
          cases c with
          | _ =>
            go_wp2_with fail
            refine (l1Once_c HD.out 3 (by omega) _ R6.out.cur).mono ?_
            rintro e w7 ⟨c, rfl, hs7⟩
            have R7 : Hid (Rg w0 g a n cap w w7) := R6.out.next hs7.out
            clear hs7 R6
            cases c with
            | _ =>
              obtain ⟨v9, _, hc9, hf9⟩ := R7.out.cell 20 (by omega)
              go_wp2_with fail
              refine (l4Legal_U _ _ ?_ _).mono ?_
              · first | exact U_wrap _ | (constructor <;> omega)
              rintro e wl ⟨lv, rfl, HLV, hwl⟩
              have hwl2 := hwl.symm
              subst hwl2
              go_wp2_with fail
              go_roundw
              case rel => exact ⟨j, by omega, by go_num, R7.out.put 20 _ HLV.out⟩
              case measure => simp [intOf]
      by_cases h15 : pp = 15
      · subst h15
        go_wp2_with fail
        refine (l1Below_c HD.out 2 (by omega) _ R4.out.cur).mono ?_
        rintro e w5 ⟨y, rfl, ⟨hy0, hy1⟩, hs5⟩
        have R5 : Hid (Rg w0 g a n cap w w5) := R4.out.next hs5.out
        clear hs5 R4
        go_wp2_with fail
        refine (l1Below_c HD.out 2 (by omega) _ R5.out.cur).mono ?_
        rintro e w6 ⟨z, rfl, ⟨hz0, hz1⟩, hs6⟩
        have R6 : Hid (Rg w0 g a n cap w w6) := R5.out.next hs6.out
        clear hs6 R5 HX
        obtain ⟨v9, _, hc9, hf9⟩ := R6.out.cell 15 (by omega)
        go_wp2_with fail
        refine (l4Legal_U _ _ ?_ _).mono ?_
        · first | exact U_wrap _ | (constructor <;> omega)
        rintro e wl ⟨lv, rfl, HLV, hwl⟩
        have hwl2 := hwl.symm
        subst hwl2
        go_wp2_with fail
        go_roundw
        case rel => exact ⟨j, by omega, by go_num, R6.out.put 15 _ HLV.out⟩
        case measure => simp [intOf]
      have d4 : ((pp : Int) == 4) = false := by simp; omega
      have d10 : ((pp : Int) == 10) = false := by simp; omega
      have d16 : ((pp : Int) == 16) = false := by simp; omega
      have d17 : ((pp : Int) == 17) = false := by simp; omega
      have d18 : ((pp : Int) == 18) = false := by simp; omega
      have d19 : ((pp : Int) == 19) = false := by simp; omega
      have d20 : ((pp : Int) == 20) = false := by simp; omega
      have d15 : ((pp : Int) == 15) = false := by simp; omega
      by_cases h9 : pp = 9
      · subst h9
        clear h4 h16 h17 h15
        obtain ⟨v9, _, hc9, hf9⟩ := R4.out.cell 9 (by omega)
        go_wp2_with fail
        go_roundw
        case rel => exact ⟨j, by omega, by go_num, R4.out.put 9 _ (U_bits _ _ _)⟩
        case measure => simp [intOf]
      · have d9 : ((pp : Int) == 9) = false := by simp; omega
        have hp22 : pp < 22 := by omega
        clear h4 h16 h17 h15 h9
        obtain ⟨v9, _, hc9, hf9⟩ := R4.out.cell pp (by omega)
        go_wp2_with fail
        refine (l4Legal_U _ _ ?_ _).mono ?_
        · exact HX.out
        rintro e wl ⟨lv, rfl, HLV, hwl⟩
        have hwl2 := hwl.symm
        subst hwl2
        go_wp2_with fail
        go_roundw
        case rel => exact ⟨j, by omega, by go_num, R4.out.put pp _ HLV.out⟩
        case measure => simp [intOf]
    · have hk0 : k = 0 := by omega
      subst hk0
      go_wp2_with fail
      go_ret
      exact ⟨rfl, hR⟩

end Go.Proofs.Ytmigfnlfjgkgkaa

namespace Go.Proofs.Ytmigfnlfjgkgkaa
open Go.RowKit
set_option linter.unusedVariables false

theorem U_entry (f b : Int) : U (entryV f b) := by
  unfold entryV
  split
  · exact U0
  · split
    · exact U_bits _ _ _
    · exact U0

theorem put_wfD (zs : List Int) (h : ∀ y ∈ zs, (Lit.int .u8 y).wf = true) (f : Nat) (x : Int) (k : Nat) : ∀ y ∈ put zs f x k, (Lit.int .u8 y).wf = true := fun y hy => by
  have hb := put_bd zs (fun z hz => by have := h z hz; simpa [Lit.wf, IntKind.min, IntKind.max, IntKind.signed, IntKind.bits] using this) f x k y hy
  exact wf8 hb.1 hb.2

theorem row_cell {W : World} {g : Nat} {cs : Array Value} {t : TypeId} (h : W.heap[g]? = some (.cells cs t (0, 0))) (i : Nat) : W.cell? ⟨g, i, none⟩ = cs[i]? := by simp [World.cell?, h]

def prM (M : MV) (v : Int) : MV := { M with pr := v }

def pcM (M : MV) (v : Int) : MV := { M with pc := v }

def hdM (M : MV) (v : Int) : MV := { M with hd := v }

def hlM (M : MV) (v : Bool) : MV := { M with hl := v }

def wtM (M : MV) (v : Bool) : MV := { M with wt := v }

theorem Dm.setPr {w0 : World} {g : Nat} {a : Option Addr} {n cap : Nat} {w : World} {r m : Nat} {M : MV} {A : MA} {wr : World} (h : Dm w0 g a n cap w r m M A wr) (v : Int) (hv : v = 0 ∨ v = 1 ∨ v = 3) : Dm w0 g a n cap w r m (prM M v) A (wr.setCell ⟨m, 2, none⟩ (.int .i64 v)) :=
  h.setF 2 (.int .i64 v) (M' := prM M v) rfl rfl ⟨h.fit.x, h.fit.ux, h.fit.cs, h.fit.ucs, h.fit.ram, h.fit.bram, h.fit.d, h.fit.pc, h.fit.hd, hv⟩

theorem Dm.setPc {w0 : World} {g : Nat} {a : Option Addr} {n cap : Nat} {w : World} {r m : Nat} {M : MV} {A : MA} {wr : World} (h : Dm w0 g a n cap w r m M A wr) (v : Int) (hv : U v) : Dm w0 g a n cap w r m (pcM M v) A (wr.setCell ⟨m, 0, none⟩ (.int .u64 v)) :=
  h.setF 0 (.int .u64 v) (M' := pcM M v) rfl rfl ⟨h.fit.x, h.fit.ux, h.fit.cs, h.fit.ucs, h.fit.ram, h.fit.bram, h.fit.d, hv, h.fit.hd, h.fit.pr⟩

theorem Dm.setHd {w0 : World} {g : Nat} {a : Option Addr} {n cap : Nat} {w : World} {r m : Nat} {M : MV} {A : MA} {wr : World} (h : Dm w0 g a n cap w r m M A wr) (v : Int) (hv : U v) : Dm w0 g a n cap w r m (hdM M v) A (wr.setCell ⟨m, 11, none⟩ (.int .u64 v)) :=
  h.setF 11 (.int .u64 v) (M' := hdM M v) rfl rfl ⟨h.fit.x, h.fit.ux, h.fit.cs, h.fit.ucs, h.fit.ram, h.fit.bram, h.fit.d, h.fit.pc, hv, h.fit.pr⟩

theorem Dm.setHl {w0 : World} {g : Nat} {a : Option Addr} {n cap : Nat} {w : World} {r m : Nat} {M : MV} {A : MA} {wr : World} (h : Dm w0 g a n cap w r m M A wr) (v : Bool) : Dm w0 g a n cap w r m (hlM M v) A (wr.setCell ⟨m, 12, none⟩ (.bool v)) :=
  h.setF 12 (.bool v) (M' := hlM M v) rfl rfl ⟨h.fit.x, h.fit.ux, h.fit.cs, h.fit.ucs, h.fit.ram, h.fit.bram, h.fit.d, h.fit.pc, h.fit.hd, h.fit.pr⟩

theorem Dm.setWt {w0 : World} {g : Nat} {a : Option Addr} {n cap : Nat} {w : World} {r m : Nat} {M : MV} {A : MA} {wr : World} (h : Dm w0 g a n cap w r m M A wr) (v : Bool) : Dm w0 g a n cap w r m (wtM M v) A (wr.setCell ⟨m, 13, none⟩ (.bool v)) :=
  h.setF 13 (.bool v) (M' := wtM M v) rfl rfl ⟨h.fit.x, h.fit.ux, h.fit.cs, h.fit.ucs, h.fit.ram, h.fit.bram, h.fit.d, h.fit.pc, h.fit.hd, h.fit.pr⟩

theorem line_fit {M : MV} (h : Mf M) : Mf (lineM M) := ⟨h.x, h.ux, by simp [lineM, h.cs], set_U h.ucs 9 (U_wrap _), h.ram, h.bram, h.d, h.pc, h.hd, h.pr⟩

theorem mvc_oneM (M : MV) (A : MA) : (mvc M A).all (·.oneCell') = true := by simp [mvc, Value.oneCell']

theorem Dm.outM {w0 : World} {g : Nat} {a : Option Addr} {n cap : Nat} {w : World} {m : Nat} {M : MV} {A : MA} {wr : World} (h : Dm w0 g a n cap w w.heap.size m M A wr) (cs : Array Value) : Fam w.heap.size (wr.setRow w.heap.size cs).heap.size (wr.setRow w.heap.size cs) (mvF M A) ∧ Cs w0 g a n cap w (wr.setRow w.heap.size cs) := by
  have hb : Below w.heap.size wr (wr.setRow w.heap.size cs) := row_below (Below.refl _ _) (Nat.le_refl _) cs
  have hg := h.gr
  have h0 := h.w0w
  obtain ⟨i, hh, hi, hrow⟩ := h.cu.1.row
  refine ⟨?_, ⟨⟨h.cu.1.new, ?_, i, hh, hi, (hb.block g hg).trans hrow⟩, ⟨hb.os.trans h.cu.2.os, hb.tape.trans h.cu.2.tape, hb.output.trans h.cu.2.output, Nat.le_trans h.cu.2.size hb.size, fun k hk hne => (hb.block k hk).trans (h.cu.2.block k hk hne)⟩⟩⟩
  · exact (fam_setRow h.mp.fam w.heap.size (fun q hq e => by have := (h.mp.fam.own q hq).lt _ e; omega) cs).low (by omega) hb.size
  · exact ⟨hb.os.trans h.cu.1.below.os, hb.tape.trans h.cu.1.below.tape, hb.output.trans h.cu.1.below.output, Nat.le_trans h.cu.1.below.size hb.size, fun k hk => (hb.block k (by omega)).trans (h.cu.1.below.block k hk)⟩

theorem l1Put_dm {w0 : World} {g : Nat} {a : Option Addr} {n cap : Nat} {w : World} {r m : Nat} {M : MV} {A : MA} {wr : World} (h : Dm w0 g a n cap w r m M A wr) (L : Nat) (hL : M.ram.length = L) (f : Nat) (x : Int) (hx : U x) (hf : f + 8 ≤ L) :
    Calls Try.prog 43 #[.slice A.ar L A.cr, .int .u64 (2147483648 + (f : Int)), .int .i64 8, .int .u64 x] wr fun e w' => e = .returned (.tuple #[]) ∧ ∃ M' : MV, Hid (Dm w0 g a n cap w r m M' A w') ∧ Hid (M'.ram.length = L) := by
  subst hL
  have hr := h.fit.ram
  have hok : okB M.ram.length (2147483648 + (f : Int)) 8 = true := by
    have h1 : ramOkB M.ram.length = true := by rcases hr with e | e <;> rw [e] <;> decide
    have h2 : sizeB 8 = true := by decide
    simp only [okB, h1, h2, Bool.true_and, decide_eq_true_eq]
    omega
  refine (l1Put_mp M A _ m _ 8 x wr (by rcases hr with e | e <;> rw [e] <;> omega) hok hx.1 (by have := hx.2; omega) h.mp).mono fun e w' ⟨h1, h2, h3⟩ => ⟨h1, _, dhid (h.step (h.mp.under h3) h2 ?_), dhid (put_len _ _ _ _)⟩
  exact ⟨h.fit.x, h.fit.ux, h.fit.cs, h.fit.ucs, (by show (put M.ram _ x _).length = 4096 ∨ (put M.ram _ x _).length = 8192; rw [put_len]; exact hr), put_wfD _ h.fit.bram _ _ _, h.fit.d, h.fit.pc, h.fit.hd, h.fit.pr⟩

set_option maxRecDepth 100000 in
set_option maxHeartbeats 6400000 in
theorem l7DrawPaged_4096 {zs : List Int} {w0 : World} {g : Nat} {a : Option Addr} {n cap : Nat} {w : World} {r m : Nat} {M : MV} {A : MA} {wr : World} (hcd : Code w0 a n zs) (h : Dm w0 g a n cap w r m M A wr) (hL : M.ram.length = 4096) :
    Calls Try.prog 47 #[.pointer (some ⟨g, 0, none⟩), .pointer (some ⟨m, 0, none⟩)] wr fun e w' => e = .returned (.tuple #[]) ∧ ∃ M' : MV, Hid (Dm w0 g a n cap w r m M' A w') := by
  have HD : Hid (Code w0 a n zs) := hcd
  have HL := dhid hL
  obtain ⟨bc, cc, ea, ec, cm, cells⟩ := h.atC
  obtain ⟨q15, r15⟩ := cells 15 (by omega)
  have c4 : wr.cell? ⟨m, 4, none⟩ = some (.slice A.ar 4096 A.cr) := by rw [row_cell h.mp.row 4, ← hL]; rfl
  have c2 : wr.cell? ⟨m, 2, none⟩ = some (.int .i64 M.pr) := row_cell h.mp.row 2
  have mbc : ¬ m = bc := fun e => h.mp.ne (wRow A.ac M.cs.length A.cc M.cs) (by simp [mvF]) (by simp only [wRow]; rw [ea, e]; rfl)
  have mbd : ¬ bc = m := fun e => mbc e.symm
  have SET := dhid (fun v (hv : U v) => h.setC bc ea 15 hv)
  clear hcd hL h cells ec
  go_enter Try.func47, Try.ntmps47
  go_upto_if 30 with fail
  generalize hv : IntKind.u64.wrap (bits BinOp.or IntKind.u64 9223372036854775808 524289 - 1) = v15
  have D1 : Hid (∃ M : MV, Dm w0 g a n cap w r m M A (wr.setCell ⟨bc, 15, none⟩ (.int .u64 v15)) ∧ M.ram.length = 4096) := ⟨_, SET.out v15 (by rw [← hv]; exact U_wrap _), HL.out⟩
  generalize wr.setCell ⟨bc, 15, none⟩ (.int .u64 v15) = w1 at D1 ⊢
  generalize (M.pr == 0) = p0
  clear hv SET mbc mbd c2 c4 q15 r15 cm ea
  go_cut [6] from 7 (fun v wc => ∃ b : Int, v = .int .i64 b ∧ ∃ (M : MV), Hid (Dm w0 g a n cap w r m M A wc) ∧ Hid (M.ram.length = 4096))
  case first =>
    obtain ⟨M1, d1, l1⟩ := D1.out
    cases p0
    · go_wp2_with fail
      go_meet
      exact ⟨207, rfl, M1, d1, l1⟩
    · go_wp2_with fail
      go_meet
      exact ⟨223, rfl, M1, d1, l1⟩
  case rest =>
    clear D1 HL
    obtain ⟨b1, rfl, M, DN, HL⟩ := hcut
    go_wp2_with fail
    refine (l1Once_c HD.out 2 (by omega) _ DN.out.cur).mono ?_
    rintro e w2 ⟨c2, rfl, hs2⟩
    have D2 := dhid (DN.out.next hs2.out)
    clear hs2 DN
    go_upto_if 32 with fail
    go_cut [6] from 7 (fun v wc => ∃ b : Int, v = .int .i64 b ∧ ∃ (M : MV), Hid (Dm w0 g a n cap w r m M A wc) ∧ Hid (M.ram.length = 4096))
    case first =>
      cases c2
      · go_wp2_with fail
        go_meet
        exact ⟨b1, rfl, M, D2, HL⟩
      · go_wp2_with fail
        go_meet
        exact ⟨_, rfl, M, D2, HL⟩
    case rest =>
      clear D2 HL
      obtain ⟨b2, rfl, M, DN, HL⟩ := hcut
      obtain ⟨z1, hz1⟩ : ∃ z, z = entryV 524288 b2 := ⟨_, rfl⟩
      have HE : Hid (∀ w', Calls Try.prog 61 #[.int .u64 524288, .int .i64 b2] w' fun e w'' => e = .returned (.int .u64 z1) ∧ w'' = w') := fun w' => by rw [hz1]; exact specEntry_any _ _ w'
      have UZ : Hid (U z1) := by rw [hz1]; exact U_entry _ _
      have c4 : wc.cell? ⟨m, 4, none⟩ = some (.slice A.ar 4096 A.cr) := by rw [row_cell DN.out.mp.row 4, ← HL.out]; rfl
      have HP := dhid (l1Put_dm (DN.out.below (Below.refl _ _).drew) 4096 HL.out 16 z1 UZ.out (by omega))
      clear hz1
      go_wp2_with fail
      go_cut [] from 7 (fun wc => ∃ (M : MV), Hid (Dm w0 g a n cap w r m M A wc) ∧ Hid (M.ram.length = 4096))
      case first =>
        go_region_with (first | (go_at_call 61; with_reducible refine (HE.out _).mono ?_; rintro e wy ⟨rfl, rfl⟩) | (go_at_call 43; refine HP.out.mono ?_; rintro e wz ⟨rfl, M', DZ, HZ⟩))
        all_goals go_wp2_with fail
        all_goals go_meet
        all_goals exact ⟨M', DZ, HZ⟩
      case rest =>
        clear HL DN HE UZ c4 HP
        obtain ⟨M, DN, HL⟩ := hcut
        go_wp2_with fail
        refine (l1Once_c HD.out 2 (by omega) _ DN.out.cur).mono ?_
        rintro e w3 ⟨c3, rfl, hs3⟩
        have D3 := dhid (DN.out.next hs3.out)
        clear hs3 DN
        go_upto_if 45 with fail
        go_cut [] from 7 (fun wc => ∃ (M : MV), Hid (Dm w0 g a n cap w r m M A wc) ∧ Hid (M.ram.length = 4096))
        case first =>
          cases c3
          · go_wp2_with fail
            go_meet
            exact ⟨M, D3, HL⟩
          · obtain ⟨z2, hz2⟩ : ∃ z, z = entryV 524288 223 := ⟨_, rfl⟩
            have HE : Hid (∀ w', Calls Try.prog 61 #[.int .u64 524288, .int .i64 223] w' fun e w'' => e = .returned (.int .u64 z2) ∧ w'' = w') := fun w' => by rw [hz2]; exact specEntry_any _ _ w'
            have UZ : Hid (U z2) := by rw [hz2]; exact U_entry _ _
            have c4 : w3.cell? ⟨m, 4, none⟩ = some (.slice A.ar 4096 A.cr) := by rw [row_cell D3.out.mp.row 4, ← HL.out]; rfl
            have HP := dhid (l1Put_dm (D3.out.below (Below.refl _ _).drew) 4096 HL.out 8 z2 UZ.out (by omega))
            clear hz2
            go_wp2_with fail
            go_region_with (first | (go_at_call 61; with_reducible refine (HE.out _).mono ?_; rintro e wy ⟨rfl, rfl⟩) | (go_at_call 43; refine HP.out.mono ?_; rintro e wz ⟨rfl, M', DZ, HZ⟩))
            all_goals go_wp2_with fail
            all_goals go_meet
            all_goals exact ⟨M', DZ, HZ⟩
        case rest =>
          clear D3 HL
          obtain ⟨M, DN, HL⟩ := hcut
          go_wp2_with fail
          refine (l1Once_c HD.out 3 (by omega) _ DN.out.cur).mono ?_
          rintro e w4 ⟨c4, rfl, hs4⟩
          have D4 := dhid (DN.out.next hs4.out)
          clear hs4 DN
          cases c4
          · go_wp2_with fail
            refine bodyPost_end (results_none rfl _ _ _) rfl ?_
            exact ⟨rfl, M, D4⟩
          · obtain ⟨z3, hz3⟩ : ∃ z, z = entryV 0 207 := ⟨_, rfl⟩
            have HE : Hid (∀ w', Calls Try.prog 61 #[.int .u64 0, .int .i64 207] w' fun e w'' => e = .returned (.int .u64 z3) ∧ w'' = w') := fun w' => by rw [hz3]; exact specEntry_any _ _ w'
            have UZ : Hid (U z3) := by rw [hz3]; exact U_entry _ _
            have c4 : w4.cell? ⟨m, 4, none⟩ = some (.slice A.ar 4096 A.cr) := by rw [row_cell D4.out.mp.row 4, ← HL.out]; rfl
            have HP := dhid (l1Put_dm (D4.out.below (Below.refl _ _).drew) 4096 HL.out 0 z3 UZ.out (by omega))
            clear hz3
            go_wp2_with fail
            go_region_with (first | (go_at_call 61; with_reducible refine (HE.out _).mono ?_; rintro e wy ⟨rfl, rfl⟩) | (go_at_call 43; refine HP.out.mono ?_; rintro e wz ⟨rfl, M', DZ, HZ⟩))
            all_goals go_wp2_with fail
            all_goals refine bodyPost_end (results_none rfl _ _ _) rfl ?_
            all_goals exact ⟨rfl, M', DZ⟩

set_option maxRecDepth 100000 in
set_option maxHeartbeats 6400000 in
theorem l7DrawPaged_8192 {zs : List Int} {w0 : World} {g : Nat} {a : Option Addr} {n cap : Nat} {w : World} {r m : Nat} {M : MV} {A : MA} {wr : World} (hcd : Code w0 a n zs) (h : Dm w0 g a n cap w r m M A wr) (hL : M.ram.length = 8192) :
    Calls Try.prog 47 #[.pointer (some ⟨g, 0, none⟩), .pointer (some ⟨m, 0, none⟩)] wr fun e w' => e = .returned (.tuple #[]) ∧ ∃ M' : MV, Hid (Dm w0 g a n cap w r m M' A w') := by
  have HD : Hid (Code w0 a n zs) := hcd
  have HL := dhid hL
  obtain ⟨bc, cc, ea, ec, cm, cells⟩ := h.atC
  obtain ⟨q15, r15⟩ := cells 15 (by omega)
  have c4 : wr.cell? ⟨m, 4, none⟩ = some (.slice A.ar 8192 A.cr) := by rw [row_cell h.mp.row 4, ← hL]; rfl
  have c2 : wr.cell? ⟨m, 2, none⟩ = some (.int .i64 M.pr) := row_cell h.mp.row 2
  have mbc : ¬ m = bc := fun e => h.mp.ne (wRow A.ac M.cs.length A.cc M.cs) (by simp [mvF]) (by simp only [wRow]; rw [ea, e]; rfl)
  have mbd : ¬ bc = m := fun e => mbc e.symm
  have SET := dhid (fun v (hv : U v) => h.setC bc ea 15 hv)
  clear hcd hL h cells ec
  go_enter Try.func47, Try.ntmps47
  go_upto_if 30 with fail
  generalize hv : IntKind.u64.wrap (bits BinOp.or IntKind.u64 9223372036854775808 524290 - 1) = v15
  have D1 : Hid (∃ M : MV, Dm w0 g a n cap w r m M A (wr.setCell ⟨bc, 15, none⟩ (.int .u64 v15)) ∧ M.ram.length = 8192) := ⟨_, SET.out v15 (by rw [← hv]; exact U_wrap _), HL.out⟩
  generalize wr.setCell ⟨bc, 15, none⟩ (.int .u64 v15) = w1 at D1 ⊢
  generalize (M.pr == 0) = p0
  clear hv SET mbc mbd c2 c4 q15 r15 cm ea
  go_cut [6] from 7 (fun v wc => ∃ b : Int, v = .int .i64 b ∧ ∃ (M : MV), Hid (Dm w0 g a n cap w r m M A wc) ∧ Hid (M.ram.length = 8192))
  case first =>
    obtain ⟨M1, d1, l1⟩ := D1.out
    cases p0
    · go_wp2_with fail
      go_meet
      exact ⟨207, rfl, M1, d1, l1⟩
    · go_wp2_with fail
      go_meet
      exact ⟨223, rfl, M1, d1, l1⟩
  case rest =>
    clear D1 HL
    obtain ⟨b1, rfl, M, DN, HL⟩ := hcut
    go_wp2_with fail
    refine (l1Once_c HD.out 2 (by omega) _ DN.out.cur).mono ?_
    rintro e w2 ⟨c2, rfl, hs2⟩
    have D2 := dhid (DN.out.next hs2.out)
    clear hs2 DN
    go_upto_if 32 with fail
    go_cut [6] from 7 (fun v wc => ∃ b : Int, v = .int .i64 b ∧ ∃ (M : MV), Hid (Dm w0 g a n cap w r m M A wc) ∧ Hid (M.ram.length = 8192))
    case first =>
      cases c2
      · go_wp2_with fail
        go_meet
        exact ⟨b1, rfl, M, D2, HL⟩
      · go_wp2_with fail
        go_meet
        exact ⟨_, rfl, M, D2, HL⟩
    case rest =>
      clear D2 HL
      obtain ⟨b2, rfl, M, DN, HL⟩ := hcut
      obtain ⟨z1, hz1⟩ : ∃ z, z = entryV 524288 b2 := ⟨_, rfl⟩
      have HE : Hid (∀ w', Calls Try.prog 61 #[.int .u64 524288, .int .i64 b2] w' fun e w'' => e = .returned (.int .u64 z1) ∧ w'' = w') := fun w' => by rw [hz1]; exact specEntry_any _ _ w'
      have UZ : Hid (U z1) := by rw [hz1]; exact U_entry _ _
      have c4 : wc.cell? ⟨m, 4, none⟩ = some (.slice A.ar 8192 A.cr) := by rw [row_cell DN.out.mp.row 4, ← HL.out]; rfl
      have HP := dhid (l1Put_dm (DN.out.below (Below.refl _ _).drew) 8192 HL.out 4112 z1 UZ.out (by omega))
      clear hz1
      go_wp2_with fail
      go_cut [] from 7 (fun wc => ∃ (M : MV), Hid (Dm w0 g a n cap w r m M A wc) ∧ Hid (M.ram.length = 8192))
      case first =>
        go_region_with (first | (go_at_call 61; with_reducible refine (HE.out _).mono ?_; rintro e wy ⟨rfl, rfl⟩) | (go_at_call 43; refine HP.out.mono ?_; rintro e wz ⟨rfl, M', DZ, HZ⟩))
        all_goals go_wp2_with fail
        all_goals go_meet
        all_goals exact ⟨M', DZ, HZ⟩
      case rest =>
        clear HL DN HE UZ c4 HP
        obtain ⟨M, DN, HL⟩ := hcut
        go_wp2_with fail
        refine (l1Once_c HD.out 2 (by omega) _ DN.out.cur).mono ?_
        rintro e w3 ⟨c3, rfl, hs3⟩
        have D3 := dhid (DN.out.next hs3.out)
        clear hs3 DN
        go_upto_if 45 with fail
        go_cut [] from 7 (fun wc => ∃ (M : MV), Hid (Dm w0 g a n cap w r m M A wc) ∧ Hid (M.ram.length = 8192))
        case first =>
          cases c3
          · go_wp2_with fail
            go_meet
            exact ⟨M, D3, HL⟩
          · obtain ⟨z2, hz2⟩ : ∃ z, z = entryV 524288 223 := ⟨_, rfl⟩
            have HE : Hid (∀ w', Calls Try.prog 61 #[.int .u64 524288, .int .i64 223] w' fun e w'' => e = .returned (.int .u64 z2) ∧ w'' = w') := fun w' => by rw [hz2]; exact specEntry_any _ _ w'
            have UZ : Hid (U z2) := by rw [hz2]; exact U_entry _ _
            have c4 : w3.cell? ⟨m, 4, none⟩ = some (.slice A.ar 8192 A.cr) := by rw [row_cell D3.out.mp.row 4, ← HL.out]; rfl
            have HP := dhid (l1Put_dm (D3.out.below (Below.refl _ _).drew) 8192 HL.out 4104 z2 UZ.out (by omega))
            clear hz2
            go_wp2_with fail
            go_region_with (first | (go_at_call 61; with_reducible refine (HE.out _).mono ?_; rintro e wy ⟨rfl, rfl⟩) | (go_at_call 43; refine HP.out.mono ?_; rintro e wz ⟨rfl, M', DZ, HZ⟩))
            all_goals go_wp2_with fail
            all_goals go_meet
            all_goals exact ⟨M', DZ, HZ⟩
        case rest =>
          clear D3 HL
          obtain ⟨M, DN, HL⟩ := hcut
          go_wp2_with fail
          refine (l1Once_c HD.out 3 (by omega) _ DN.out.cur).mono ?_
          rintro e w4 ⟨c4, rfl, hs4⟩
          have D4 := dhid (DN.out.next hs4.out)
          clear hs4 DN
          cases c4
          · go_wp2_with fail
            refine bodyPost_end (results_none rfl _ _ _) rfl ?_
            exact ⟨rfl, M, D4⟩
          · obtain ⟨z3, hz3⟩ : ∃ z, z = entryV 0 207 := ⟨_, rfl⟩
            have HE : Hid (∀ w', Calls Try.prog 61 #[.int .u64 0, .int .i64 207] w' fun e w'' => e = .returned (.int .u64 z3) ∧ w'' = w') := fun w' => by rw [hz3]; exact specEntry_any _ _ w'
            have UZ : Hid (U z3) := by rw [hz3]; exact U_entry _ _
            have c4 : w4.cell? ⟨m, 4, none⟩ = some (.slice A.ar 8192 A.cr) := by rw [row_cell D4.out.mp.row 4, ← HL.out]; rfl
            have HP := dhid (l1Put_dm (D4.out.below (Below.refl _ _).drew) 8192 HL.out 4096 z3 UZ.out (by omega))
            clear hz3
            go_wp2_with fail
            go_region_with (first | (go_at_call 61; with_reducible refine (HE.out _).mono ?_; rintro e wy ⟨rfl, rfl⟩) | (go_at_call 43; refine HP.out.mono ?_; rintro e wz ⟨rfl, M', DZ, HZ⟩))
            all_goals go_wp2_with fail
            all_goals refine bodyPost_end (results_none rfl _ _ _) rfl ?_
            all_goals exact ⟨rfl, M', DZ⟩

theorem l7DrawPaged_c {zs : List Int} {w0 : World} {g : Nat} {a : Option Addr} {n cap : Nat} {w : World} {r m : Nat} {M : MV} {A : MA} {wr : World} (hcd : Code w0 a n zs) (h : Dm w0 g a n cap w r m M A wr) :
    Calls Try.prog 47 #[.pointer (some ⟨g, 0, none⟩), .pointer (some ⟨m, 0, none⟩)] wr fun e w' => e = .returned (.tuple #[]) ∧ ∃ M' : MV, Hid (Dm w0 g a n cap w r m M' A w') := by
  rcases h.fit.ram with e | e
  · exact l7DrawPaged_4096 hcd h e
  · exact l7DrawPaged_8192 hcd h e

end Go.Proofs.Ytmigfnlfjgkgkaa
