/- Own lemmas. -/
import Derived.Test.YtcdjfiljlahaeaaK04
import Derived.Test.YtcdjfiljlahaeaaK05
import Derived.Test.YtcdjfiljlahaeaaK07
import Derived.Test.YtcdjfiljlahaeaaK08
import Derived.Test.YtcdjfiljlahaeaaK11
import Derived.Test.YtcdjfiljlahaeaaK12
import Derived.Test.YtcdjfiljlahaeaaK18
import Derived.Test.YtcdjfiljlahaeaaK19
import Derived.Deep.Cut
import Derived.Deep.RegionHeld3
namespace Go.Proofs.Ytcdjfiljlahaeaa
open Go.RowKit
set_option linter.unusedVariables false

structure Ma (M : MV) : Prop where
  len : MLen M
  ux : ∀ j, U (M.x.getD j 0)
  ucs : ∀ j, U (M.cs.getD j 0)
  bram : ∀ y ∈ M.ram, (Lit.int .u8 y).wf = true
  d : FitsA M.d
  pc : U M.pc
  hd : U M.hd

theorem Mf.any {M : MV} (h : Mf M) : Ma M := ⟨h.len, h.ux, h.ucs, h.bram, h.d.any, h.pc, h.hd⟩

theorem Dm.outR {w0 : World} {g : Nat} {a : Option Addr} {n cap : Nat} {w : World} {m : Nat} {M : MV} {A : MA} {wr : World} (h : Dm w0 g a n cap w w.heap.size m M A wr) (i : Nat) (v : Value) (cs : Array Value) : Fam w.heap.size ((wr.setCell ⟨m, i, none⟩ v).setRow w.heap.size cs).heap.size ((wr.setCell ⟨m, i, none⟩ v).setRow w.heap.size cs) (mvF M A) ∧ Cs w0 g a n cap w ((wr.setCell ⟨m, i, none⟩ v).setRow w.heap.size cs) := by
  have hlo := h.mp.lo
  have hb0 : Below w.heap.size wr (wr.setCell ⟨m, i, none⟩ v) := ⟨rfl, rfl, rfl, by rw [size_set]; exact Nat.le_refl _, fun k hk => Below.heap_setCell _ _ _ k (by show k ≠ m; omega)⟩
  have hb : Below w.heap.size wr ((wr.setCell ⟨m, i, none⟩ v).setRow w.heap.size cs) := row_below hb0 (Nat.le_refl _) cs
  have hg := h.gr
  have h0 := h.w0w
  obtain ⟨i', hh, hi, hrow⟩ := h.cu.1.row
  refine ⟨?_, ⟨⟨h.cu.1.new, ?_, i', hh, hi, (hb.block g hg).trans hrow⟩, ⟨hb.os.trans h.cu.2.os, hb.tape.trans h.cu.2.tape, hb.output.trans h.cu.2.output, Nat.le_trans h.cu.2.size hb.size, fun k hk hne => (hb.block k hk).trans (h.cu.2.block k hk hne)⟩⟩⟩
  · have hf : Fam (w.heap.size + 1) wr.heap.size ((wr.setCell ⟨m, i, none⟩ v).setRow w.heap.size cs) (mvF M A) := by
      refine ⟨fun r hr => fown_of (h.mp.fam.own r hr) (fun k e => ?_), h.mp.fam.hi, h.mp.fam.ne⟩
      have hk : k ≠ w.heap.size := fun e2 => by have := (h.mp.fam.own r hr).lt _ e; omega
      have hk2 : k ≠ m := fun e2 => h.mp.ne r hr (by rw [← e2]; exact e)
      exact (setRow_other _ _ _ _ hk).trans (Below.heap_setCell _ _ _ k hk2)
    exact hf.low (by omega) hb.size
  · exact ⟨hb.os.trans h.cu.1.below.os, hb.tape.trans h.cu.1.below.tape, hb.output.trans h.cu.1.below.output, Nat.le_trans h.cu.1.below.size hb.size, fun k hk => (hb.block k (by omega)).trans (h.cu.1.below.block k hk)⟩

theorem Dm.atR {w0 : World} {g : Nat} {a : Option Addr} {n cap : Nat} {w : World} {r m : Nat} {M : MV} {A : MA} {wr : World} (h : Dm w0 g a n cap w r m M A wr) : ∃ b c, A.ar = some ⟨b, 0, none⟩ ∧ A.cr = c ∧ wr.cell? ⟨m, 4, none⟩ = some (.slice (some ⟨b, 0, none⟩) M.ram.length c) ∧ M.ram.length ≤ c := by
  have ho := h.mp.fam.own (bRow A.ar M.ram.length A.cr M.ram) (by simp [mvF])
  have hn : 0 < M.ram.length := by rcases h.fit.ram with e | e <;> omega
  rcases ho.2 with ⟨h1, h2⟩ | ⟨b, c, cur, h1, _, _, h3, h4, _⟩
  · simp only [bRow] at h2; omega
  · simp only [bRow] at h1 h3
    injection h1 with e1 e2 e3
    refine ⟨b, c, e1, e3, ?_, h3⟩
    have := row_cell h.mp.row 4
    rw [show (mvc M A)[4]? = some (.slice A.ar M.ram.length A.cr) from rfl] at this
    rw [e1, e3] at this
    exact this

theorem Dm.capX {w0 : World} {g : Nat} {a : Option Addr} {n cap : Nat} {w : World} {r m : Nat} {M : MV} {A : MA} {wr : World} (h : Dm w0 g a n cap w r m M A wr) : 32 ≤ A.cx := by
  have ho := h.mp.fam.own (wRow A.ax M.x.length A.cx M.x) (by simp [mvF])
  have hn := h.fit.x
  rcases ho.2 with ⟨h1, h2⟩ | ⟨b, c, cur, h1, _, _, h3, h4, _⟩
  · simp only [wRow] at h2; omega
  · simp only [wRow] at h1 h3
    injection h1 with e1 e2 e3
    omega

theorem sl_tail {k : IntKind} {w : World} {b : Nat} {zs : List Int} (h : Sl k w (some ⟨b, 0, none⟩) zs) : Sl k w (some ⟨b, 1, none⟩) zs.tail := by
  intro i hi
  rw [List.length_tail] at hi
  obtain ⟨b', o', e, h1, h2⟩ := h (i + 1) (by omega)
  cases e
  refine ⟨b, 1, rfl, h1, ?_⟩
  rw [show zs.tail.getD i 0 = zs.getD (i + 1) 0 from by cases zs <;> simp]
  rw [show 1 + i = 0 + (i + 1) from by omega]
  exact h2

def cutX (M : MV) : MV := ⟨M.pc, M.x.tail, M.pr, M.cs, M.ram, M.d, M.hd, M.hl, M.wt⟩

def cutR (M : MV) : MV := ⟨M.pc, M.x, M.pr, M.cs, M.ram.tail, M.d, M.hd, M.hl, M.wt⟩

def badP (M : MV) : MV := ⟨M.pc, M.x, 2, M.cs, M.ram, M.d, M.hd, M.hl, M.wt⟩

def slX (A : MA) (b : Nat) : MA := ⟨some ⟨b, 1, none⟩, A.cx - 1, A.ac, A.cc, A.ar, A.cr, A.ai, A.ci, A.ao, A.co⟩

def slR (A : MA) (b : Nat) : MA := ⟨A.ax, A.cx, A.ac, A.cc, some ⟨b, 1, none⟩, A.cr - 1, A.ai, A.ci, A.ao, A.co⟩

def MNew (B : Nat) (A : MA) : Prop := ∀ p, (p = A.ax ∨ p = A.ac ∨ p = A.ar ∨ p = A.ai ∨ p = A.ao) → ∀ b off, p = some ⟨b, off, none⟩ → B ≤ b

theorem own_from {B : Nat} {w : World} {t : TypeId} {p : Option Addr} {n c : Nat} {xs : List Value} (h : w.ownsRow B t 1 (.slice p n c) n xs) {b off : Nat} (hp : p = some ⟨b, off, none⟩) : B ≤ b := by
  subst hp
  rcases h.2 with ⟨h1, h2⟩ | ⟨g, cap, cur, h1, hg, _⟩
  · cases h1
  · cases h1; exact hg

theorem fam_from {B E : Nat} {w : World} {M : MV} {A : MA} (h : Fam B E w (mvF M A)) : MNew B A := by
  intro p hp b off e
  rcases hp with rfl | rfl | rfl | rfl | rfl
  · exact own_from (h.own (wRow A.ax M.x.length A.cx M.x) (by simp [mvF])) e
  · exact own_from (h.own (wRow A.ac M.cs.length A.cc M.cs) (by simp [mvF])) e
  · exact own_from (h.own (bRow A.ar M.ram.length A.cr M.ram) (by simp [mvF])) e
  · exact own_from (h.own (bRow A.ai M.d.xs.length A.ci M.d.xs) (by simp [mvF])) e
  · exact own_from (h.own (bRow A.ao M.d.ys.length A.co M.d.ys) (by simp [mvF])) e

theorem new_slX {B : Nat} {A : MA} {b : Nat} (h : MNew B A) (e : A.ax = some ⟨b, 0, none⟩) : MNew B (slX A b) := by
  intro p hp b' off hp2
  rcases hp with rfl | rfl | rfl | rfl | rfl
  · have e2 : b = b' := by have h3 : some (⟨b, 1, none⟩ : Addr) = some ⟨b', off, none⟩ := hp2; injection h3 with h4; injection h4
    rw [← e2]; exact h A.ax (Or.inl rfl) b 0 e
  · exact h A.ac (Or.inr (Or.inl rfl)) b' off hp2
  · exact h A.ar (Or.inr (Or.inr (Or.inl rfl))) b' off hp2
  · exact h A.ai (Or.inr (Or.inr (Or.inr (Or.inl rfl)))) b' off hp2
  · exact h A.ao (Or.inr (Or.inr (Or.inr (Or.inr rfl)))) b' off hp2

theorem new_slR {B : Nat} {A : MA} {b : Nat} (h : MNew B A) (e : A.ar = some ⟨b, 0, none⟩) : MNew B (slR A b) := by
  intro p hp b' off hp2
  rcases hp with rfl | rfl | rfl | rfl | rfl
  · exact h A.ax (Or.inl rfl) b' off hp2
  · exact h A.ac (Or.inr (Or.inl rfl)) b' off hp2
  · have e2 : b = b' := by have h3 : some (⟨b, 1, none⟩ : Addr) = some ⟨b', off, none⟩ := hp2; injection h3 with h4; injection h4
    rw [← e2]; exact h A.ar (Or.inr (Or.inr (Or.inl rfl))) b 0 e
  · exact h A.ai (Or.inr (Or.inr (Or.inr (Or.inl rfl)))) b' off hp2
  · exact h A.ao (Or.inr (Or.inr (Or.inr (Or.inr rfl)))) b' off hp2

theorem sl_grown {k : IntKind} {w w' : World} {g B : Nat} {p : Option Addr} {zs : List Int} (h : Sl k w p zs) (hg : w.grownBy w' (some g)) (hB : g < B) (hn : ∀ b off, p = some ⟨b, off, none⟩ → B ≤ b) : Sl k w' p zs := by
  intro i hi
  obtain ⟨b, off, e, h1, h2⟩ := h i hi
  have hb := hn b off e
  refine ⟨b, off, e, Nat.lt_of_lt_of_le h1 hg.size, ?_⟩
  have hk := hg.block b h1 (by simp; omega)
  rw [← h2]
  simp only [World.cell?, hk]

theorem msl_grown {w w' : World} {g B : Nat} {M : MV} {A : MA} (h : MSl w M A) (hg : w.grownBy w' (some g)) (hB : g < B) (hn : MNew B A) : MSl w' M A :=
  ⟨sl_grown h.x hg hB (hn A.ax (Or.inl rfl)), sl_grown h.cs hg hB (hn A.ac (Or.inr (Or.inl rfl))), sl_grown h.ram hg hB (hn A.ar (Or.inr (Or.inr (Or.inl rfl)))), sl_grown h.xs hg hB (hn A.ai (Or.inr (Or.inr (Or.inr (Or.inl rfl))))), sl_grown h.ys hg hB (hn A.ao (Or.inr (Or.inr (Or.inr (Or.inr rfl)))))⟩

theorem getD_tail (l : List Int) (j : Nat) : l.tail.getD j 0 = l.getD (j + 1) 0 := by cases l <;> simp

theorem cutX_ok {M : MV} (h : Mf M) : Ma (cutX M) ∧ machB (cutX M) = false := by
  refine ⟨⟨⟨by show M.x.tail.length ≤ _; rw [List.length_tail, h.x]; omega, h.len.cs, h.len.ram, h.len.xs, h.len.ys⟩, fun j => by show U (M.x.tail.getD j 0); rw [getD_tail]; exact h.ux _, h.ucs, h.bram, h.d.any, h.pc, h.hd⟩, ?_⟩
  have : regsB (cutX M).x.length (cutX M).x = false := by
    unfold regsB
    have e : (cutX M).x.length = 31 := by show M.x.tail.length = 31; rw [List.length_tail, h.x]
    simp [e]
  unfold machB
  rw [this]; simp

theorem badP_ok {M : MV} (h : Mf M) : Ma (badP M) ∧ machB (badP M) = false := by
  refine ⟨⟨⟨h.len.x, h.len.cs, h.len.ram, h.len.xs, h.len.ys⟩, h.ux, h.ucs, h.bram, h.d.any, h.pc, h.hd⟩, ?_⟩
  have : legalB (badP M).cs.length (badP M).cs (badP M).pr = false := by
    unfold legalB
    rw [show privB (badP M).pr = false from rfl, Bool.and_false]
  unfold machB
  rw [this]; simp

theorem cutR_ok {M : MV} (h : Mf M) : Ma (cutR M) ∧ machB (cutR M) = false := by
  refine ⟨⟨⟨h.len.x, h.len.cs, by show M.ram.tail.length ≤ _; rw [List.length_tail]; have := h.len.ram; omega, h.len.xs, h.len.ys⟩, h.ux, h.ucs, fun y hy => h.bram y (List.mem_of_mem_tail hy), h.d.any, h.pc, h.hd⟩, ?_⟩
  have : ramOkB (cutR M).ram.length = false := by
    have e : (cutR M).ram.length = 4095 ∨ (cutR M).ram.length = 8191 := by
      show M.ram.tail.length = _ ∨ M.ram.tail.length = _
      rw [List.length_tail]; rcases h.ram with e | e <;> rw [e] <;> simp
    rcases e with e | e <;> rw [e] <;> decide
  unfold machB
  rw [this]; simp

set_option maxRecDepth 100000 in
set_option maxHeartbeats 12800000 in
theorem l9DrawAny_c {w0 : World} {g : Nat} {a : Option Addr} {n cap : Nat} {zs : List Int} (hcd : Code w0 a n zs) (w : World) (hc : Cur w0 w g a n cap) :
    Calls Try.prog 30 #[.pointer (some ⟨g, 0, none⟩)] w fun e w' => ∃ (M : MV) (A : MA), e = .returned (.agg (mvc M A)) ∧ Hid (Ma M) ∧ Hid (MSl w' M A) ∧ Hid (machB M = true → Fam w.heap.size w'.heap.size w' (mvF M A)) ∧ Hid (MNew w.heap.size A) ∧ Hid (Cs w0 g a n cap w w') := by
  have HD : Hid (Code w0 a n zs) := hcd
  have HC := dhid hc
  have hgl := hc.lt
  have hw0 := hc.below.size
  clear hcd hc
  go_enter Try.func30, Try.ntmps30
  go_wp2_with fail
  refine (l9Draw_c HD.out _ (Cs.alloc HC.out _).1).mono ?_
  rintro e w1 ⟨M, A, rfl, hf, hfam, hs1⟩
  have RR1 := dhid (hs1.out.keep (heap_alloc_new w (.cells #[.int .u64 0, .slice none 0 0, .int .i64 0, .slice none 0 0, .slice none 0 0, .int .u64 0, .int .u64 0, .bool false, .slice none 0 0, .slice none 0 0, .int .i64 0, .int .u64 0, .bool false, .bool false] 30)) (Nat.ne_of_gt hgl))
  have C1 := dhid ((Cs.alloc HC.out _).trans hs1.out)
  have FM1 := dhid hfam.out
  rw [World.size_alloc] at FM1
  have D2 : Hid (Dm w0 g a n cap w w.heap.size w1.heap.size M A (w1.alloc (.cells (mvc M A) 30))) := by
    have hb := (Below.refl w1.heap.size w1).alloc (Nat.le_refl _) (.cells (mvc M A) 30)
    refine ⟨C1.out.trans (Cs.of_below C1.out.1 hb), (dstays hb RR1.out), ⟨heap_alloc_new _ _, (FM1.out.below hb).low (Nat.le_refl _) (by simp), fun q hq e => by have := FM1.out.hi q hq _ e; omega, by have := (Array.getElem?_eq_some_iff.1 RR1.out).1; omega⟩, hf.out, hgl, Nat.le_refl _, hw0⟩
  clear hf hfam hs1 RR1 C1 FM1 HC
  dsimp only [mvc] at D2 ⊢
  go_wp2_with fail
  obtain ⟨m, hm⟩ : ∃ m, m = w1.heap.size := ⟨_, rfl⟩
  obtain ⟨w2, hw2⟩ : ∃ W, W = w1.alloc (.cells #[.int .u64 M.pc, .slice A.ax M.x.length A.cx, .int .i64 M.pr, .slice A.ac M.cs.length A.cc, .slice A.ar M.ram.length A.cr, .int .u64 M.d.t, .int .u64 M.d.cm, .bool M.d.so, .slice A.ai M.d.xs.length A.ci, .slice A.ao M.d.ys.length A.co, .int .i64 M.d.ir, .int .u64 M.hd, .bool M.hl, .bool M.wt] 30) := ⟨_, rfl⟩
  rw [← hm, ← hw2] at D2
  rw [← hm, ← hw2]
  clear hm hw2
  refine (l1Once_c HD.out 20 (by omega) _ D2.out.cur).mono ?_
  rintro e w3 ⟨c3, rfl, hs3⟩
  have D3 := dhid (D2.out.next hs3.out)
  clear hs3 D2
  cases c3
  · have RM := dhid D3.out.mp.row
    have RR := dhid D3.out.res
    have OUT := dhid (fun x0 x1 x2 x3 x4 x5 x6 x7 x8 x9 x10 x11 x12 x13 => D3.out.outP x0 x1 x2 x3 x4 x5 x6 x7 x8 x9 x10 x11 x12 x13)
    have NM := dhid (show ¬ m = w.heap.size from fun e => by have := D3.out.mp.lo; omega)
    have FT := dhid D3.out.fit
    clear D3
    obtain ⟨a0, a1, a2, a3, a4, a5, a6, a7, a8, a9, a10, a11, a12, a13⟩ := cells14 RM.out
    obtain ⟨s0, s1, s2, s3, s4, s5, s6, s7, s8, s9, s10, s11, s12, s13⟩ := cells14 RR.out
    obtain ⟨y0, y1, y2, y3, y4, y5, y6, y7, y8, y9, y10, y11, y12, y13⟩ := froz14 RR.out
    have nd1 : ¬ m = w.heap.size := NM.out
    have nd2 : ¬ w.heap.size = m := fun e => NM.out e.symm
    clear RM NM
    go_wp2_with fail
    exact bodyPost_ret (results_cell_row Try.results30 _ _ _ _ _ _ _ rfl (row_put14 RR.out (.int .u64 M.pc) (.slice A.ax M.x.length A.cx) (.int .i64 M.pr) (.slice A.ac M.cs.length A.cc) (.slice A.ar M.ram.length A.cr) (.int .u64 M.d.t) (.int .u64 M.d.cm) (.bool M.d.so) (.slice A.ai M.d.xs.length A.ci) (.slice A.ao M.d.ys.length A.co) (.int .i64 M.d.ir) (.int .u64 M.hd) (.bool M.hl) (.bool M.wt)) Try.underlying30 rfl mac_size) rfl ⟨M, A, rfl, dhid FT.out.any, dhid (OUT.out _ _ _ _ _ _ _ _ _ _ _ _ _ _ ).1.msl, dhid (fun _ => (OUT.out _ _ _ _ _ _ _ _ _ _ _ _ _ _ ).1), dhid (fam_from (OUT.out undef undef undef undef undef undef undef undef undef undef undef undef undef undef ).1), dhid (OUT.out _ _ _ _ _ _ _ _ _ _ _ _ _ _ ).2⟩
  · go_wp2_with fail
    refine (l1Below_c HD.out 7 (by omega) _ D3.out.cur).mono ?_
    rintro e w4 ⟨k, rfl, ⟨hk0, hk1⟩, hs4⟩
    have D4 := dhid (D3.out.next hs4.out)
    clear hs4 D3
    obtain rfl | rfl | rfl | rfl | rfl | rfl | rfl : k = 0 ∨ k = 1 ∨ k = 2 ∨ k = 3 ∨ k = 4 ∨ k = 5 ∨ k = 6 := by omega
    · obtain ⟨Pd, hPd⟩ : ∃ Pd : World → Prop, Pd = fun w' => Dm w0 g a n cap w w.heap.size m M A w' := ⟨_, rfl⟩
      have PO : Hid (∀ w', Pd w' → Dm w0 g a n cap w w.heap.size m M A w') := by rw [hPd]; exact fun w' h => h
      have PN : Hid (∀ w', Pd w' → Pd w'.drew) := by rw [hPd]; exact fun w' h => h.below (Below.refl _ _).drew
      have p4 : Pd w4 := by rw [hPd]; exact D4.out
      clear D4
      have HBL : Hid (∀ w', Pd w' → Calls Try.prog 54 #[.pointer (some ⟨g, 0, none⟩), .int .i64 4] w' fun e w'' => ∃ y : Int, e = .returned (.int .i64 y) ∧ (0 ≤ y ∧ y < 4) ∧ Pd w'') := fun w' h => by
        rw [hPd] at h ⊢
        exact (l1Below_c HD.out 4 (by omega) w' h.cur).mono fun e w'' ⟨y, h1, h2, h3⟩ => ⟨y, h1, h2, h.next h3.out⟩
      have PC : Hid (∀ w', Pd w' → w'.cell? ⟨m, 0, none⟩ = some (.int .u64 M.pc) ∧ Pd w') := fun w' h => ⟨row_cell (PO.out w' h).mp.row 0, h⟩
      clear hPd
      go_wp2_with fail
      refine wp_region_K 7 (fun w' => w'.cell? ⟨m, 0, none⟩ = some (.int .u64 M.pc) ∧ Pd w') (by kernel_rfl) (PC.out _ (PN.out _ p4)) (fun hHeld => ?_)
      refine wpAnyK_take (i := 0) (oi := { dst := some 12, op := _, type := _, pos := _, after := _, guard := _ }) (v := .pointer (some ⟨m, 0, none⟩)) rfl (by kernel_rfl) (by kernel_rfl) (by kernel_rfl) (by kernel_rfl) (fun _ _ _ h => h) (Or.inl ⟨by rfl, ?_⟩) (by assumption) ?_
      · intro w' hSw
        go_simp
      simp only [Act.put, List.setIfInBounds_toArray, List.set_cons_zero, List.set_cons_succ]
      refine wpAnyK_take (i := 1) (oi := { dst := some 13, op := _, type := _, pos := _, after := _, guard := _ }) (v := .int .u64 M.pc) rfl (by kernel_rfl) (by kernel_rfl) (by kernel_rfl) (by kernel_rfl) (fun _ _ _ h => h) (Or.inl ⟨by rfl, ?_⟩) (by assumption) ?_
      · intro w' hSw
        go_simp
      simp only [Act.put, List.setIfInBounds_toArray, List.set_cons_zero, List.set_cons_succ]
      refine wpAnyK_take (i := 2) (oi := { dst := some 14, op := _, type := _, pos := _, after := _, guard := _ }) (v := .pointer (some ⟨g, 0, none⟩)) rfl (by kernel_rfl) (by kernel_rfl) (by kernel_rfl) (by kernel_rfl) (fun _ _ _ h => h) (Or.inl ⟨by rfl, ?_⟩) (by assumption) ?_
      · intro w' hSw
        go_simp
      simp only [Act.put, List.setIfInBounds_toArray, List.set_cons_zero, List.set_cons_succ]
      refine wpAnyK_one (i := 3) (o := { dst := some 15, op := _, type := _, pos := _, after := _, guard := _ }) rfl (by kernel_rfl) (by decide) (fun K hK => ?_)
      go_simp
      refine (HBL.out _ (PN.out _ p4)).mono ?_
      rintro e w5 ⟨y, rfl, ⟨hy0, hy1⟩, p5⟩
      refine hK.out _ _ (PC.out _ p5) (fun hHeld => ?_)
      clear hK
      refine wpAnyK_take (i := 4) (oi := { dst := some 16, op := _, type := _, pos := _, after := _, guard := _ }) (v := .int .u64 (IntKind.u64.wrap y)) rfl (by kernel_rfl) (by kernel_rfl) (by kernel_rfl) (by kernel_rfl) (fun _ _ _ h => h) (Or.inl ⟨by rfl, ?_⟩) (by assumption) ?_
      · intro w' hSw
        go_simp
      simp only [Act.put, List.setIfInBounds_toArray, List.set_cons_zero, List.set_cons_succ]
      refine wpAnyK_take (i := 5) (oi := { dst := some 17, op := _, type := _, pos := _, after := _, guard := _ }) (v := .int .u64 (IntKind.u64.wrap (M.pc + IntKind.u64.wrap y))) rfl (by kernel_rfl) (by kernel_rfl) (by kernel_rfl) (by kernel_rfl) (fun _ _ _ h => h) (Or.inl ⟨by rfl, ?_⟩) (by assumption) ?_
      · intro w' hSw
        go_simp
      simp only [Act.put, List.setIfInBounds_toArray, List.set_cons_zero, List.set_cons_succ]
      refine wpAnyK_take (i := 6) (oi := { dst := some 18, op := _, type := _, pos := _, after := _, guard := _ }) (v := .pointer (some ⟨m, 0, none⟩)) rfl (by kernel_rfl) (by kernel_rfl) (by kernel_rfl) (by kernel_rfl) (fun _ _ _ h => h) (Or.inl ⟨by rfl, ?_⟩) (by assumption) ?_
      · intro w' hSw
        go_simp
      simp only [Act.put, List.setIfInBounds_toArray, List.set_cons_zero, List.set_cons_succ]
      have cf := (PC.out _ p5).1
      have ff := froz (PO.out _ p5).mp.row 0
      have D6 := dhid ((PO.out _ p5).setPc (IntKind.u64.wrap (M.pc + IntKind.u64.wrap y)) (U_wrap _))
      refine wpAnyK_end (o := { dst := none, op := _, type := _, pos := _, after := _, guard := _ }) rfl (by kernel_rfl) (fun K hK => ?_)
      go_simp
      refine hK.out _ _ ?_
      clear hK
      refine wpAny_done (by kernel_rfl) ?_ _
      generalize w5.setCell ⟨m, 0, none⟩ (.int .u64 (IntKind.u64.wrap (M.pc + IntKind.u64.wrap y))) = w6 at D6 ⊢
      clear cf ff p5 p4 PO PN PC HBL hHeld
      obtain ⟨M, D6⟩ : ∃ M : MV, Hid (Dm w0 g a n cap w w.heap.size m M A w6) := ⟨_, D6⟩
      have RM := dhid D6.out.mp.row
      have RR := dhid D6.out.res
      have OUT := dhid (fun x0 x1 x2 x3 x4 x5 x6 x7 x8 x9 x10 x11 x12 x13 => D6.out.outP x0 x1 x2 x3 x4 x5 x6 x7 x8 x9 x10 x11 x12 x13)
      have NM := dhid (show ¬ m = w.heap.size from fun e => by have := D6.out.mp.lo; omega)
      have FT := dhid D6.out.fit
      clear D6
      obtain ⟨a0, a1, a2, a3, a4, a5, a6, a7, a8, a9, a10, a11, a12, a13⟩ := cells14 RM.out
      obtain ⟨s0, s1, s2, s3, s4, s5, s6, s7, s8, s9, s10, s11, s12, s13⟩ := cells14 RR.out
      obtain ⟨y0, y1, y2, y3, y4, y5, y6, y7, y8, y9, y10, y11, y12, y13⟩ := froz14 RR.out
      have nd1 : ¬ m = w.heap.size := NM.out
      have nd2 : ¬ w.heap.size = m := fun e => NM.out e.symm
      clear RM NM
      go_wp2_with fail
      exact bodyPost_ret (results_cell_row Try.results30 _ _ _ _ _ _ _ rfl (row_put14 RR.out (.int .u64 M.pc) (.slice A.ax M.x.length A.cx) (.int .i64 M.pr) (.slice A.ac M.cs.length A.cc) (.slice A.ar M.ram.length A.cr) (.int .u64 M.d.t) (.int .u64 M.d.cm) (.bool M.d.so) (.slice A.ai M.d.xs.length A.ci) (.slice A.ao M.d.ys.length A.co) (.int .i64 M.d.ir) (.int .u64 M.hd) (.bool M.hl) (.bool M.wt)) Try.underlying30 rfl mac_size) rfl ⟨M, A, rfl, dhid FT.out.any, dhid (OUT.out _ _ _ _ _ _ _ _ _ _ _ _ _ _ ).1.msl, dhid (fun _ => (OUT.out _ _ _ _ _ _ _ _ _ _ _ _ _ _ ).1), dhid (fam_from (OUT.out undef undef undef undef undef undef undef undef undef undef undef undef undef undef ).1), dhid (OUT.out _ _ _ _ _ _ _ _ _ _ _ _ _ _ ).2⟩
    · obtain ⟨bx, cx, ea, ec, cm, cells⟩ := D4.out.atX
      clear cells
      have EC := dhid ec
      obtain ⟨Pd, hPd⟩ : ∃ Pd : World → Prop, Pd = fun w' => Dm w0 g a n cap w w.heap.size m M A w' := ⟨_, rfl⟩
      have PO : Hid (∀ w', Pd w' → Dm w0 g a n cap w w.heap.size m M A w') := by rw [hPd]; exact fun w' h => h
      have PN : Hid (∀ w', Pd w' → Pd w'.drew) := by rw [hPd]; exact fun w' h => h.below (Below.refl _ _).drew
      have p4 : Pd w4 := by rw [hPd]; exact D4.out
      clear D4
      have HBL : Hid (∀ w', Pd w' → Calls Try.prog 54 #[.pointer (some ⟨g, 0, none⟩), .int .i64 2] w' fun e w'' => ∃ y : Int, e = .returned (.int .i64 y) ∧ (0 ≤ y ∧ y < 2) ∧ Pd w'') := fun w' h => by
        rw [hPd] at h ⊢
        exact (l1Below_c HD.out 2 (by omega) w' h.cur).mono fun e w'' ⟨y, h1, h2, h3⟩ => ⟨y, h1, h2, h.next h3.out⟩
      have PC : Hid (∀ w', Pd w' → w'.cell? ⟨m, 1, none⟩ = some (.slice (some ⟨bx, 0, none⟩) 32 cx) ∧ Pd w') := fun w' h => ⟨by obtain ⟨b', c', e1, e2, e3, _⟩ := (PO.out w' h).atX; rw [ea] at e1; cases e1; rw [EC.out] at e2; rw [e2]; exact e3, h⟩
      have PF : Hid (∀ w', Pd w' → (∃ v : Int, w'.cell? ⟨bx, 0, none⟩ = some (.int .u64 v)) ∧ w'.frozen? ⟨bx, 0, none⟩ = false) := fun w' h => by
        obtain ⟨b', c', e1, _, _, k⟩ := (PO.out w' h).atX
        rw [ea] at e1; cases e1
        exact ⟨⟨_, (k 0 (by omega)).1⟩, (k 0 (by omega)).2⟩
      have EA := dhid ea
      clear hPd ea ec cm EC
      go_wp2_with fail
      refine wp_region_K 6 (fun w' => w'.cell? ⟨m, 1, none⟩ = some (.slice (some ⟨bx, 0, none⟩) 32 cx) ∧ Pd w') (by kernel_rfl) (PC.out _ (PN.out _ p4)) (fun hHeld => ?_)
      refine wpAnyK_take (i := 0) (oi := { dst := some 21, op := _, type := _, pos := _, after := _, guard := _ }) (v := .pointer (some ⟨m, 1, none⟩)) rfl (by kernel_rfl) (by kernel_rfl) (by kernel_rfl) (by kernel_rfl) (fun _ _ _ h => h) (Or.inl ⟨by rfl, ?_⟩) (by assumption) ?_
      · intro w' hSw
        go_simp
      simp only [Act.put, List.setIfInBounds_toArray, List.set_cons_zero, List.set_cons_succ]
      refine wpAnyK_take (i := 1) (oi := { dst := some 22, op := _, type := _, pos := _, after := _, guard := _ }) (v := .slice (some ⟨bx, 0, none⟩) 32 cx) rfl (by kernel_rfl) (by kernel_rfl) (by kernel_rfl) (by kernel_rfl) (fun _ _ _ h => h) (Or.inl ⟨by rfl, ?_⟩) (by assumption) ?_
      · intro w' hSw
        go_simp
      simp only [Act.put, List.setIfInBounds_toArray, List.set_cons_zero, List.set_cons_succ]
      refine wpAnyK_take (i := 2) (oi := { dst := some 23, op := _, type := _, pos := _, after := _, guard := _ }) (v := .pointer (some ⟨g, 0, none⟩)) rfl (by kernel_rfl) (by kernel_rfl) (by kernel_rfl) (by kernel_rfl) (fun _ _ _ h => h) (Or.inl ⟨by rfl, ?_⟩) (by assumption) ?_
      · intro w' hSw
        go_simp
      simp only [Act.put, List.setIfInBounds_toArray, List.set_cons_zero, List.set_cons_succ]
      refine wpAnyK_one (i := 3) (o := { dst := some 24, op := _, type := _, pos := _, after := _, guard := _ }) rfl (by kernel_rfl) (by decide) (fun K hK => ?_)
      go_simp
      refine (HBL.out _ (PN.out _ p4)).mono ?_
      rintro e w5 ⟨y, rfl, ⟨hy0, hy1⟩, p5⟩
      refine hK.out _ _ (PC.out _ p5) (fun hHeld => ?_)
      clear hK
      refine wpAnyK_take (i := 4) (oi := { dst := some 25, op := _, type := _, pos := _, after := _, guard := _ }) (v := .int .u64 (IntKind.u64.wrap y)) rfl (by kernel_rfl) (by kernel_rfl) (by kernel_rfl) (by kernel_rfl) (fun _ _ _ h => h) (Or.inl ⟨by rfl, ?_⟩) (by assumption) ?_
      · intro w' hSw
        go_simp
      simp only [Act.put, List.setIfInBounds_toArray, List.set_cons_zero, List.set_cons_succ]
      refine wpAnyK_take (i := 5) (oi := { dst := some 26, op := _, type := _, pos := _, after := _, guard := _ }) (v := .pointer (some ⟨bx, 0, none⟩)) rfl (by kernel_rfl) (by kernel_rfl) (by kernel_rfl) (by kernel_rfl) (fun _ _ _ h => h) (Or.inl ⟨by rfl, ?_⟩) (by assumption) ?_
      · intro w' hSw
        go_simp
      simp only [Act.put, List.setIfInBounds_toArray, List.set_cons_zero, List.set_cons_succ]
      obtain ⟨⟨v, cv⟩, fv⟩ := PF.out _ p5
      have D6 := dhid ((PO.out _ p5).setX bx EA.out 0 (U_wrap y))
      refine wpAnyK_end (o := { dst := none, op := _, type := _, pos := _, after := _, guard := _ }) rfl (by kernel_rfl) (fun K hK => ?_)
      go_simp
      refine hK.out _ _ ?_
      clear hK
      refine wpAny_done (by kernel_rfl) ?_ _
      generalize w5.setCell ⟨bx, 0, none⟩ (.int .u64 (IntKind.u64.wrap y)) = w6 at D6 ⊢
      clear cv fv p5 p4 PO PN PC PF HBL hHeld
      obtain ⟨M, D6⟩ : ∃ M : MV, Hid (Dm w0 g a n cap w w.heap.size m M A w6) := ⟨_, D6⟩
      have RM := dhid D6.out.mp.row
      have RR := dhid D6.out.res
      have OUT := dhid (fun x0 x1 x2 x3 x4 x5 x6 x7 x8 x9 x10 x11 x12 x13 => D6.out.outP x0 x1 x2 x3 x4 x5 x6 x7 x8 x9 x10 x11 x12 x13)
      have NM := dhid (show ¬ m = w.heap.size from fun e => by have := D6.out.mp.lo; omega)
      have FT := dhid D6.out.fit
      clear D6
      obtain ⟨a0, a1, a2, a3, a4, a5, a6, a7, a8, a9, a10, a11, a12, a13⟩ := cells14 RM.out
      obtain ⟨s0, s1, s2, s3, s4, s5, s6, s7, s8, s9, s10, s11, s12, s13⟩ := cells14 RR.out
      obtain ⟨y0, y1, y2, y3, y4, y5, y6, y7, y8, y9, y10, y11, y12, y13⟩ := froz14 RR.out
      have nd1 : ¬ m = w.heap.size := NM.out
      have nd2 : ¬ w.heap.size = m := fun e => NM.out e.symm
      clear RM NM
      go_wp2_with fail
      exact bodyPost_ret (results_cell_row Try.results30 _ _ _ _ _ _ _ rfl (row_put14 RR.out (.int .u64 M.pc) (.slice A.ax M.x.length A.cx) (.int .i64 M.pr) (.slice A.ac M.cs.length A.cc) (.slice A.ar M.ram.length A.cr) (.int .u64 M.d.t) (.int .u64 M.d.cm) (.bool M.d.so) (.slice A.ai M.d.xs.length A.ci) (.slice A.ao M.d.ys.length A.co) (.int .i64 M.d.ir) (.int .u64 M.hd) (.bool M.hl) (.bool M.wt)) Try.underlying30 rfl mac_size) rfl ⟨M, A, rfl, dhid FT.out.any, dhid (OUT.out _ _ _ _ _ _ _ _ _ _ _ _ _ _ ).1.msl, dhid (fun _ => (OUT.out _ _ _ _ _ _ _ _ _ _ _ _ _ _ ).1), dhid (fam_from (OUT.out undef undef undef undef undef undef undef undef undef undef undef undef undef undef ).1), dhid (OUT.out _ _ _ _ _ _ _ _ _ _ _ _ _ _ ).2⟩
    · obtain ⟨bx, cx, ea, ec, cm, cells⟩ := D4.out.atX
      clear cells
      have hcap : 32 ≤ cx := by rw [← ec]; exact D4.out.capX
      have hc1 : ¬ cx = 1 := by omega
      have hc2 : ¬ cx - 1 = 0 := by omega
      have hc3 : ¬ cx ≤ 1 := by omega
      have RM : Hid ((w4.setCell ⟨m, 1, none⟩ (.slice (some ⟨bx, 1, none⟩) 31 (cx - 1))).heap[m]? = some (.cells #[.int .u64 M.pc, .slice (some ⟨bx, 1, none⟩) 31 (cx - 1), .int .i64 M.pr, .slice A.ac M.cs.length A.cc, .slice A.ar M.ram.length A.cr, .int .u64 M.d.t, .int .u64 M.d.cm, .bool M.d.so, .slice A.ai M.d.xs.length A.ci, .slice A.ao M.d.ys.length A.co, .int .i64 M.d.ir, .int .u64 M.hd, .bool M.hl, .bool M.wt] 30 (0, 0))) := heap_setC D4.out.mp.row 1 _
      have RR : Hid ((w4.setCell ⟨m, 1, none⟩ (.slice (some ⟨bx, 1, none⟩) 31 (cx - 1))).heap[w.heap.size]? = some (.cells (mvc zeroM zeroA) 30 (0, 0))) := (Below.heap_setCell _ _ _ _ (by show w.heap.size ≠ m; have := D4.out.mp.lo; omega)).trans D4.out.res
      have OUT := dhid (D4.out.outR 1 (.slice (some ⟨bx, 1, none⟩) 31 (cx - 1)) #[.int .u64 M.pc, .slice (some ⟨bx, 1, none⟩) 31 (cx - 1), .int .i64 M.pr, .slice A.ac M.cs.length A.cc, .slice A.ar M.ram.length A.cr, .int .u64 M.d.t, .int .u64 M.d.cm, .bool M.d.so, .slice A.ai M.d.xs.length A.ci, .slice A.ao M.d.ys.length A.co, .int .i64 M.d.ir, .int .u64 M.hd, .bool M.hl, .bool M.wt])
      have RZ := dhid (setRow_heap _ w.heap.size _ #[.int .u64 M.pc, .slice (some ⟨bx, 1, none⟩) 31 (cx - 1), .int .i64 M.pr, .slice A.ac M.cs.length A.cc, .slice A.ar M.ram.length A.cr, .int .u64 M.d.t, .int .u64 M.d.cm, .bool M.d.so, .slice A.ai M.d.xs.length A.ci, .slice A.ao M.d.ys.length A.co, .int .i64 M.d.ir, .int .u64 M.hd, .bool M.hl, .bool M.wt] _ _ RR.out)
      have FT := dhid (cutX_ok D4.out.fit)
      have EQ : Hid (mvc (cutX M) (slX A bx) = #[.int .u64 M.pc, .slice (some ⟨bx, 1, none⟩) 31 (cx - 1), .int .i64 M.pr, .slice A.ac M.cs.length A.cc, .slice A.ar M.ram.length A.cr, .int .u64 M.d.t, .int .u64 M.d.cm, .bool M.d.so, .slice A.ai M.d.xs.length A.ci, .slice A.ao M.d.ys.length A.co, .int .i64 M.d.ir, .int .u64 M.hd, .bool M.hl, .bool M.wt]) := by show mvc _ _ = _; unfold mvc cutX slX; dsimp only; rw [List.length_tail, D4.out.fit.x, ec]
      have HO : Hid ((#[.int .u64 M.pc, .slice (some ⟨bx, 1, none⟩) 31 (cx - 1), .int .i64 M.pr, .slice A.ac M.cs.length A.cc, .slice A.ar M.ram.length A.cr, .int .u64 M.d.t, .int .u64 M.d.cm, .bool M.d.so, .slice A.ai M.d.xs.length A.ci, .slice A.ao M.d.ys.length A.co, .int .i64 M.d.ir, .int .u64 M.hd, .bool M.hl, .bool M.wt] : Array Value).all (·.oneCell') = true) := by show _ = _; rw [← EQ.out]; exact mvc_oneM _ _
      have cf : w4.cell? ⟨m, 1, none⟩ = some (.slice A.ax M.x.length A.cx) := row_cell D4.out.mp.row 1
      have ff := froz D4.out.mp.row 1
      clear D4
      go_wp2_with (first | (refine wpList_load_row rfl 30 (.tmp 3) rfl m rfl 30 #[.int .u64 M.pc, .slice (some ⟨bx, 1, none⟩) 31 (cx - 1), .int .i64 M.pr, .slice A.ac M.cs.length A.cc, .slice A.ar M.ram.length A.cr, .int .u64 M.d.t, .int .u64 M.d.cm, .bool M.d.so, .slice A.ai M.d.xs.length A.ci, .slice A.ao M.d.ys.length A.co, .int .i64 M.d.ir, .int .u64 M.hd, .bool M.hl, .bool M.wt] (0, 0) _ RM.out Try.underlying30 rfl mac_size ?_) | (refine wpList_store_rowTo rfl 30 (.tmp 2) (.tmp 58) rfl rfl w.heap.size #[.int .u64 M.pc, .slice (some ⟨bx, 1, none⟩) 31 (cx - 1), .int .i64 M.pr, .slice A.ac M.cs.length A.cc, .slice A.ar M.ram.length A.cr, .int .u64 M.d.t, .int .u64 M.d.cm, .bool M.d.so, .slice A.ai M.d.xs.length A.ci, .slice A.ao M.d.ys.length A.co, .int .i64 M.d.ir, .int .u64 M.hd, .bool M.hl, .bool M.wt] rfl rfl 30 (mvc zeroM zeroA) RR.out mac_size rfl HO.out ?_))
      exact bodyPost_ret (results_cell_row Try.results30 _ _ _ _ _ _ _ rfl RZ.out Try.underlying30 rfl mac_size) rfl ⟨cutX M, slX A bx, by rw [EQ.out], dhid FT.out.1, dhid (have h := OUT.out.1.msl; ⟨by have := h.x; rw [ea] at this; exact sl_tail this, h.cs, h.ram, h.xs, h.ys⟩), dhid (fun e => absurd e (by rw [FT.out.2]; decide)), dhid (new_slX (fam_from OUT.out.1) ea), dhid OUT.out.2⟩
    · obtain ⟨bc, cc, ea, ec, cm, cells⟩ := D4.out.atC
      obtain ⟨c9, f9⟩ := cells 9 (by omega)
      have D5 := dhid ((D4.out.setC bc ea 9 (show U (bits .xor .u64 (M.cs.getD 9 0) 128) from U_bits _ _ _)).below (Below.refl _ _).drew)
      generalize M.cs.getD 9 0 = y at *
      clear cells D4 ea ec
      go_wp2_with fail
      refine wp_region_K 8 (fun w' => w'.cell? ⟨m, 3, none⟩ = some (.slice (some ⟨bc, 0, none⟩) 22 cc) ∧ w'.cell? ⟨bc, 9, none⟩ = some (.int .u64 y) ∧ w'.frozen? ⟨bc, 9, none⟩ = false) (by kernel_rfl) (by exact ⟨cm, c9, f9⟩) (fun hHeld => ?_)
      refine wpAnyK_take (i := 0) (oi := { dst := some 35, op := _, type := _, pos := _, after := _, guard := _ }) (v := .pointer (some ⟨m, 3, none⟩)) rfl (by kernel_rfl) (by kernel_rfl) (by kernel_rfl) (by kernel_rfl) (fun _ _ _ h => h) (Or.inl ⟨by rfl, ?_⟩) (by assumption) ?_
      · intro w' hSw
        go_simp
      simp only [Act.put, List.setIfInBounds_toArray, List.set_cons_zero, List.set_cons_succ]
      refine wpAnyK_take (i := 1) (oi := { dst := some 36, op := _, type := _, pos := _, after := _, guard := _ }) (v := .slice (some ⟨bc, 0, none⟩) 22 cc) rfl (by kernel_rfl) (by kernel_rfl) (by kernel_rfl) (by kernel_rfl) (fun _ _ _ h => h) (Or.inl ⟨by rfl, ?_⟩) (by assumption) ?_
      · intro w' hSw
        go_simp
      simp only [Act.put, List.setIfInBounds_toArray, List.set_cons_zero, List.set_cons_succ]
      refine wpAnyK_take (i := 2) (oi := { dst := some 37, op := _, type := _, pos := _, after := _, guard := _ }) (v := .pointer (some ⟨m, 3, none⟩)) rfl (by kernel_rfl) (by kernel_rfl) (by kernel_rfl) (by kernel_rfl) (fun _ _ _ h => h) (Or.inl ⟨by rfl, ?_⟩) (by assumption) ?_
      · intro w' hSw
        go_simp
      simp only [Act.put, List.setIfInBounds_toArray, List.set_cons_zero, List.set_cons_succ]
      refine wpAnyK_take (i := 3) (oi := { dst := some 38, op := _, type := _, pos := _, after := _, guard := _ }) (v := .slice (some ⟨bc, 0, none⟩) 22 cc) rfl (by kernel_rfl) (by kernel_rfl) (by kernel_rfl) (by kernel_rfl) (fun _ _ _ h => h) (Or.inl ⟨by rfl, ?_⟩) (by assumption) ?_
      · intro w' hSw
        go_simp
      simp only [Act.put, List.setIfInBounds_toArray, List.set_cons_zero, List.set_cons_succ]
      refine wpAnyK_take (i := 4) (oi := { dst := some 39, op := _, type := _, pos := _, after := _, guard := _ }) (v := .pointer (some ⟨bc, 9, none⟩)) rfl (by kernel_rfl) (by kernel_rfl) (by kernel_rfl) (by kernel_rfl) (fun _ _ _ h => h) (Or.inl ⟨by rfl, ?_⟩) (by assumption) ?_
      · intro w' hSw
        go_simp
      simp only [Act.put, List.setIfInBounds_toArray, List.set_cons_zero, List.set_cons_succ]
      refine wpAnyK_take (i := 5) (oi := { dst := some 40, op := _, type := _, pos := _, after := _, guard := _ }) (v := .int .u64 y) rfl (by kernel_rfl) (by kernel_rfl) (by kernel_rfl) (by kernel_rfl) (fun _ _ _ h => h) (Or.inl ⟨by rfl, ?_⟩) (by assumption) ?_
      · intro w' hSw
        go_simp
      simp only [Act.put, List.setIfInBounds_toArray, List.set_cons_zero, List.set_cons_succ]
      refine wpAnyK_take (i := 6) (oi := { dst := some 41, op := _, type := _, pos := _, after := _, guard := _ }) (v := .int .u64 (bits .xor .u64 y 128)) rfl (by kernel_rfl) (by kernel_rfl) (by kernel_rfl) (by kernel_rfl) (fun _ _ _ h => h) (Or.inl ⟨by rfl, ?_⟩) (by assumption) ?_
      · intro w' hSw
        go_simp
      simp only [Act.put, List.setIfInBounds_toArray, List.set_cons_zero, List.set_cons_succ]
      refine wpAnyK_take (i := 7) (oi := { dst := some 42, op := _, type := _, pos := _, after := _, guard := _ }) (v := .pointer (some ⟨bc, 9, none⟩)) rfl (by kernel_rfl) (by kernel_rfl) (by kernel_rfl) (by kernel_rfl) (fun _ _ _ h => h) (Or.inl ⟨by rfl, ?_⟩) (by assumption) ?_
      · intro w' hSw
        go_simp
      simp only [Act.put, List.setIfInBounds_toArray, List.set_cons_zero, List.set_cons_succ]
      refine wpAnyK_end (o := { dst := none, op := _, type := _, pos := _, after := _, guard := _ }) rfl (by kernel_rfl) (fun K hK => ?_)
      go_simp
      refine hK.out _ _ ?_
      clear hK
      refine wpAny_done (by kernel_rfl) ?_ _
      generalize (w4.setCell ⟨bc, 9, none⟩ (.int .u64 (bits .xor .u64 y 128))).drew = w6 at D5 ⊢
      clear c9 f9 cm hHeld
      obtain ⟨M, D5⟩ : ∃ M : MV, Hid (Dm w0 g a n cap w w.heap.size m M A w6) := ⟨_, D5⟩
      have RM := dhid D5.out.mp.row
      have RR := dhid D5.out.res
      have OUT := dhid (fun x0 x1 x2 x3 x4 x5 x6 x7 x8 x9 x10 x11 x12 x13 => D5.out.outP x0 x1 x2 x3 x4 x5 x6 x7 x8 x9 x10 x11 x12 x13)
      have NM := dhid (show ¬ m = w.heap.size from fun e => by have := D5.out.mp.lo; omega)
      have FT := dhid D5.out.fit
      clear D5
      obtain ⟨a0, a1, a2, a3, a4, a5, a6, a7, a8, a9, a10, a11, a12, a13⟩ := cells14 RM.out
      obtain ⟨s0, s1, s2, s3, s4, s5, s6, s7, s8, s9, s10, s11, s12, s13⟩ := cells14 RR.out
      obtain ⟨y0, y1, y2, y3, y4, y5, y6, y7, y8, y9, y10, y11, y12, y13⟩ := froz14 RR.out
      have nd1 : ¬ m = w.heap.size := NM.out
      have nd2 : ¬ w.heap.size = m := fun e => NM.out e.symm
      clear RM NM
      go_wp2_with fail
      exact bodyPost_ret (results_cell_row Try.results30 _ _ _ _ _ _ _ rfl (row_put14 RR.out (.int .u64 M.pc) (.slice A.ax M.x.length A.cx) (.int .i64 M.pr) (.slice A.ac M.cs.length A.cc) (.slice A.ar M.ram.length A.cr) (.int .u64 M.d.t) (.int .u64 M.d.cm) (.bool M.d.so) (.slice A.ai M.d.xs.length A.ci) (.slice A.ao M.d.ys.length A.co) (.int .i64 M.d.ir) (.int .u64 M.hd) (.bool M.hl) (.bool M.wt)) Try.underlying30 rfl mac_size) rfl ⟨M, A, rfl, dhid FT.out.any, dhid (OUT.out _ _ _ _ _ _ _ _ _ _ _ _ _ _ ).1.msl, dhid (fun _ => (OUT.out _ _ _ _ _ _ _ _ _ _ _ _ _ _ ).1), dhid (fam_from (OUT.out undef undef undef undef undef undef undef undef undef undef undef undef undef undef ).1), dhid (OUT.out _ _ _ _ _ _ _ _ _ _ _ _ _ _ ).2⟩
    · have RM : Hid ((w4.setCell ⟨m, 2, none⟩ (.int .i64 2)).heap[m]? = some (.cells #[.int .u64 M.pc, .slice A.ax M.x.length A.cx, .int .i64 2, .slice A.ac M.cs.length A.cc, .slice A.ar M.ram.length A.cr, .int .u64 M.d.t, .int .u64 M.d.cm, .bool M.d.so, .slice A.ai M.d.xs.length A.ci, .slice A.ao M.d.ys.length A.co, .int .i64 M.d.ir, .int .u64 M.hd, .bool M.hl, .bool M.wt] 30 (0, 0))) := heap_setC D4.out.mp.row 2 _
      have RR : Hid ((w4.setCell ⟨m, 2, none⟩ (.int .i64 2)).heap[w.heap.size]? = some (.cells (mvc zeroM zeroA) 30 (0, 0))) := (Below.heap_setCell _ _ _ _ (by show w.heap.size ≠ m; have := D4.out.mp.lo; omega)).trans D4.out.res
      have OUT := dhid (D4.out.outR 2 (.int .i64 2) #[.int .u64 M.pc, .slice A.ax M.x.length A.cx, .int .i64 2, .slice A.ac M.cs.length A.cc, .slice A.ar M.ram.length A.cr, .int .u64 M.d.t, .int .u64 M.d.cm, .bool M.d.so, .slice A.ai M.d.xs.length A.ci, .slice A.ao M.d.ys.length A.co, .int .i64 M.d.ir, .int .u64 M.hd, .bool M.hl, .bool M.wt])
      have RZ := dhid (setRow_heap _ w.heap.size _ #[.int .u64 M.pc, .slice A.ax M.x.length A.cx, .int .i64 2, .slice A.ac M.cs.length A.cc, .slice A.ar M.ram.length A.cr, .int .u64 M.d.t, .int .u64 M.d.cm, .bool M.d.so, .slice A.ai M.d.xs.length A.ci, .slice A.ao M.d.ys.length A.co, .int .i64 M.d.ir, .int .u64 M.hd, .bool M.hl, .bool M.wt] _ _ RR.out)
      have FT := dhid (badP_ok D4.out.fit)
      have EQ : Hid (mvc (badP M) (A) = #[.int .u64 M.pc, .slice A.ax M.x.length A.cx, .int .i64 2, .slice A.ac M.cs.length A.cc, .slice A.ar M.ram.length A.cr, .int .u64 M.d.t, .int .u64 M.d.cm, .bool M.d.so, .slice A.ai M.d.xs.length A.ci, .slice A.ao M.d.ys.length A.co, .int .i64 M.d.ir, .int .u64 M.hd, .bool M.hl, .bool M.wt]) := rfl
      have HO : Hid ((#[.int .u64 M.pc, .slice A.ax M.x.length A.cx, .int .i64 2, .slice A.ac M.cs.length A.cc, .slice A.ar M.ram.length A.cr, .int .u64 M.d.t, .int .u64 M.d.cm, .bool M.d.so, .slice A.ai M.d.xs.length A.ci, .slice A.ao M.d.ys.length A.co, .int .i64 M.d.ir, .int .u64 M.hd, .bool M.hl, .bool M.wt] : Array Value).all (·.oneCell') = true) := by show _ = _; rw [← EQ.out]; exact mvc_oneM _ _
      have cf : w4.cell? ⟨m, 2, none⟩ = some (.int .i64 M.pr) := row_cell D4.out.mp.row 2
      have ff := froz D4.out.mp.row 2
      clear D4
      go_wp2_with (first | (refine wpList_load_row rfl 30 (.tmp 3) rfl m rfl 30 #[.int .u64 M.pc, .slice A.ax M.x.length A.cx, .int .i64 2, .slice A.ac M.cs.length A.cc, .slice A.ar M.ram.length A.cr, .int .u64 M.d.t, .int .u64 M.d.cm, .bool M.d.so, .slice A.ai M.d.xs.length A.ci, .slice A.ao M.d.ys.length A.co, .int .i64 M.d.ir, .int .u64 M.hd, .bool M.hl, .bool M.wt] (0, 0) _ RM.out Try.underlying30 rfl mac_size ?_) | (refine wpList_store_rowTo rfl 30 (.tmp 2) (.tmp 58) rfl rfl w.heap.size #[.int .u64 M.pc, .slice A.ax M.x.length A.cx, .int .i64 2, .slice A.ac M.cs.length A.cc, .slice A.ar M.ram.length A.cr, .int .u64 M.d.t, .int .u64 M.d.cm, .bool M.d.so, .slice A.ai M.d.xs.length A.ci, .slice A.ao M.d.ys.length A.co, .int .i64 M.d.ir, .int .u64 M.hd, .bool M.hl, .bool M.wt] rfl rfl 30 (mvc zeroM zeroA) RR.out mac_size rfl HO.out ?_))
      exact bodyPost_ret (results_cell_row Try.results30 _ _ _ _ _ _ _ rfl RZ.out Try.underlying30 rfl mac_size) rfl ⟨badP M, A, by rw [EQ.out], dhid FT.out.1, dhid (have h := OUT.out.1.msl; ⟨h.x, h.cs, h.ram, h.xs, h.ys⟩), dhid (fun e => absurd e (by rw [FT.out.2]; decide)), dhid (fam_from OUT.out.1), dhid OUT.out.2⟩
    · go_wp2_with fail
      refine (l1Below_c HD.out 2 (by omega) _ D4.out.cur).mono ?_
      rintro e w5 ⟨y, rfl, ⟨hy0, hy1⟩, hs5⟩
      have D5 := dhid (D4.out.next hs5.out)
      have D6 := dhid (D5.out.setHd y ⟨hy0, by omega⟩)
      have RM := dhid D6.out.mp.row
      have RR := dhid D6.out.res
      have OUT := dhid (D6.out.outM (mvc (hdM M y) A))
      have RZ := dhid (setRow_heap _ w.heap.size _ (mvc (hdM M y) A) _ _ RR.out)
      have HO := dhid (mvc_oneM (hdM M y) A)
      have FT := dhid D6.out.fit
      have cf : w5.cell? ⟨m, 11, none⟩ = some (.int .u64 M.hd) := row_cell D5.out.mp.row 11
      have ff := froz D5.out.mp.row 11
      clear hs5 D4 D5 D6
      go_wp2_with (first | (refine wpList_load_row rfl 30 (.tmp 3) rfl m rfl 30 (mvc (hdM M y) A) (0, 0) _ RM.out Try.underlying30 rfl mac_size ?_) | (refine wpList_store_rowTo rfl 30 (.tmp 2) (.tmp 58) rfl rfl w.heap.size (mvc (hdM M y) A) rfl rfl 30 (mvc zeroM zeroA) RR.out mac_size rfl HO.out ?_))
      exact bodyPost_ret (results_cell_row Try.results30 _ _ _ _ _ _ _ rfl RZ.out Try.underlying30 rfl mac_size) rfl ⟨hdM M y, A, rfl, dhid FT.out.any, dhid OUT.out.1.msl, dhid (fun _ => OUT.out.1), dhid (fam_from OUT.out.1), dhid OUT.out.2⟩
    · obtain ⟨br, cr, ea, ec, cm, hcr⟩ := D4.out.atR
      obtain ⟨nr, hnr⟩ : ∃ nr, nr = M.ram.length := ⟨_, rfl⟩
      have hn1 : 1 ≤ nr := by rw [hnr]; rcases D4.out.fit.ram with e | e <;> omega
      rw [← hnr] at cm hcr
      have hn2 : 4096 ≤ nr := by rw [hnr]; rcases D4.out.fit.ram with e | e <;> omega
      have hc1 : ¬ cr = 1 := by omega
      have hc2 : ¬ cr - 1 = 0 := by omega
      have hc3 : ¬ cr ≤ 1 := by omega
      have hc4 : ¬ nr < 1 := by omega
      have HN := dhid hnr
      clear hnr
      have RM : Hid ((w4.setCell ⟨m, 4, none⟩ (.slice (some ⟨br, 1, none⟩) (nr - 1) (cr - 1))).heap[m]? = some (.cells #[.int .u64 M.pc, .slice A.ax M.x.length A.cx, .int .i64 M.pr, .slice A.ac M.cs.length A.cc, .slice (some ⟨br, 1, none⟩) (nr - 1) (cr - 1), .int .u64 M.d.t, .int .u64 M.d.cm, .bool M.d.so, .slice A.ai M.d.xs.length A.ci, .slice A.ao M.d.ys.length A.co, .int .i64 M.d.ir, .int .u64 M.hd, .bool M.hl, .bool M.wt] 30 (0, 0))) := heap_setC D4.out.mp.row 4 _
      have RR : Hid ((w4.setCell ⟨m, 4, none⟩ (.slice (some ⟨br, 1, none⟩) (nr - 1) (cr - 1))).heap[w.heap.size]? = some (.cells (mvc zeroM zeroA) 30 (0, 0))) := (Below.heap_setCell _ _ _ _ (by show w.heap.size ≠ m; have := D4.out.mp.lo; omega)).trans D4.out.res
      have OUT := dhid (D4.out.outR 4 (.slice (some ⟨br, 1, none⟩) (nr - 1) (cr - 1)) #[.int .u64 M.pc, .slice A.ax M.x.length A.cx, .int .i64 M.pr, .slice A.ac M.cs.length A.cc, .slice (some ⟨br, 1, none⟩) (nr - 1) (cr - 1), .int .u64 M.d.t, .int .u64 M.d.cm, .bool M.d.so, .slice A.ai M.d.xs.length A.ci, .slice A.ao M.d.ys.length A.co, .int .i64 M.d.ir, .int .u64 M.hd, .bool M.hl, .bool M.wt])
      have RZ := dhid (setRow_heap _ w.heap.size _ #[.int .u64 M.pc, .slice A.ax M.x.length A.cx, .int .i64 M.pr, .slice A.ac M.cs.length A.cc, .slice (some ⟨br, 1, none⟩) (nr - 1) (cr - 1), .int .u64 M.d.t, .int .u64 M.d.cm, .bool M.d.so, .slice A.ai M.d.xs.length A.ci, .slice A.ao M.d.ys.length A.co, .int .i64 M.d.ir, .int .u64 M.hd, .bool M.hl, .bool M.wt] _ _ RR.out)
      have FT := dhid (cutR_ok D4.out.fit)
      have EQ : Hid (mvc (cutR M) (slR A br) = #[.int .u64 M.pc, .slice A.ax M.x.length A.cx, .int .i64 M.pr, .slice A.ac M.cs.length A.cc, .slice (some ⟨br, 1, none⟩) (nr - 1) (cr - 1), .int .u64 M.d.t, .int .u64 M.d.cm, .bool M.d.so, .slice A.ai M.d.xs.length A.ci, .slice A.ao M.d.ys.length A.co, .int .i64 M.d.ir, .int .u64 M.hd, .bool M.hl, .bool M.wt]) := by show mvc _ _ = _; unfold mvc cutR slR; dsimp only; rw [List.length_tail, ec, HN.out]
      have HO : Hid ((#[.int .u64 M.pc, .slice A.ax M.x.length A.cx, .int .i64 M.pr, .slice A.ac M.cs.length A.cc, .slice (some ⟨br, 1, none⟩) (nr - 1) (cr - 1), .int .u64 M.d.t, .int .u64 M.d.cm, .bool M.d.so, .slice A.ai M.d.xs.length A.ci, .slice A.ao M.d.ys.length A.co, .int .i64 M.d.ir, .int .u64 M.hd, .bool M.hl, .bool M.wt] : Array Value).all (·.oneCell') = true) := by show _ = _; rw [← EQ.out]; exact mvc_oneM _ _
      have cf : w4.cell? ⟨m, 4, none⟩ = some (.slice A.ar M.ram.length A.cr) := row_cell D4.out.mp.row 4
      have ff := froz D4.out.mp.row 4
      clear D4
      go_wp2_with (first | (refine wpList_load_row rfl 30 (.tmp 3) rfl m rfl 30 #[.int .u64 M.pc, .slice A.ax M.x.length A.cx, .int .i64 M.pr, .slice A.ac M.cs.length A.cc, .slice (some ⟨br, 1, none⟩) (nr - 1) (cr - 1), .int .u64 M.d.t, .int .u64 M.d.cm, .bool M.d.so, .slice A.ai M.d.xs.length A.ci, .slice A.ao M.d.ys.length A.co, .int .i64 M.d.ir, .int .u64 M.hd, .bool M.hl, .bool M.wt] (0, 0) _ RM.out Try.underlying30 rfl mac_size ?_) | (refine wpList_store_rowTo rfl 30 (.tmp 2) (.tmp 58) rfl rfl w.heap.size #[.int .u64 M.pc, .slice A.ax M.x.length A.cx, .int .i64 M.pr, .slice A.ac M.cs.length A.cc, .slice (some ⟨br, 1, none⟩) (nr - 1) (cr - 1), .int .u64 M.d.t, .int .u64 M.d.cm, .bool M.d.so, .slice A.ai M.d.xs.length A.ci, .slice A.ao M.d.ys.length A.co, .int .i64 M.d.ir, .int .u64 M.hd, .bool M.hl, .bool M.wt] rfl rfl 30 (mvc zeroM zeroA) RR.out mac_size rfl HO.out ?_))
      exact bodyPost_ret (results_cell_row Try.results30 _ _ _ _ _ _ _ rfl RZ.out Try.underlying30 rfl mac_size) rfl ⟨cutR M, slR A br, by rw [EQ.out], dhid FT.out.1, dhid (have h := OUT.out.1.msl; ⟨h.x, h.cs, by have := h.ram; rw [ea] at this; exact sl_tail this, h.xs, h.ys⟩), dhid (fun e => absurd e (by rw [FT.out.2]; decide)), dhid (new_slR (fam_from OUT.out.1) ea), dhid OUT.out.2⟩

theorem sl_lt9 {k : IntKind} {w : World} {p : Option Addr} {zs : List Int} (h : Sl k w p zs) {b off : Nat} (e : p = some ⟨b, off, none⟩) (hz : 0 < zs.length) : b < w.heap.size := by
  obtain ⟨b', off', e', h1, _⟩ := h 0 hz
  rw [e] at e'; cases e'; exact h1

theorem sl_row9 {k : IntKind} {w : World} {p : Option Addr} {zs : List Int} (h : Sl k w p zs) (g : Nat) (cs : Array Value) (hn : ∀ b off, p = some ⟨b, off, none⟩ → 0 < zs.length → b ≠ g) : Sl k (w.setRow g cs) p zs := by
  intro i hi
  obtain ⟨b, off, e, h1, h2⟩ := h i hi
  have hb := hn b off e (by omega)
  refine ⟨b, off, e, by rw [setRow_size]; exact h1, ?_⟩
  rw [← h2]
  simp only [World.cell?, setRow_other w g b cs hb]

theorem devM_any {M : MV} (h : Ma M) {D : DV} (hd : FitsA D) : Ma (devM M D) :=
  ⟨⟨h.len.x, h.len.cs, h.len.ram, by have := hd.l1; show D.xs.length ≤ _; omega, by have := hd.l2; show D.ys.length ≤ _; omega⟩, h.ux, h.ucs, h.bram, hd, h.pc, h.hd⟩

set_option maxRecDepth 100000 in
set_option maxHeartbeats 6400000 in
theorem DrawLined_c {a : Option Addr} {n : Nat} (cap : Nat) {zs : List Int} (w : World) (hcd : Code w a n zs) :
    Calls Try.prog 11 #[.slice a n cap] w fun e w' => ∃ (M : MV) (A : MA), e = .returned (.agg (mvc M A)) ∧ Hid (Ma M) ∧ Hid (MSl w' M A) ∧ Hid (Below w.heap.size w w') := by
  have HD : Hid (∀ o, Code (w.alloc o) a n zs) := fun o => ⟨hcd.len, hcd.few, hcd.sl.below ((Below.refl _ _).alloc (Nat.le_refl _) o), hcd.bd⟩
  clear hcd
  go_enter Try.func11, Try.ntmps11
  go_wp2_with fail
  refine (l1New_c cap _ (HD.out _)).mono ?_
  rintro e w1 ⟨g, rfl, hc⟩
  have RR := dhid (hc.out.below.block w.heap.size (by rw [World.size_alloc]; omega) |>.trans (heap_alloc_new w (.cells (mvc zeroM zeroA) 30)))
  have HG := dhid (show w.heap.size < g by have := hc.out.new; rw [World.size_alloc] at this; omega)
  obtain ⟨W0, hW0⟩ : ∃ W0, W0 = w.alloc (.cells (mvc zeroM zeroA) 30) := ⟨_, rfl⟩
  have hc2 : Hid (Cur W0 w1 g a n cap) := by rw [hW0]; exact hc
  have HD0 : Hid (Code W0 a n zs) := by rw [hW0]; exact HD.out _
  have BW : Hid (Below w.heap.size w W0) := by rw [hW0]; exact (Below.refl _ _).alloc (Nat.le_refl _) _
  have SW : Hid (W0.heap.size = w.heap.size + 1) := by show _ = _; rw [hW0, World.size_alloc]
  have HL := dhid hc2.out.lt
  clear hc hW0 HD
  go_wp2_with fail
  refine (l9DrawAny_c HD0.out _ hc2.out).mono ?_
  rintro e w2 ⟨M, A, rfl, FA, SL, -, MN, hs2⟩
  have CA := dhid (Cs.alloc hs2.out.1 (.cells (mvc M A) 30))
  have SL2 := dhid (SL.out.below ((Below.refl _ _).alloc (Nat.le_refl _) (.cells (mvc M A) 30)))
  have R2 := dhid (heap_alloc_new w2 (.cells (mvc M A) 30))
  have Z2 := dhid hs2.out.2.size
  have LX := dhid (fun b off e hz => sl_lt9 (b := b) (off := off) SL.out.x e hz)
  have LC := dhid (fun b off e hz => sl_lt9 (b := b) (off := off) SL.out.cs e hz)
  have LR := dhid (fun b off e hz => sl_lt9 (b := b) (off := off) SL.out.ram e hz)
  dsimp only [mvc] at CA SL2 R2 ⊢
  clear SL
  go_wp2_with fail
  refine (l8DrawAny_c HD0.out _ CA.out.1).mono ?_
  rintro e w4 ⟨D, a1, c1, a2, c2, rfl, FD, FM, hs4⟩
  obtain ⟨m, hm⟩ : ∃ m, m = w2.heap.size := ⟨_, rfl⟩
  have NM : Hid (w.heap.size < m ∧ g ≠ m ∧ g ≠ w.heap.size) := by show _ ∧ _; have := HG.out; have := HL.out; have := Z2.out; omega
  have R4 : Hid (w4.heap[m]? = some (.cells (mvc M A) 30 (0, 0))) := by show _ = _; rw [hm]; exact hs4.out.keep R2.out (fun e => NM.out.2.1 (by rw [hm]; exact e.symm))
  have RR4 : Hid (w4.heap[w.heap.size]? = some (.cells (mvc zeroM zeroA) 30 (0, 0))) := hs4.out.keep ((CA.out.keep (hs2.out.keep RR.out (fun e => NM.out.2.2 e.symm)) (fun e => NM.out.2.2 e.symm))) (fun e => NM.out.2.2 e.symm)
  have SL4 := dhid (msl_grown SL2.out hs4.out.2 HL.out MN.out)
  have NX := dhid (fun b off e => MN.out A.ax (Or.inl rfl) b off e)
  have NC := dhid (fun b off e => MN.out A.ac (Or.inr (Or.inl rfl)) b off e)
  have NR := dhid (fun b off e => MN.out A.ar (Or.inr (Or.inr (Or.inl rfl))) b off e)
  have FM2 := dhid FM.out
  rw [World.size_alloc] at FM2
  have NI := dhid (fun b off e => own_from (b := b) (off := off) (FM2.out.own (bRow a1 D.xs.length c1 D.xs) (by simp [dvF, devF])) e)
  have NO := dhid (fun b off e => own_from (b := b) (off := off) (FM2.out.own (bRow a2 D.ys.length c2 D.ys) (by simp [dvF, devF])) e)
  have SI := dhid (own_sl' (FM2.out.own (bRow a1 D.xs.length c1 D.xs) (by simp [dvF, devF])))
  have SO := dhid (own_sl' (FM2.out.own (bRow a2 D.ys.length c2 D.ys) (by simp [dvF, devF])))
  have W1 := dhid (show w.heap.size < w1.heap.size by have := HG.out; have := HL.out; omega)
  clear FM
  have B4 : Hid (Below w.heap.size w w4) := by
    have h1 := hs2.out.trans (CA.out.trans hs4.out)
    show Below _ _ _
    have hcur := h1.1.below
    have hb0 : Below w.heap.size W0 w4 := ⟨hcur.os, hcur.tape, hcur.output, hcur.size, fun k hk => hcur.block k (by have := SW.out; omega)⟩
    exact BW.out.trans hb0
  have dsz : (Try.prog.info? 28).map (·.size) = some 6 := dev_size
  have ndm : ¬ m = w.heap.size := by have := NM.out; omega
  rw [← hm] at LX LC LR NI NO
  rw [← hm]
  clear hm CA SL2 R2 hs2 RR HG hc2 HD0 BW SW HL Z2 MN
  have R5 := dhid (setRow_heap w4 m _ (mvc (devM M D) (devA A a1 c1 a2 c2)) _ _ R4.out)
  have RR5 := dhid ((setRow_other w4 m w.heap.size (mvc (devM M D) (devA A a1 c1 a2 c2)) (fun e => ndm e.symm)).trans RR4.out)
  have OUT : Hid (MSl ((w4.setRow m (mvc (devM M D) (devA A a1 c1 a2 c2))).setRow w.heap.size (mvc (devM M D) (devA A a1 c1 a2 c2))) (devM M D) (devA A a1 c1 a2 c2)) := by
    have hw := W1.out
    refine ⟨?_, ?_, ?_, ?_, ?_⟩
    · exact sl_row9 (sl_row9 SL4.out.x _ _ (fun b off e hz => by have := LX.out b off e hz; omega)) _ _ (fun b off e hz => by have := NX.out b off e; omega)
    · exact sl_row9 (sl_row9 SL4.out.cs _ _ (fun b off e hz => by have := LC.out b off e hz; omega)) _ _ (fun b off e hz => by have := NC.out b off e; omega)
    · exact sl_row9 (sl_row9 SL4.out.ram _ _ (fun b off e hz => by have := LR.out b off e hz; omega)) _ _ (fun b off e hz => by have := NR.out b off e; omega)
    · exact sl_row9 (sl_row9 SI.out _ _ (fun b off e hz => by have := NI.out b off e; omega)) _ _ (fun b off e hz => by have := NI.out b off e; have := NM.out; omega)
    · exact sl_row9 (sl_row9 SO.out _ _ (fun b off e hz => by have := NO.out b off e; omega)) _ _ (fun b off e hz => by have := NO.out b off e; have := NM.out; omega)
  have BB : Hid (Below w.heap.size w ((w4.setRow m (mvc (devM M D) (devA A a1 c1 a2 c2))).setRow w.heap.size (mvc (devM M D) (devA A a1 c1 a2 c2)))) := row_below (row_below B4.out (by have := NM.out; omega) _) (Nat.le_refl _) _
  have RZ := dhid (setRow_heap _ w.heap.size _ (mvc (devM M D) (devA A a1 c1 a2 c2)) _ _ RR5.out)
  have FT := dhid (devM_any FA.out FD.out)
  clear SL4 SI SO LX LC LR NX NC NR NI NO W1 NM B4 FM2 hs4
  have HO := dhid (mvc_oneM (devM M D) (devA A a1 c1 a2 c2))
  go_wp2_with (first | (refine wpList_store_at rfl 28 (.tmp 11) (.tmp 10) rfl m 5 (dvc D a1 c1 a2 c2) rfl rfl 30 (mvc M A) R4.out dsz (by simp [mvc, dvc]) (dvc_one _ _ _ _ _) ?_; rw [dvc_at]) | (refine wpList_load_row rfl 30 (.tmp 4) rfl m rfl 30 (mvc (devM M D) (devA A a1 c1 a2 c2)) (0, 0) _ R5.out Try.underlying30 rfl mac_size ?_) | (refine wpList_store_rowTo rfl 30 (.tmp 2) (.tmp 12) rfl rfl w.heap.size (mvc (devM M D) (devA A a1 c1 a2 c2)) rfl rfl 30 (mvc zeroM zeroA) RR5.out mac_size rfl HO.out ?_))
  exact bodyPost_ret (results_cell_row Try.results11 _ _ _ _ _ _ _ rfl RZ.out Try.underlying30 rfl mac_size) rfl ⟨devM M D, devA A a1 c1 a2 c2, rfl, FT, OUT, BB⟩

theorem DrawRamOk_c {a : Option Addr} {n : Nat} (cap : Nat) {zs : List Int} (w : World) (hcd : Code w a n zs) :
    Calls Try.prog 20 #[.slice a n cap] w fun e w' => ∃ (b m : Nat) (l : List Int), e = .returned (.slice (some ⟨b, 0, none⟩) m m) ∧ l.length = m ∧ m ≤ 69632 ∧ Hid (∀ y ∈ l, (Lit.int .u8 y).wf = true) ∧ Hid (Sl .u8 w' (some ⟨b, 0, none⟩) l) ∧ Hid (Below w.heap.size w w') := by
  have HD : Hid (Code w a n zs) := hcd
  clear hcd
  go_enter Try.func20, Try.ntmps20
  go_wp2_with fail
  refine (l1New_c cap _ HD.out).mono ?_
  rintro e w1 ⟨g, rfl, hc⟩
  go_wp2_with fail
  refine (l1DrawRam_c HD.out _ hc.out).mono ?_
  rintro e w2 ⟨b, m, rfl, hm, hr⟩
  obtain ⟨l, hu, ho, hcs, hg, hb⟩ := hr.out
  have HU := dhid hu
  have HS := dhid (own_sl ho)
  have HLn := dhid (show l.length = m by have := ho.1; simpa using this)
  have HB := dhid hcs.1.below
  clear hu ho hcs hr hc
  go_wp2_with fail
  go_ret
  exact ⟨b, m, l, rfl, HLn.out, hm, HU, HS, HB⟩

theorem DrawNewMachine_c {a : Option Addr} {n : Nat} (cap : Nat) {zs : List Int} (w : World) (hcd : Code w a n zs) :
    Calls Try.prog 6 #[.slice a n cap] w fun e w' => ∃ (b m : Nat) (l : List Int), e = .returned (.slice (some ⟨b, 0, none⟩) m m) ∧ l.length = m ∧ m ≤ 69632 ∧ Hid (∀ y ∈ l, (Lit.int .u8 y).wf = true) ∧ Hid (Sl .u8 w' (some ⟨b, 0, none⟩) l) ∧ Hid (Below w.heap.size w w') := by
  have HD : Hid (Code w a n zs) := hcd
  clear hcd
  go_enter Try.func6, Try.ntmps6
  go_wp2_with fail
  refine (DrawRamOk_c cap _ HD.out).mono ?_
  rintro e w1 ⟨b, m, l, rfl, h1, h2, h3, h4, h5⟩
  have H1 := dhid h1
  clear h1
  go_wp2_with fail
  go_ret
  exact ⟨b, m, l, rfl, H1.out, h2, h3, h4, h5⟩

theorem new_right {ram : List Int} (h : ramOkB ram.length = true) : machB (newM ram) = true := by
  unfold newM
  rw [if_pos h]
  have h1 : legalB (lineM (rawM ram)).cs.length (lineM (rawM ram)).cs (lineM (rawM ram)).pr = true := by
    show legalB ((List.replicate 22 (0 : Int)).set 9 (bits .or .u64 (bits .andNot .u64 ((List.replicate 22 (0 : Int)).getD 9 0) 2184) (linesV zeroD))).length ((List.replicate 22 (0 : Int)).set 9 (bits .or .u64 (bits .andNot .u64 ((List.replicate 22 (0 : Int)).getD 9 0) 2184) (linesV zeroD))) 3 = true
    decide +kernel
  have h2 : bellsB (lineM (rawM ram)) = true := by
    show (bits .and .u64 (((List.replicate 22 (0 : Int)).set 9 (bits .or .u64 (bits .andNot .u64 ((List.replicate 22 (0 : Int)).getD 9 0) 2184) (linesV zeroD))).getD 9 0) 2184 == linesV zeroD) = true
    decide +kernel
  have h3 : ramOkB (lineM (rawM ram)).ram.length = true := h
  have h4 : (bits .and .u64 (lineM (rawM ram)).pc 3 == 0) = true := by show (bits .and .u64 2147483648 3 == 0) = true; decide +kernel
  have h5 : regsB (lineM (rawM ram)).x.length (lineM (rawM ram)).x = true := by show regsB (List.replicate 32 (0 : Int)).length (List.replicate 32 (0 : Int)) = true; decide +kernel
  have h6 : okD (lineM (rawM ram)).d.xs.length (lineM (rawM ram)).d.ys.length (lineM (rawM ram)).d.ir = true := by show okD zeroD.xs.length zeroD.ys.length zeroD.ir = true; decide +kernel
  unfold machB
  rw [h1, h2, h3, h4, h5, h6]
  rfl

theorem new_parts {ram : List Int} (h : ramOkB ram.length = true) : (newM ram).pc = 2147483648 ∧ (newM ram).ram = ram := by
  unfold newM
  rw [if_pos h]
  exact ⟨rfl, rfl⟩

theorem new_len {ram : List Int} (h : ram.length ≤ 1048576) : MLen (newM ram) := by
  unfold newM
  split
  · exact ⟨by show (List.replicate 32 (0 : Int)).length ≤ _; simp, by show ((List.replicate 22 (0 : Int)).set 9 _).length ≤ _; simp, h, by show zeroD.xs.length ≤ _; simp [zeroD], by show zeroD.ys.length ≤ _; simp [zeroD]⟩
  · exact ⟨by simp [zeroM], by simp [zeroM], by simp [zeroM], by simp [zeroM, zeroD], by simp [zeroM, zeroD]⟩

theorem lined_or (M : MV) : machB (linedM M) = true ∨ linedM M = zeroM := by
  unfold linedM
  split
  · rename_i h
    simp only [Bool.and_eq_true] at h
    exact Or.inl h.2
  · exact Or.inr rfl

theorem mach_bells {M : MV} (h : machB M = true) : bits .and .u64 (M.cs.getD 9 0) 2184 = linesV M.d := by
  unfold machB at h
  simp only [Bool.and_eq_true] at h
  have := h.2
  unfold bellsB at this
  exact beq_iff_eq.1 this

theorem line_same9 {M : MV} (h : machB M = true) (hU : U (M.cs.getD 9 0)) (h22 : M.cs.length = 22) : lineM M = M := by
  have e : bits .or .u64 (bits .andNot .u64 (M.cs.getD 9 0) 2184) (linesV M.d) = M.cs.getD 9 0 := by
    rw [← mach_bells h]
    have hb : ∀ i, i < 64 → ∀ a : Bool, ((a && !bt 2184 i) || (a && bt 2184 i)) = a := by decide +kernel
    exact bt_ext _ _ (U_bits _ _ _) hU fun i hi => by rw [bt_or, bt_andNot _ _ _ hi, bt_and, hb i hi]
  have e2 : M.cs.set 9 (M.cs.getD 9 0) = M.cs := by
    apply List.ext_getElem (by simp)
    intro i h1 h2
    rw [List.getElem_set]
    split
    · rename_i hi; subst hi; rw [List.getD_eq_getElem?_getD, List.getElem?_eq_getElem (by omega)]; rfl
    · rfl
  unfold lineM
  rw [e, e2]

theorem lined_again {M : MV} (h : machB M = true) (hU : U (M.cs.getD 9 0)) (h22 : M.cs.length = 22) (hd : okD M.d.xs.length M.d.ys.length M.d.ir = true) : linedM M = M := by
  have e := line_same9 h hU h22
  unfold linedM
  rw [e, hd, h, decide_eq_true h22]
  rfl

theorem mach_22 {M : MV} (h : machB M = true) : M.cs.length = 22 ∧ okD M.d.xs.length M.d.ys.length M.d.ir = true ∧ M.x.length = 32 := by
  unfold machB at h
  simp only [Bool.and_eq_true] at h
  obtain ⟨⟨⟨⟨⟨⟨_, h2⟩, h3⟩, _⟩, h5⟩, _⟩, _⟩ := h
  unfold regsB at h2
  rw [Bool.and_eq_true, decide_eq_true_eq] at h2
  exact ⟨legal_22 h3, h5, h2.1⟩

theorem lined_U {M : MV} (h : ∀ j, U (M.cs.getD j 0)) (j : Nat) : U ((linedM M).cs.getD j 0) := by
  unfold linedM
  split
  · unfold lineM
    dsimp only
    rw [List.getD_eq_getElem?_getD, List.getElem?_set]
    split
    · split
      · exact U_bits .or (bits .andNot .u64 (M.cs.getD 9 0) 2184) (linesV M.d)
      · exact ⟨by decide, by decide⟩
    · have := h j; rw [List.getD_eq_getElem?_getD] at this; exact this
  · show U ([].getD j 0); simp; exact ⟨by decide, by decide⟩

theorem new_U (ram : List Int) (j : Nat) : U ((newM ram).cs.getD j 0) := by
  unfold newM
  split
  · unfold lineM
    dsimp only
    rw [List.getD_eq_getElem?_getD, List.getElem?_set]
    split
    · split
      · exact U_bits .or (bits .andNot .u64 ((rawM ram).cs.getD 9 0) 2184) (linesV (rawM ram).d)
      · exact ⟨by decide, by decide⟩
    · show U ((List.replicate 22 (0 : Int))[j]?.getD 0)
      rw [List.getElem?_replicate]
      split <;> exact ⟨by decide, by decide⟩
  · show U ([].getD j 0); simp; exact ⟨by decide, by decide⟩

end Go.Proofs.Ytcdjfiljlahaeaa
