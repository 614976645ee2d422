/- Own lemmas. -/
import Derived.Test.YtjifdmoehfbihaaGreatDoorK42
import Derived.Deep.LoopGhost
import Derived.Laws.Tables
import Derived.RegionTactic
import Derived.Deep.Cut
import Derived.Deep.RegionWith
import Derived.WalkKit
import Derived.Great.BuildSlice
namespace Go.Proofs.YtjifdmoehfbihaaGreatDoor
open Go.RowKit
set_option linter.unusedVariables false

theorem nb.trans {B E : Nat} {a b c : World} (h : nb B E a b) (k : nb B E b c) : nb B E a c :=
  ⟨k.os.trans h.os, k.tape.trans h.tape, k.output.trans h.output, Nat.le_trans h.size k.size, fun i hi ho => (k.block i (Nat.lt_of_lt_of_le hi h.size) ho).trans (h.block i hi ho)⟩

theorem nb.of_below {B E : Nat} {w w' : World} (h : Below w.heap.size w w') : nb B E w w' := ⟨h.os, h.tape, h.output, h.size, fun k hk _ => h.block k hk⟩

end Go.Proofs.YtjifdmoehfbihaaGreatDoor

namespace Go.Proofs.YtjifdmoehfbihaaGreatDoor
open Go.RowKit
set_option linter.unusedVariables false

theorem Mx.call {w wr wx : World} {s r b : Nat} {TS T : TypeId} {ss rs cs : Array Value} {L : List FRow} (h : Mx w s r b TS T ss rs cs L wr) (hb : Below wr.heap.size wr wx) : Mx w s r b TS T ss rs cs L wx :=
  ⟨an hb h.src, an hb h.res, an hb h.row, (h.fam.below hb).low (Nat.le_refl _) hb.size, aa h.below hb, h.h1, h.h2, h.h3⟩

end Go.Proofs.YtjifdmoehfbihaaGreatDoor

namespace Go.Proofs.YtjifdmoehfbihaaGreatDoor
open Go.RowKit
set_option linter.unusedVariables false

section
variable {P : Program} {S : World → Prop} {n : Nat} {fn : Func} {Rs : Ending → World → Prop} {k : List KI} {F : Fr} {w : World}

end

section
variable {P : Program} {S : World → Prop} {n : Nat} {Q : Exit → Act → World → Prop} {k : List KI} {F : Fr} {w : World}

end

section
variable {P : Program} {S : World → Prop} {n : Nat} {fn : Func} {Rs : Ending → World → Prop} {k : List KI} {F : Fr} {w : World}

theorem wx_fin {R : List Rw} (hR : jk w R) (H : Hn P (fun x => x = w) (fun x => x = w)) (m : Nat) {T : Act → World → Prop}
    (h : ∀ a, bL (aU P R H n false m k F).1.2.2 n a → T a w) (hx : (gP k, (aU P R H n false m k F).1.1, Pk (aU P R H n false m k F).1.2.1) = (true, false, T) := by kernel_rfl) (he : (aU P R H n false m k F).2.map Prod.fst = (aU P R H n false m k F).2.map Prod.snd := by kernel_rfl) : Wg P S (bodyPost P fn Rs) n k F w := by
  simp only [Prod.mk.injEq] at hx
  exact aR (fun x => x = w) (hn := hx.1) (NV (T := T) (yX hR) H m rfl (hx := by rw [hx.2.1, hx.2.2]) (he := he) fun a w' hw hk => by subst hw; exact h a hk)

end

section
variable {P : Program} {S : World → Prop} {n : Nat} {fn : Func} {Rs : Ending → World → Prop} {k : List KI} {F : Fr} {w : World} {R : List Rw}

end

end Go.Proofs.YtjifdmoehfbihaaGreatDoor

namespace Go.Proofs.YtjifdmoehfbihaaGreatDoor
open Go.RowKit
set_option linter.unusedVariables false

theorem Kx.of_grown {r : Nat} {L L' : List FRow} {w w' : World} {q : FRow} (h : w.grownBy w' q.v.ownBlock) (hq : q ∈ L) (hs : ∀ q ∈ L', ∃ q0 ∈ L, q0.v = q.v) : Kx r L L' w w' := Kx.of_keepL (eU.of_grown h hq) hs

end Go.Proofs.YtjifdmoehfbihaaGreatDoor

namespace Go.Proofs.YtjifdmoehfbihaaGreatDoor
open Go.RowKit
set_option linter.unusedVariables false

theorem rows0 (w : World) : jk w [] := trivial

structure Vs (w : World) (L : List Kr) (W : World) : Prop where
  rows : ∀ x ∈ L, W.heap[x.b]? = some (.cells x.cs x.t (0, 0))
  below : Below w.heap.size w W

section
variable {P : Program} {fn : Func} {Rs : Ending → World → Prop} {w W W' : World} {L : List Kr} {B E B' E' : Nat} {Q R : List FRow}

theorem Vs.to (h : Vs w L W) (hb : Below W.heap.size W W') : Vs w L W' := ⟨fun x hx => an hb (h.rows x hx), aa h.below hb⟩

theorem Vs.at (h : Vs w L W) : Vs W L W := ⟨h.rows, Below.refl _ _⟩

theorem Vs.eng : pd P (Vs w L) (Vs w L) (L.map fun x => ⟨x.b, x.cs, x.tg⟩) true (bodyPost P fn Rs) :=
  ⟨fun _ h => h, fun W h r hr => by obtain ⟨y, hy, rfl⟩ := List.mem_map.1 hr; exact ⟨_, _, h.rows y hy⟩, fun _ W h => h.to (Below.refl _ _).drew, dA⟩

theorem new_below (W : World) (old cs : Array Value) (t : TypeId) : Below W.heap.size W ((W.alloc (.cells old t)).setRow W.heap.size cs) := ch ((Below.refl _ _).alloc (Nat.le_refl _) _) (Nat.le_refl _) _

theorem Vs.new {cs : Array Value} (h : Vs w L W) (old : Array Value) (t : TypeId) : Vs w (L ++ [⟨W.heap.size, cs, t, []⟩]) ((W.alloc (.cells old t)).setRow W.heap.size cs) := by
  have hb := new_below W old cs t
  refine ⟨fun x hx => ?_, aa h.below hb⟩
  rcases List.mem_append.1 hx with hx | hx
  · exact an hb (h.rows x hx)
  · rw [List.mem_singleton.1 hx]
    exact setRow_heap _ _ _ _ _ _ (heap_alloc_new _ _)

theorem own_at {b e n : Nat} {v : Value} {xs : List Value} (h : W.ownsRow b e 1 v n xs) {k : Nat} (hk : v.ownBlock = some k) : ∃ cur, W.heap[k]? = some (.cells cur e (0, 0)) := by
  rcases h.2 with ⟨rfl, _⟩ | ⟨g, c, cur, rfl, _, hg, _⟩
  · cases hk
  · cases hk
    exact ⟨_, hg⟩

theorem eU.type (k : eU Q W W') (f : bp B E W Q) {b : Nat} {cs : Array Value} {t : TypeId} {fr : Nat × Nat} (h : W.heap[b]? = some (.cells cs t fr)) (ht : ∀ q ∈ Q, q.t ≠ t) : W'.heap[b]? = W.heap[b]? :=
  k.block b (Array.getElem?_eq_some_iff.1 h).1 fun q hq e => by
    obtain ⟨cur, hc⟩ := own_at (f.own q hq) e
    rw [h] at hc
    cases hc
    exact ht q hq rfl

theorem Vs.mark (h : Vs w L W) (k : eU Q W W') (f : bp B E W Q) (hB : w.heap.size ≤ B) (hE : w.heap.size ≤ W.heap.size) (ht : ∀ x ∈ L, ∀ q ∈ Q, q.t ≠ x.t) : Vs w L W' :=
  ⟨fun x hx => (k.type f (h.rows x hx) (ht x hx)).trans (h.rows x hx), h.below.trans ((k.keep f).below hB hE)⟩

theorem bp.type (h : bp B' E' W R) (k : eU Q W W') (f : bp B E W Q) (ht : ∀ r ∈ R, ∀ q ∈ Q, q.t ≠ r.t) : bp B' E' W' R :=
  ⟨fun r hr => gM (h.own r hr) fun b hb => by obtain ⟨cur, hc⟩ := own_at (h.own r hr) hb; exact k.type f hc (ht r hr), h.hi, h.ne⟩

theorem fam_lone {b n : Nat} {t : TypeId} {v : Value} {xs : List Value} (h : W.ownsRow b t 1 v n xs) : bp b W.heap.size W [⟨t, v, n, xs⟩] :=
  ⟨fun r hr => by rw [List.mem_singleton.1 hr]; exact h, fun r hr k e => by rw [List.mem_singleton.1 hr] at e; exact (h.lt k e).2, List.pairwise_singleton _ _⟩

end

theorem ne_ty {L : List Kr} {Q : List FRow} (t : List TypeId) (hQ : ∀ q ∈ Q, q.t ∈ t) (hL : (L.all fun x => !t.contains x.t) = true) : ∀ x ∈ L, ∀ q ∈ Q, q.t ≠ x.t := fun x hx q hq e => by
  have h := List.all_eq_true.1 hL x hx
  rw [← e] at h
  simp [hQ q hq] at h

theorem ne_tyF {R Q : List FRow} (t u : List TypeId) (hQ : ∀ q ∈ Q, q.t ∈ t) (hR : ∀ r ∈ R, r.t ∈ u) (h : (u.all fun x => !t.contains x) = true) : ∀ r ∈ R, ∀ q ∈ Q, q.t ≠ r.t := fun r hr q hq e => by
  have h := List.all_eq_true.1 h r.t (hR r hr)
  rw [← e] at h
  simp [hQ q hq] at h

theorem mvF_ty {A : MA} {nx nc nr ni no : Nat} {x cs ram xs ys : List Int} : ∀ q ∈ ej A nx nc nr ni no x cs ram xs ys, q.t ∈ [22, 5] := fun q hq => by
  simp only [ej, List.mem_cons, List.not_mem_nil, or_false] at hq
  rcases hq with rfl | rfl | rfl | rfl | rfl <;> simp [aI, aB]

theorem one_ty {t : TypeId} {v : Value} {n : Nat} {xs : List Value} : ∀ q ∈ [(⟨t, v, n, xs⟩ : FRow)], q.t ∈ [t] := fun q hq => by rw [List.mem_singleton.1 hq]; exact List.mem_singleton.2 rfl

theorem bp.li {B E n c : Nat} {w : World} {t : TypeId} {a : Option Addr} {zs : List Int} (h : bp B E w [⟨t, .slice a n c, n, zs.map (Value.int .i64)⟩]) : Sl .i64 w a zs := gy (h.own _ (List.mem_singleton.2 rfl))

end Go.Proofs.YtjifdmoehfbihaaGreatDoor

namespace Go.Proofs.YtjifdmoehfbihaaGreatDoor
open Go.RowKit
set_option linter.unusedVariables false

theorem map_set_i64 (zs : List Int) (i : Nat) (y : Int) : (zs.map (Value.int .i64)).set i (.int .i64 y) = (zs.set i y).map (Value.int .i64) := by
  rw [List.map_set]

set_option maxHeartbeats 400000 in
theorem eqInt64S_any (a b : Option Addr) (n m ca cb : Nat) (xs ys : List Int) (w : World) (hx : xs.length = n) (hy : ys.length = m) (hn : n ≤ 1048576) (hm : m ≤ 1048576) (hs : Sl .i64 w a xs) (ht : Sl .i64 w b ys) :
    Calls Tryz.prog 17 #[.slice a n ca, .slice b m cb] w fun e w' => e = .returned (.bool (decide (xs = ys))) ∧ Below w.heap.size w w' := by
  by_cases hnm : n = m
  · subst hnm
    have HX : Hid (xs.length = n) := hx
    have HY : Hid (ys.length = n) := hy
    have hnn : ((n : Int) != (n : Int)) = false := by simp
    clear hx hy
    go_enter Tryz.func17, Tryz.ntmps17
    go_wp2
    go_loopw [5] (fun i wr => ∃ k : Nat, k ≤ n ∧ i = .int .i64 k ∧ Hid (xs.take k = ys.take k) ∧ Below w.heap.size w wr)
      (fun i _ => n - (intOf i).toNat)
    case atStart => exact ⟨0, Nat.zero_le _, rfl, (rfl : xs.take 0 = ys.take 0), Below.refl _ _⟩
    case round =>
      obtain ⟨k, hk, rfl, heq, hbel⟩ := hrel
      by_cases hlt : k < n
      · obtain ⟨b1, o1, rfl, hb1, hc1⟩ := hs k (by have := HX.out; omega)
        obtain ⟨b2, o2, rfl, hb2, hc2⟩ := ht k (by have := HY.out; omega)
        obtain ⟨x, hxx⟩ : ∃ x, x = xs.getD k 0 := ⟨_, rfl⟩
        obtain ⟨y, hyy⟩ : ∃ y, y = ys.getD k 0 := ⟨_, rfl⟩
        have c1 : wr.cell? ⟨b1, o1 + k, none⟩ = some (.int .i64 x) := by rw [hxx]; exact (hbel.cell (by exact hb1)).trans hc1
        have c2 : wr.cell? ⟨b2, o2 + k, none⟩ = some (.int .i64 y) := by rw [hyy]; exact (hbel.cell (by exact hb2)).trans hc2
        have XX : Hid (x = xs.getD k 0) := hxx
        have YY : Hid (y = ys.getD k 0) := hyy
        clear hc1 hc2 hxx hyy
        by_cases hxy : x = y
        · subst hxy
          have R := vH xs ys k n HX.out HY.out hlt heq.out (XX.out.symm.trans YY.out)
          have RR : Hid (xs.take (k + 1) = ys.take (k + 1)) := R
          clear R
          have hne : (x != x) = false := by simp
          go_wp2
          go_region
          all_goals go_wp2
          all_goals go_roundw
          case rel => exact ⟨k + 1, by omega, by go_num, RR, hbel.drew⟩
          case measure => simp [intOf]; omega
        · have F : Hid (decide (xs = ys) = false) := by
            show decide (xs = ys) = false
            rw [decide_eq_false_iff_not]
            intro h; apply hxy; rw [XX.out, YY.out, h]
          have hne : (x != y) = true := by simpa using hxy
          clear hxy
          go_wp2
          go_region
          all_goals go_wp2
          all_goals go_ret
          all_goals exact ⟨by rw [F.out]; rfl, hbel.drew⟩
      · have hkn : k = n := by omega
        subst hkn
        have F : Hid (decide (xs = ys) = true) := by
          show decide (xs = ys) = true
          rw [decide_eq_true_eq]
          have h := heq.out
          rw [List.take_of_length_le (by have := HX.out; omega), List.take_of_length_le (by have := HY.out; omega)] at h
          exact h
        go_wp2
        go_ret
        exact ⟨by rw [F.out]; rfl, hbel⟩
  · have F : Hid (decide (xs = ys) = false) := by
      show decide (xs = ys) = false
      rw [decide_eq_false_iff_not]
      intro h; apply hnm; rw [← hx, ← hy, h]
    have hne : ((n : Int) != (m : Int)) = true := by simp; omega
    clear hx hy
    go_enter Tryz.func17, Tryz.ntmps17
    go_wp2
    go_ret
    exact ⟨by rw [F.out]; rfl, Below.refl _ _⟩

set_option maxHeartbeats 400000 in
theorem markInt64S_any (a : Option Addr) (n cap base : Nat) (k : Int) (xs : List Int) (w : World) (hn : n ≤ 1048576) (hk0 : 0 ≤ k) (hk1 : k ≤ 1099511627776)
    (hown : w.ownsRow base 2 1 (.slice a n cap) n (xs.map (Value.int .i64))) :
    Calls Tryz.prog 18 #[.slice a n cap, .int .i64 k] w fun e w' => e = .returned (.int .i64 (k + n)) ∧
      w'.ownsRow base 2 1 (.slice a n cap) n ((bC k n).map (Value.int .i64)) ∧ w.grownBy w' (Value.slice a n cap).ownBlock := by
  have HX : Hid (xs.length = n) := by show xs.length = n; have := hown.1; simpa using this
  rcases hown.2 with ⟨h2, h3⟩ | ⟨g, cap', cur, hv, hg, _⟩
  · simp only [Value.slice.injEq] at h2
    obtain ⟨rfl, rfl, rfl⟩ := h2
    have hx0 : xs = [] := List.eq_nil_of_length_eq_zero HX.out
    subst hx0
    go_enter Tryz.func18, Tryz.ntmps18
    go_wp2
    refine wp_loop_rounds 1 ?_
    rw [rounds_succ]
    go_wp2
    go_ret
    exact ⟨by simp, hown, ⟨rfl, rfl, rfl, Nat.le_refl _, fun _ _ _ => rfl⟩⟩
  · simp only [Value.slice.injEq, true_and] at hv
    obtain ⟨rfl, rfl⟩ := hv
    have hown0 : w.ownsRow base 2 1 (.slice (some ⟨g, 0, none⟩) n cap) n ((Hl xs k n 0).map (Value.int .i64)) := by rw [Hm]; exact hown
    clear hown
    go_enter Tryz.func18, Tryz.ntmps18
    go_wp2
    go_loopw [1, 5] (fun c i wr => ∃ j : Nat, j ≤ n ∧ i = .int .i64 j ∧ c = .int .i64 (k + j) ∧ wr.ownsRow base 2 1 (.slice (some ⟨g, 0, none⟩) n cap) n ((Hl xs k n j).map (Value.int .i64)) ∧ w.grownBy wr (some g))
      (fun _ i _ => n - (intOf i).toNat)
    case atStart => exact ⟨0, Nat.zero_le _, rfl, by simp, hown0, ⟨rfl, rfl, rfl, Nat.le_refl _, fun _ _ _ => rfl⟩⟩
    case round =>
      obtain ⟨j, hj, rfl, rfl, hown, hgr⟩ := hrel
      clear hown0
      by_cases hlt : j < n
      · have hfr : wr.frozen? ⟨g, j, none⟩ = false := hown.frozenAt j
        have hst := hown.stored j (.int .i64 (k + (j : Int)))
        obtain ⟨v3, hv3⟩ : ∃ v, wr.cell? ⟨g, j, none⟩ = some v := by
          rw [hown.cellAt j (by omega)]
          exact ⟨_, List.getElem?_eq_getElem (by rw [List.length_map, K8 _ _ _ _ HX.out hj]; exact hlt)⟩
        rw [map_set_i64, K9 _ _ _ _ HX.out hlt] at hst
        have hgr2 : w.grownBy (wr.setCell ⟨g, j, none⟩ (.int .i64 (k + (j : Int)))) (some g) :=
          ⟨hst.2.os.trans hgr.os, hst.2.tape.trans hgr.tape, hst.2.output.trans hgr.output, Nat.le_trans hgr.size hst.2.size, fun b hb hne => (hst.2.block b (Nat.lt_of_lt_of_le hb hgr.size) hne).trans (hgr.block b hb hne)⟩
        have hst1 := hst.1
        clear hst hown
        go_wp2
        go_roundw
        case rel => exact ⟨j + 1, by omega, by go_num, by go_num, hst1, hgr2⟩
        case measure => simp [intOf]; omega
      · have : j = n := by omega
        subst this
        rw [K7 _ _ _ HX.out] at hown
        go_wp2
        go_ret
        exact ⟨rfl, hown, hgr⟩

theorem heldInt64S_any (a : Option Addr) (n cap : Nat) (k : Int) (w : World) (hn : n ≤ 1048576) (hk0 : 0 ≤ k) (hk1 : k ≤ 1099511627776)
    (hs : Sl .i64 w a (bC k n)) :
    Calls Tryz.prog 19 #[.slice a n cap, .int .i64 k] w fun e w' => e = .returned (.int .i64 (k + n)) ∧ w' = w := by
  go_enter Tryz.func19, Tryz.ntmps19
  go_wp2
  go_loop [1, 5] (fun c i => ∃ j : Nat, j ≤ n ∧ i = .int .i64 j ∧ c = .int .i64 (k + j)) (fun _ i => n - (intOf i).toNat)
  case atStart => exact ⟨0, Nat.zero_le _, rfl, by simp⟩
  case round =>
    obtain ⟨j, hj, rfl, rfl⟩ := hrel
    by_cases hlt : j < n
    · obtain ⟨b, off, rfl, hb, hc⟩ := hs j (by rw [ks]; exact hlt)
      rw [Bq k n j hlt] at hc
      have hne : (k + (j : Int) != k + (j : Int)) = false := by simp
      have hwr : IntKind.i64.wrap (k + (j : Int)) = k + (j : Int) := by rw [IntKind.wrap_i64]; omega
      go_wp2
      go_round
      case rel => exact ⟨j + 1, by omega, by go_num, by go_num⟩
      case measure => simp [intOf]; omega
    · have : j = n := by omega
      subst this
      go_wp2
      go_ret
      exact ⟨rfl, rfl⟩

end Go.Proofs.YtjifdmoehfbihaaGreatDoor

namespace Go.Proofs.YtjifdmoehfbihaaGreatDoor
open Go.RowKit Go.Conc
set_option linter.unusedVariables false

theorem kP.keep {c : Nat} {w w1 : World} (h : kP c w w1) (hc : c < w.heap.size) : nb c (c + 1) w w1 := by
  have hb := h.below c w (Nat.le_refl _) (Below.refl _ _)
  exact ⟨hb.os, hb.tape, hb.output, by rw [h.size]; exact Nat.le_refl _, fun k hk ho => h.else_ k (by omega)⟩

end Go.Proofs.YtjifdmoehfbihaaGreatDoor

namespace Go.Proofs.YtjifdmoehfbihaaGreatDoor
open Go.RowKit
set_option linter.unusedVariables false

theorem My.call {w wr wx : World} {r b : Nat} {T : TypeId} {rs cs : Array Value} {L : List FRow} (h : My w r b T rs cs L wr) (hb : Below wr.heap.size wr wx) : My w r b T rs cs L wx :=
  ⟨an hb h.row, an hb h.res, (h.fam.below hb).low (Nat.le_refl _) hb.size, aa h.below hb, h.hb, h.hr, h.ne⟩

end Go.Proofs.YtjifdmoehfbihaaGreatDoor

namespace Go.Proofs.YtjifdmoehfbihaaGreatDoor
open Go.RowKit
set_option linter.unusedVariables false

theorem Ht.below {B hh r : Nat} {M : MV} {A : MA} {w w' : World} (h : Ht B hh r M A w) (hb : Below w.heap.size w w') : Ht B hh r M A w' := h.step (h.mp.below hb) (Kx.of_below hb)

end Go.Proofs.YtjifdmoehfbihaaGreatDoor

namespace Go.Proofs.YtjifdmoehfbihaaGreatDoor
open Go.RowKit
set_option linter.unusedVariables false

def Lst (e : TypeId) (w0 wr : World) (v : Value) (n : Nat) (xs : List Value) : Prop := wr.ownsRow w0.heap.size e 1 v n xs ∧ Below w0.heap.size w0 wr

theorem Lst.below {e : TypeId} {w0 wr wx : World} {v : Value} {n : Nat} {xs : List Value} (h : Lst e w0 wr v n xs) (hb : Below wr.heap.size wr wx) : Lst e w0 wx v n xs :=
  ⟨dF h.1 hb, aa h.2 hb⟩

theorem Lst.len {e : TypeId} {w0 wr : World} {v : Value} {n : Nat} {xs : List Value} (h : Lst e w0 wr v n xs) : xs.length = n := by
  have := h.1.1; simpa using this

theorem Lst.slice {e : TypeId} {w0 wr : World} {v : Value} {n : Nat} {xs : List Value} (h : Lst e w0 wr v n xs) : ∃ a c, v = .slice a n c := by
  rcases h.1.2 with ⟨e1, e0⟩ | ⟨g, cap, cur, e1, _⟩
  · exact ⟨none, 0, by rw [e1, e0]⟩
  · exact ⟨_, _, e1⟩

theorem Lst.cell {e : TypeId} {w0 wr : World} {v : Value} {n : Nat} {xs : List Value} (h : Lst e w0 wr v n xs) (k : Nat) (x : Value) (hx : xs[k]? = some x) : ∃ g c, v = .slice (some ⟨g, 0, none⟩) n c ∧ w0.heap.size ≤ g ∧ wr.cell? ⟨g, k, none⟩ = some x := by
  have hk : k < xs.length := by
    by_cases hl : k < xs.length
    · exact hl
    · rw [List.getElem?_eq_none (by omega)] at hx; cases hx
  have hn := h.len
  obtain ⟨g, c, rfl, hg⟩ := nY h.1 (by omega)
  refine ⟨g, c, rfl, hg, ?_⟩
  have := h.1.cells (g := g) rfl k x hx
  cases k <;> simpa [Addr.add] using this

theorem one_cell (w : World) (u : Value) (e : TypeId) (j : Nat) (x : Value) (h : [u][j]? = some x) : (w.alloc (.cells #[u] e (0, 0))).cell? ((⟨w.heap.size, 0, none⟩ : Addr).add j) = some x := by
  have hj : j = 0 := by
    rcases Nat.eq_zero_or_pos j with h0 | h0
    · exact h0
    · rw [List.getElem?_eq_none (by simp; omega)] at h; cases h
  subst hj
  have hn : (w.alloc (.cells #[u] e (0, 0))).heap[w.heap.size]? = some (.cells #[u] e (0, 0)) := heap_alloc_new _ _
  simp at h
  subst h
  show (w.alloc (.cells #[u] e (0, 0))).cell? ⟨w.heap.size, 0, none⟩ = some u
  simp only [World.cell?, hn]
  rfl

end Go.Proofs.YtjifdmoehfbihaaGreatDoor

namespace Go.Proofs.YtjifdmoehfbihaaGreatDoor
open Go.RowKit
set_option linter.unusedVariables false

def stepsM : Nat → MV → MV × List Int
  | 0, M => (M, [])
  | n + 1, M => if ((jK M).2 == 4) = true then ((jK M).1, [(jK M).2]) else ((stepsM n (jK M).1).1, (jK M).2 :: (stepsM n (jK M).1).2)

theorem Gw.step {M : MV} (h : Gw M) : Gw (jK M).1 := MT h fun l p hp => yJ l p hp

theorem steps_gw : ∀ (n : Nat) {M : MV}, Gw M → Gw (stepsM n M).1
  | 0, _, h => h
  | n + 1, M, h => by
    unfold stepsM
    split
    · exact h.step
    · exact steps_gw n h.step

theorem steps_len : ∀ (n : Nat) (M : MV), (stepsM n M).2.length ≤ n
  | 0, _ => Nat.le_refl _
  | n + 1, M => by
    unfold stepsM
    split
    · simp
    · have := steps_len n (jK M).1
      simp only [List.length_cons]
      omega

theorem apart_t {W : World} {B B' n n' : Nat} {t t' : TypeId} {v v' : Value} {xs xs' : List Value} (h : W.ownsRow B t 1 v n xs) (h' : W.ownsRow B' t' 1 v' n' xs') (ht : t ≠ t') {k : Nat} (e : v.ownBlock = some k) : v'.ownBlock ≠ some k := fun e' => by
  rcases h.2 with ⟨rfl, _⟩ | ⟨g, c, cur, rfl, _, h3, _⟩
  · cases e
  · rcases h'.2 with ⟨rfl, _⟩ | ⟨g', c', cur', rfl, _, h3', _⟩
    · cases e'
    · cases e
      cases e'
      rw [h3] at h3'
      injection h3' with h4
      injection h4 with _ h5
      exact ht h5

theorem mvF_t {M : MV} {A : MA} {q : FRow} (h : q ∈ aH M A) : q.t = 22 ∨ q.t = 5 := by
  simp only [aH, List.mem_cons, List.not_mem_nil, or_false] at h
  rcases h with rfl | rfl | rfl | rfl | rfl <;> simp [aI, aB]

theorem told_apart {W : World} {B B' E n : Nat} {v : Value} {xs : List Value} {M : MV} {A : MA} (h : W.ownsRow B 2 1 v n xs) (f : bp B' E W (aH M A)) {k : Nat} (e : v.ownBlock = some k) : ∀ q ∈ aH M A, q.v.ownBlock ≠ some k := fun q hq => apart_t h (f.own q hq) (by rcases mvF_t hq with e | e <;> rw [e] <;> decide) e

theorem Ht.far {B hh r : Nat} {M : MV} {A : MA} {W W' : World} (h : Ht B hh r M A W) (hs : W.heap.size ≤ W'.heap.size) (hk : ∀ k, k < W.heap.size → (k = hh ∨ k = r ∨ ∃ q ∈ aH M A, q.v.ownBlock = some k) → W'.heap[k]? = W.heap[k]?) : Ht B hh r M A W' := by
  have f : bp B W.heap.size W' (aH M A) := ⟨fun q hq => gM (h.mp.fam.own q hq) fun k e => hk k ((h.mp.fam.own q hq).lt k e).2 (.inr (.inr ⟨q, hq, e⟩)), h.mp.fam.hi, h.mp.fam.ne⟩
  exact ⟨(hk hh h.lt (.inl rfl)).trans h.row, ⟨(hk r h.mp.lt (.inr (.inl rfl))).trans h.mp.row, f.low (Nat.le_refl _) hs, h.mp.ne, h.mp.lo⟩, h.ne, h.nq⟩

def app1S (T : TypeId) (v u : Value) : Sem Next := execOp (fun x => match x with | .tmp 0 => v | _ => u) { dst := none, op := .call { callee := .builtin .append, args := #[.tmp 0, .tmp 1], argTypes := #[T, T] }, type := T, pos := "", after := #[], guard := none }

theorem run_app1S {P : Program} {T : TypeId} {v u x : Value} {w w' : World} (h : (Builtin.append_ #[T, T] T #[v, u]).run P w = .ok x w') : (app1S T v u).run P w = .ok (.value x) w' := by
  unfold app1S execOp
  simp only [resolve, invoke, builtin, Sem.run_bind, Sem.run_pure, Result.andThen_ok, List.map_toArray, List.map_cons, List.map_nil, h]

theorem i64_info : (Tryz.prog.info? 2).map (fun i => (i.zero, i.size, i.bytes)) = some (some (.int .i64 0), 1, 8) := by kernel_rfl

theorem run_bs0 (w : World) : (do pure (.value (← Instr.buildSlice 39 0 #[])) : Sem Next).run Tryz.prog w = .ok (.value (.slice (some ⟨w.heap.size, 0, none⟩) 0 0)) (w.alloc (.cells #[] 2)) := by
  obtain ⟨i0, hi, e⟩ := Option.map_eq_some_iff.1 i64_info
  have h0 : ∀ f : Nat → Value, Array.map f (Array.range 0) = #[] := fun f => Array.eq_empty_of_size_eq_zero (by simp)
  simp [Instr.buildSlice, run_underlying Tryz.underlying39, sizeOf, typeInfo, hi, Instr.fill, newRow, h0]

theorem run_bs1 (w : World) (x : Int) : (do pure (.value (← Instr.buildSlice 39 1 #[(0, .int .i64 x)])) : Sem Next).run Tryz.prog w = .ok (.value (.slice (some ⟨w.heap.size, 0, none⟩) 1 1)) (w.alloc (.cells #[.int .i64 x] 2)) := by
  obtain ⟨i0, hi, e⟩ := Option.map_eq_some_iff.1 i64_info
  simp only [Prod.mk.injEq] at e
  obtain ⟨e1, e2, e3⟩ := e
  have := run_buildSlice (P := Tryz.prog) w 39 2 1 #[(0, .int .i64 x)] #[.int .i64 x] i0 (.int .i64 0) Tryz.underlying39 hi e1 (by rw [e2]; decide) (by rw [e2]; decide) (by rw [e2]; kernel_rfl)
  simp [this]

theorem push_own {W : World} {base : Nat} {a : Option Addr} {c : Nat} {xs : List Int} (h : W.ownsRow base 2 1 (.slice a xs.length c) xs.length (xs.map (Value.int .i64))) (hz : base ≤ W.heap.size) (hn : xs.length ≤ 1000000) (x : Int) : ∃ (a' : Option Addr) (c' : Nat) (W' : World), (app1S 39 (.slice a xs.length c) (.slice (some ⟨W.heap.size, 0, none⟩) 1 1)).run Tryz.prog (W.alloc (.cells #[.int .i64 x] 2)) = .ok (.value (.slice a' (xs ++ [x]).length c')) W' ∧ W'.ownsRow base 2 1 (.slice a' (xs ++ [x]).length c') (xs ++ [x]).length ((xs ++ [x]).map (Value.int .i64)) ∧ W.heap.size ≤ W'.heap.size ∧ W'.os = W.os ∧ W'.tape = W.tape ∧ W'.output = W.output ∧ ∀ k, k < W.heap.size → (∀ j, (Value.slice a xs.length c).ownBlock = some j → j ≠ k) → W'.heap[k]? = W.heap[k]? := by
  obtain ⟨i0, hi, e⟩ := Option.map_eq_some_iff.1 i64_info
  simp only [Prod.mk.injEq] at e
  obtain ⟨e1, e2, e3⟩ := e
  have hb := (Below.refl W.heap.size W).alloc (Nat.le_refl _) (.cells #[.int .i64 x] 2)
  obtain ⟨v, W', hr, h2, h3, _⟩ := run_append_own (P := Tryz.prog) (W.alloc (.cells #[.int .i64 x] 2)) base 39 39 2 i0 (.int .i64 0) 1 8 Tryz.underlying39 hi e1 e2 e3 rfl (by decide) _ xs.length _ (dF h hb) ⟨W.heap.size, 0, none⟩ 1 1 [.int .i64 x] rfl (fun j u hu => one_cell W _ _ j u hu) (by simp [Value.oneCell']) (by unfold maxLen; omega) (by omega) (by simp; omega)
  have hsl : ∃ a' c', v = .slice a' (xs.length + 1) c' := by
    rcases h2.2 with ⟨e1, e0⟩ | ⟨g, cap, cur, e1, _⟩
    · omega
    · exact ⟨_, _, e1⟩
  obtain ⟨a', c', rfl⟩ := hsl
  have el : (xs ++ [x]).length = xs.length + 1 := by simp
  refine ⟨a', c', W', run_app1S (by rw [el]; exact hr), ?_, Nat.le_trans hb.size h3.size, h3.os.trans hb.os, h3.tape.trans hb.tape, h3.output.trans hb.output, fun k hk hj => (h3.block k (by simp; omega) (fun e => hj k e.symm rfl)).trans (hb.block k hk)⟩
  rw [el, List.map_append]
  exact h2

structure HlZ9 (B hh r : Nat) (M : MV) (A : MA) (w : World) (M' : MV) (A' : MA) (xs : List Int) (a : Option Addr) (c : Nat) (W : World) : Prop where
  ht : Ht B hh r M' A' W
  kx : Kx r (aH M A) (aH M' A') w W
  lo : hh < w.heap.size ∧ r < w.heap.size
  own : W.ownsRow w.heap.size 2 1 (.slice a xs.length c) xs.length (xs.map (Value.int .i64))

section
variable {B hh r : Nat} {M M' M2 : MV} {A A' A2 : MA} {w W W' : World} {xs : List Int} {a : Option Addr} {c : Nat}

theorem HlZ9.step (h : HlZ9 B hh r M A w M' A' xs a c W) (p : Ht B hh r M2 A2 W') (k : Kx r (aH M' A') (aH M2 A2) W W') : HlZ9 B hh r M A w M2 A2 xs a c W' :=
  ⟨p, h.kx.trans k, h.lo, gM h.own fun j e => by
    obtain ⟨h1, h2⟩ := h.own.lt j e
    have := h.lo
    exact k.block j h2 (by omega) (told_apart h.own h.ht.mp.fam e)⟩

theorem HlZ9.push (h : HlZ9 B hh r M A w M' A' xs a c W) (hn : xs.length ≤ 1000000) (x : Int) : ∃ (a' : Option Addr) (c' : Nat) (W' : World), (app1S 39 (.slice a xs.length c) (.slice (some ⟨W.heap.size, 0, none⟩) 1 1)).run Tryz.prog (W.alloc (.cells #[.int .i64 x] 2)) = .ok (.value (.slice a' (xs ++ [x]).length c')) W' ∧ HlZ9 B hh r M A w M' A' (xs ++ [x]) a' c' W' := by
  have hz := h.kx.size
  obtain ⟨a', c', W', hr, o, zzz9, e1, e2, e3, bl⟩ := push_own h.own hz hn x
  refine ⟨a', c', W', hr, h.ht.far zzz9 fun k hk hc => bl k hk fun j hj e => ?_, ⟨e1.trans h.kx.os, e2.trans h.kx.tape, e3.trans h.kx.output, Nat.le_trans hz zzz9, fun k hk h1 h4 => (bl k (by omega) fun j hj e => ?_).trans (h.kx.block k hk h1 h4), h.kx.own⟩, h.lo, o⟩
  · have := (h.own.lt j hj).1
    have := h.lo
    rcases hc with hc | hc | ⟨q, hq, hc⟩
    · omega
    · omega
    · exact told_apart h.own h.ht.mp.fam hj q hq (by rw [e]; exact hc)
  · have := (h.own.lt j hj).1
    omega

end

def LRZ9 (B hh r : Nat) (M : MV) (A : MA) (w : World) (R : MV × List Int) (e : Ending) (w' : World) : Prop := ∃ (a : Option Addr) (c : Nat) (A' : MA), e = .returned (.slice a R.2.length c) ∧ HlZ9 B hh r M A w R.1 A' R.2 a c w'

structure LsZ9 (B hh r : Nat) (M : MV) (A : MA) (w : World) (n j : Nat) (x : MV × MA × List Int × Option Addr × Nat × Nat) (W : World) : Prop where
  ejz9 : x.2.2.2.2.2 = j
  hl : HlZ9 B hh r M A w x.1 x.2.1 x.2.2.1 x.2.2.2.1 x.2.2.2.2.1 W
  gw : Gw x.1
  ln : x.2.2.1.length + j = n
  st : stepsM n M = ((stepsM j x.1).1, x.2.2.1 ++ (stepsM j x.1).2)

section
variable {B hh r : Nat} {M : MV} {A : MA} {w : World}

set_option maxRecDepth 100000 in
theorem steps_r (n : Nat) (hn : n ≤ 300) (h : Ht B hh r M A w) (hg : Gw M) : Calls Tryz.prog 52 #[.pointer (some ⟨hh, 0, none⟩), .int .i64 n] w (LRZ9 B hh r M A w (stepsM n M)) := by
  refine cn (S := fun _ => True) (args := [.pointer (some ⟨hh, 0, none⟩), .int .i64 n]) [] Tryz.func52 ?_
  refine Ng (R := []) trivial {} 10 0 (run_bs0 w) ?_
  have hb := (Below.refl w.heap.size w).alloc (Nat.le_refl _) (.cells #[] 2)
  have h0 : LsZ9 B hh r M A w n n (M, A, [], some ⟨w.heap.size, 0, none⟩, 0, n) (w.alloc (.cells #[] 2)) := ⟨rfl, ⟨h.below hb, Kx.of_below hb, ⟨h.lt, h.mp.lt⟩, World.ownsRow_lit w #[] 0 (Nat.le_refl _) (by unfold maxLen; omega) rfl⟩, hg, by simp, by simp⟩
  generalize w.alloc (.cells #[] 2) = w1 at h0 ⊢
  refine cW (R := []) trivial {} 20 ?_
  refine Lc (fun x : MV × MA × List Int × Option Addr × Nat × Nat => [(0, .pointer (some ⟨hh, 0, none⟩), 0), (1, .int .i64 (x.2.2.2.2.2 : Nat), 0), (5, .slice x.2.2.2.1 x.2.2.1.length x.2.2.2.2.1, 0)]) (LsZ9 B hh r M A w n) n (M, A, [], some ⟨w.heap.size, 0, none⟩, 0, n) (by kernel_rfl) (by kernel_rfl) h0 ?_
  clear h0 hb
  rintro j ⟨M1, A1, xs, a, c, j'⟩ W ⟨ejz9, hl, gw, ln, st⟩ T hT
  dsimp only at ejz9 hl gw ln st ⊢
  subst ejz9
  cases j' with
  | zero =>
    have e : stepsM n M = (M1, xs) := by rw [st]; simp [stepsM]
    rw [e]
    exact BC (R := []) trivial {} 60 (t := 4) ⟨a, c, A1, rfl, hl⟩
  | succ j =>
    have q : decide ((0 : Int) < ((j + 1 : Nat) : Int)) = true := by rw [decide_eq_true_eq]; omega
    have sr := O9 hl.ht gw.1 gw.2
    have g1 := gw.step
    have e1 : stepsM (j + 1) M1 = if ((jK M1).2 == 4) = true then ((jK M1).1, [(jK M1).2]) else ((stepsM j (jK M1).1).1, (jK M1).2 :: (stepsM j (jK M1).1).2) := rfl
    rw [e1] at st
    clear e1
    generalize jK M1 = V at sr g1 st
    obtain ⟨M2, k⟩ := V
    dsimp only at sr g1 st
    refine nZ (R := []) trivial { eq := [(9, au q)] } 60 sr ?_
    rintro e W1 ⟨rfl, A2, h2, k2⟩
    refine ⟨_, 0, rfl, ?_⟩
    have l2 := hl.step h2 k2
    refine Ng (R := []) trivial {} 20 0 (run_bs1 W1 k) ?_
    obtain ⟨a', c', W3, hr, l3⟩ := l2.push (by omega) k
    refine iQ 0 hr ?_
    have hlen : (xs ++ [k]).length = xs.length + 1 := by simp
    cases hk : (k == 4) with
    | true =>
      rw [hk, if_pos rfl] at st
      rw [st]
      exact BC (R := []) trivial { eq := [(19, au hk)] } 60 (t := 4) ⟨a', c', A2, rfl, l3⟩
    | false =>
      rw [hk, if_neg (by decide)] at st
      have hw : IntKind.i64.wrap (((j + 1 : Nat) : Int) - 1) = ((j : Nat) : Int) := by rw [IntKind.wrap_i64]; omega
      exact wx_fin (R := []) trivial { eq := [(19, au hk), (11, ei .i64 hw)] } 60 fun b hb => hT b W3 j (M2, A2, xs ++ [k], a', c', j) (by omega) (hb.less (by kernel_rfl)) ⟨rfl, l3, g1, by rw [hlen]; omega, by rw [st]; simp⟩

end

end Go.Proofs.YtjifdmoehfbihaaGreatDoor

namespace Go.Proofs.YtjifdmoehfbihaaGreatDoor
open Go.RowKit
set_option linter.unusedVariables false

def stepsA (M : MV) (n : Int) : MV × List Int := if (gY M && decide (0 ≤ n ∧ n ≤ 300)) = true then stepsM n.toNat M else (bx, [])

def mlQ (w : World) (V : MV × List Int) (e : Ending) (w' : World) : Prop := ∃ (C : MA) (a : Option Addr) (c : Nat), e = .returned (.tuple #[.agg (aO V.1 C), .slice a V.2.length c]) ∧ bp w.heap.size w'.heap.size w' (aH V.1 C) ∧ w'.ownsRow w.heap.size 2 1 (.slice a V.2.length c) V.2.length (V.2.map (Value.int .i64)) ∧ Below w.heap.size w w'

set_option maxRecDepth 100000 in
theorem specSteps_any (M : MV) (A : MA) (n : Int) (w : World) (hl : jF M) (hs : uO w M A) (hf : Pb M) : Calls Tryz.prog 15 #[.agg (aO M A), .int .i64 n] w (mlQ w (stepsA M n)) := by
  have HM := fun W (hb : Below w.heap.size w W) => pF M A W hl (hs.below hb)
  have HI := fun W (_ : Below w.heap.size w W) => il n 0 300 W
  unfold stepsA
  refine cn (S := Bs w [(aO M A, 32), (aO bx zeroA, 32)]) (args := [.agg (aO M A), .int .i64 n]) [(aO M A, 32), (aO bx zeroA, 32)] Tryz.func15 ?_
  cases hb : (gY M && decide (0 ≤ n ∧ n ≤ 300)) with
  | false =>
    rw [if_neg (by decide)]
    have fin : ∀ W1, Bs w [(aO M A, 32), (aO bx zeroA, 32)] W1 → Wg Tryz.prog (Bs w [(aO M A, 32), (aO bx zeroA, 32)]) (bodyPost Tryz.prog Tryz.f15 (mlQ w (bx, []))) Tryz.f15.ntmps [.code (Nk (aG 1 (je (aG 1 (bD Tryz.f15))))), .code (aG 2 (bD Tryz.f15))] [(4, .pointer (some ⟨w.heap.size + 1, 0, none⟩), 2)] W1 := fun W1 h1 => by
      refine af Bs.eng {} 40 h1 fun W1 h1 => ?_
      refine iQ 0 (run_bs0 W1) ?_
      have h2 := h1.below ((Below.refl _ _).alloc (Nat.le_refl W1.heap.size) (.cells #[] 2))
      have z1 := (Array.getElem?_eq_some_iff.1 (h1.1 1 _ rfl)).1
      have o2 : (W1.alloc (.cells #[] 2)).ownsRow W1.heap.size 2 1 (.slice (some ⟨W1.heap.size, 0, none⟩) 0 0) 0 [] := World.ownsRow_lit W1 #[] 0 (Nat.le_refl _) (by unfold maxLen; omega) rfl
      generalize W1.alloc (.cells #[] 2) = W2 at h2 o2 ⊢
      refine bM (bj (g := w.heap.size + 1) (old := aO bx zeroA) (cells := aO bx zeroA) (t := 32) (ty := 32) (h2.1 1 _ rfl) (by kernel_rfl) rfl (gA _ _)) ?_
      refine hC (R := []) trivial {} 40 fun a hk => ⟨.tuple #[.agg (aO bx zeroA), .slice (some ⟨W1.heap.size, 0, none⟩) 0 0], sZ hk rfl (by kernel_rfl) (by kernel_rfl) (setRow_heap _ _ _ _ _ _ (h2.1 1 _ rfl)) Tryz.underlying32 rfl (by kernel_rfl), zeroA, _, _, rfl, qE _ _ _, ?_, ch h2.2 (by omega) _⟩
      exact gM (dp o2 (by omega)) fun k e => setRow_other _ _ _ _ (by have := (o2.lt k e).1; omega)
    cases ok : gY M with
    | false =>
      rw [ok] at HM
      refine af Bs.eng { cv := [(10, gB HM)] } 13 (Bs.start _ _) fun W1 h1 => ?_
      exact aE _ _ (fin W1 h1)
    | true =>
      rw [ok] at HM hb
      simp only [Bool.true_and] at hb
      rw [hb] at HI
      refine af Bs.eng { cv := [(10, gB HM), (14, mj HI)] } 13 (Bs.start _ _) fun W1 h1 => ?_
      exact aE _ _ (fin W1 h1)
  | true =>
    rw [if_pos rfl]
    obtain ⟨ok, hin⟩ := Bool.and_eq_true_iff.1 hb
    rw [ok] at HM
    rw [hin] at HI
    have hg : Gw M := ⟨hf.gd ok, hf.ud⟩
    obtain ⟨n0, n1⟩ := of_decide_eq_true hin
    obtain ⟨m, rfl⟩ := Int.eq_ofNat_of_zero_le n0
    rw [Int.toNat_natCast]
    have hsr := fun (B hh r : Nat) (C : MA) (W : World) (h : Ht B hh r M C W) => steps_r m (by omega) h hg
    generalize stepsM m M = V at hsr ⊢
    refine aW Bs.eng { cv := [(10, gB HM), (14, mj HI)] } 40 (Bs.start _ _) (fun W1 h1 => Cu M A W1 hl (hs.below h1.2)) ?_
    rintro W1 e W2 h1 ⟨C, rfl, F2, k2⟩
    refine ⟨_, 0, rfl, gp (by kernel_rfl), ?_⟩
    have h2 := h1.below k2
    have s1 : w.heap.size + 2 ≤ W1.heap.size := by
      have := (Array.getElem?_eq_some_iff.1 (h1.1 1 _ rfl)).1
      omega
    refine iQ 3 (gF (T := 32) (z := .agg (aO bx zeroA)) (by kernel_rfl) W2) ?_
    refine bM (bj (g := W2.heap.size) (t := 32) (ty := 32) (old := aO bx zeroA) (cells := aO M C) (heap_alloc_new _ _) (by kernel_rfl) rfl (gA _ _)) ?_
    have b3 : Below W2.heap.size W2 ((W2.alloc (.cells (aO bx zeroA) 32)).setRow W2.heap.size (aO M C)) := ch ((Below.refl _ _).alloc (Nat.le_refl _) _) (Nat.le_refl _) _
    have r3 : ((W2.alloc (.cells (aO bx zeroA) 32)).setRow W2.heap.size (aO M C)).heap[W2.heap.size]? = some (.cells (aO M C) 32 (0, 0)) := setRow_heap _ _ _ _ _ _ (heap_alloc_new _ _)
    have z3 : ((W2.alloc (.cells (aO bx zeroA) 32)).setRow W2.heap.size (aO M C)).heap.size = W2.heap.size + 1 := by rw [setRow_size, World.size_alloc]
    have e3 : (Value.agg (aO bx zeroA)).cells = aO bx zeroA := rfl
    rw [e3]
    generalize (W2.alloc (.cells (aO bx zeroA) 32)).setRow W2.heap.size (aO M C) = W3 at b3 r3 z3 ⊢
    refine Ng (R := []) trivial {} 40 2 (v := .pointer (some ⟨W3.heap.size, 0, none⟩)) (w' := W3.alloc (.cells #[.pointer (some ⟨W2.heap.size, 0, none⟩), .slice none 0 0] 61)) (Pc 61 (.agg #[.pointer (some ⟨W2.heap.size, 0, none⟩), .slice none 0 0]) W3) ?_
    have b4 : Below W3.heap.size W3 (W3.alloc (.cells #[.pointer (some ⟨W2.heap.size, 0, none⟩), .slice none 0 0] 61)) := (Below.refl _ _).alloc (Nat.le_refl _) _
    have r4 : (W3.alloc (.cells #[.pointer (some ⟨W2.heap.size, 0, none⟩), .slice none 0 0] 61)).heap[W3.heap.size]? = some (.cells #[.pointer (some ⟨W2.heap.size, 0, none⟩), .slice none 0 0] 61 (0, 0)) := heap_alloc_new _ _
    generalize W3.alloc (.cells #[.pointer (some ⟨W2.heap.size, 0, none⟩), .slice none 0 0] 61) = W4 at b4 r4 ⊢
    have k4 := aa b3 b4
    have s2 := k2.size
    have s4 := b4.size
    have f4 : bp W1.heap.size W4.heap.size W4 (aH M C) := (F2.below k4).low (Nat.le_refl _) k4.size
    have m4 : Mp W1.heap.size W2.heap.size M C W4 := ⟨an b4 r3, f4, fun q hq e => by have := F2.hi q hq _ e; omega, s2⟩
    have t4 : Ht W1.heap.size W3.heap.size W2.heap.size M C W4 := ⟨r4, m4, by omega, fun q hq e => by have := F2.hi q hq _ e; omega⟩
    refine nZ (R := []) trivial {} 40 (hsr _ _ _ C W4 t4) ?_
    rintro e W5 ⟨a, c, D, rfl, l5⟩
    refine ⟨_, 0, rfl, ?_⟩
    have b5 := m4.under l5.kx
    have h5 : Bs w [(aO M A, 32), (aO bx zeroA, 32)] W5 := by
      have h4 := (h2.below k4)
      refine ⟨fun i x hx => ?_, ?_⟩
      · have hlt : i < 2 := by have := (List.getElem?_eq_some_iff.1 hx).1; exact this
        rw [b5.block _ (by omega)]; exact h4.1 i x hx
      · exact ⟨b5.os.trans h4.2.os, b5.tape.trans h4.2.tape, b5.output.trans h4.2.output, Nat.le_trans h4.2.size b5.size, fun k hk => (b5.block k (by omega)).trans (h4.2.block k hk)⟩
    refine aL 6 1 ?_
    refine oz (R := [⟨W2.heap.size, aO V.1 D, []⟩]) ⟨⟨_, _, l5.ht.mp.row⟩, trivial⟩ {} 40 (bj (g := w.heap.size + 1) (t := 32) (ty := 32) (old := aO bx zeroA) (cells := aO V.1 D) (h5.1 1 _ rfl) (by kernel_rfl) rfl (gA _ _)) ?_
    refine hC (R := []) trivial {} 40 fun b hk => ⟨.tuple #[.agg (aO V.1 D), .slice a V.2.length c], sZ hk rfl (by kernel_rfl) (by kernel_rfl) (setRow_heap _ _ _ _ _ _ (h5.1 1 _ rfl)) Tryz.underlying32 rfl (by kernel_rfl), D, a, c, rfl, ?_, ?_, ch h5.2 (by omega) _⟩
    · have := l5.ht.mp.fam
      refine bp.low (B := W1.heap.size) ?_ (by omega) (Nat.le_refl _)
      rw [setRow_size]
      exact this.mono fun k h1 h2 h3 => setRow_other _ _ _ _ (by omega)
    · exact gM (dp l5.own (by omega)) fun k e => setRow_other _ _ _ _ (by have := (l5.own.lt k e).1; omega)

end Go.Proofs.YtjifdmoehfbihaaGreatDoor

namespace Go.Proofs.YtjifdmoehfbihaaGreatDoor
open Go.RowKit
set_option linter.unusedVariables false

structure PmZ9 (w : World) (g : Nat) (cs : Array Value) (M : MV) (C : MA) (W : World) : Prop where
  out : W.heap[w.heap.size + 1]? = some (.cells (aO bx zeroA) 32 (0, 0))
  row : W.heap[g]? = some (.cells cs 32 (0, 0))
  fam : bp (w.heap.size + 2) W.heap.size W (aH M C)
  ne : ∀ q ∈ aH M C, q.v.ownBlock ≠ some g
  lo : w.heap.size + 2 ≤ g
  bl : Below w.heap.size w W

structure PlZ9 (w : World) (g : Nat) (M : MV) (C : MA) (xs : List Int) (a : Option Addr) (c : Nat) (W : World) : Prop where
  pm : PmZ9 w g (aO M C) M C W
  own : W.ownsRow (w.heap.size + 2) 2 1 (.slice a xs.length c) xs.length (xs.map (Value.int .i64))

section
variable {w W W1 : World} {g : Nat} {cs : Array Value} {M N : MV} {C D : MA} {xs : List Int} {a : Option Addr} {c : Nat}

theorem PmZ9.put (h : PmZ9 w g cs M C W) (d : Array Value) : PmZ9 w g d M C (W.setRow g d) := by
  have := h.lo
  refine ⟨(setRow_other _ _ _ _ (by omega)).trans h.out, setRow_heap _ _ _ _ _ _ h.row, ?_, h.ne, h.lo, ch h.bl (by omega) _⟩
  rw [setRow_size]
  exact h.fam.other fun q hq k e => setRow_other _ _ _ _ (fun e2 => h.ne q hq (by rw [e, e2]))

theorem PlZ9.far (h : PlZ9 w g M C xs a c W) {k : Nat} (e : (Value.slice a xs.length c).ownBlock = some k) : k ≠ g := by
  rintro rfl
  rcases h.own.2 with ⟨e1, _⟩ | ⟨b, cap, cur, e1, _, e3, _⟩
  · rw [e1] at e; cases e
  · rw [e1] at e
    cases e
    rw [h.pm.row] at e3
    injection e3 with e3
    injection e3 with _ e4
    exact absurd e4 (by decide)

theorem PlZ9.step (h : PlZ9 w g M C xs a c W) (f : bp W.heap.size W1.heap.size W1 (aH N D)) (k : Below W.heap.size W W1) : PlZ9 w g N D xs a c (((W1.alloc (.cells (aO bx zeroA) 32)).setRow W1.heap.size (aO N D)).setRow g (aO N D)) := by
  have b3 : Below W1.heap.size W1 ((W1.alloc (.cells (aO bx zeroA) 32)).setRow W1.heap.size (aO N D)) := ch ((Below.refl _ _).alloc (Nat.le_refl _) _) (Nat.le_refl _) _
  have k3 := aa k b3
  have lgz9 := (Array.getElem?_eq_some_iff.1 h.pm.row).1
  have p : PmZ9 w g (aO M C) N D ((W1.alloc (.cells (aO bx zeroA) 32)).setRow W1.heap.size (aO N D)) := ⟨an k3 h.pm.out, an k3 h.pm.row, (f.below b3).low (by have := h.pm.lo; omega) b3.size, fun q hq e => by have := ((f.own q hq).lt _ e).1; omega, h.pm.lo, aa h.pm.bl k3⟩
  exact ⟨p.put _, gM h.own fun j e => (setRow_other _ _ _ _ (h.far e)).trans (k3.block j (h.own.lt j e).2)⟩

theorem PlZ9.push (h : PlZ9 w g M C xs a c W) (hn : xs.length ≤ 1000000) (x : Int) : ∃ (a' : Option Addr) (c' : Nat) (W' : World), (app1S 39 (.slice a xs.length c) (.slice (some ⟨W.heap.size, 0, none⟩) 1 1)).run Tryz.prog (W.alloc (.cells #[.int .i64 x] 2)) = .ok (.value (.slice a' (xs ++ [x]).length c')) W' ∧ PlZ9 w g M C (xs ++ [x]) a' c' W' := by
  have lgz9 := (Array.getElem?_eq_some_iff.1 h.pm.row).1
  have lo := h.pm.lo
  obtain ⟨a', c', W', hr, o, zzz9, e1, e2, e3, bl⟩ := push_own h.own (by omega) hn x
  refine ⟨a', c', W', hr, ⟨(bl _ (by omega) fun j hj e => ?_).trans h.pm.out, (bl _ lgz9 fun j hj e => h.far hj e).trans h.pm.row, ?_, h.pm.ne, lo, ⟨e1.trans h.pm.bl.os, e2.trans h.pm.bl.tape, e3.trans h.pm.bl.output, Nat.le_trans h.pm.bl.size zzz9, fun k hk => (bl k (by have := h.pm.bl.size; omega) fun j hj e => ?_).trans (h.pm.bl.block k hk)⟩⟩, o⟩
  · have := (h.own.lt j hj).1; omega
  · refine (h.pm.fam.other fun q hq k e => bl k ((h.pm.fam.own q hq).lt k e).2 fun j hj e2 => ?_).low (Nat.le_refl _) zzz9
    exact told_apart h.own h.pm.fam hj q hq (by rw [e2]; exact e)
  · have := (h.own.lt j hj).1; omega

end

structure LpZ9 (w : World) (g : Nat) (M : MV) (n j : Nat) (x : MV × MA × List Int × Option Addr × Nat × Nat) (W : World) : Prop where
  ejz9 : x.2.2.2.2.2 + j = n
  pl : PlZ9 w g x.1 x.2.1 x.2.2.1 x.2.2.2.1 x.2.2.2.2.1 W
  gw : Gw x.1
  ln : x.2.2.1.length = x.2.2.2.2.2
  st : stepsM n M = ((stepsM j x.1).1, x.2.2.1 ++ (stepsM j x.1).2)

set_option maxRecDepth 100000 in
theorem implSteps_any (M : MV) (A : MA) (n : Int) (w : World) (hl : jF M) (hs : uO w M A) (hf : Pb M) (hT : qb w) : Calls Tryz.prog 16 #[.agg (aO M A), .int .i64 n] w (mlQ w (stepsA M n)) := by
  have HM := fun W (hb : Below w.heap.size w W) => iZ M A W hl (hs.below hb) hf.mw.cs
  unfold stepsA
  refine cn (S := Bs w [(aO M A, 32), (aO bx zeroA, 32)]) (args := [.agg (aO M A), .int .i64 n]) [(aO M A, 32), (aO bx zeroA, 32)] Tryz.func16 ?_
  cases ok : gY M with
  | false =>
    rw [ok] at HM
    rw [if_neg (by simp)]
    refine af Bs.eng { cv := [(11, gB HM)] } 40 (Bs.start _ _) fun W1 h1 => ?_
    exact nt (R := []) trivial {} 40 (h1.1 1 _ rfl) rfl (gA _ _) Tryz.underlying32 ⟨zeroA, none, 0, rfl, qE _ _ _, ⟨rfl, .inl ⟨rfl, rfl⟩⟩, ch h1.2 (by omega) _⟩
  | true =>
    rw [ok] at HM
    cases d1 : decide (n < 0) with
    | true =>
      have := of_decide_eq_true d1
      rw [if_neg (by simp; omega)]
      refine af Bs.eng { cv := [(11, gB HM)], eq := [(15, au d1)] } 40 (Bs.start _ _) fun W1 h1 => ?_
      exact nt (R := []) trivial {} 40 (h1.1 1 _ rfl) rfl (gA _ _) Tryz.underlying32 ⟨zeroA, none, 0, rfl, qE _ _ _, ⟨rfl, .inl ⟨rfl, rfl⟩⟩, ch h1.2 (by omega) _⟩
    | false =>
      have n0 := of_decide_eq_false d1
      cases d2 : decide (300 < n) with
      | true =>
        have := of_decide_eq_true d2
        rw [if_neg (by simp; omega)]
        refine af Bs.eng { cv := [(11, gB HM)], eq := [(15, au d1), (19, au d2)] } 40 (Bs.start _ _) fun W1 h1 => ?_
        exact nt (R := []) trivial {} 40 (h1.1 1 _ rfl) rfl (gA _ _) Tryz.underlying32 ⟨zeroA, none, 0, rfl, qE _ _ _, ⟨rfl, .inl ⟨rfl, rfl⟩⟩, ch h1.2 (by omega) _⟩
      | false =>
        have n1 := of_decide_eq_false d2
        rw [if_pos (by simp; omega)]
        have hg : Gw M := ⟨hf.gd ok, hf.ud⟩
        obtain ⟨m, rfl⟩ := Int.eq_ofNat_of_zero_le (show 0 ≤ n by omega)
        rw [Int.toNat_natCast]
        have fin : ∀ (S : World → Prop) (g : Nat) (C : MA) (W : World), PmZ9 w g (aO bx zeroA) M C W → Wg Tryz.prog S (bodyPost Tryz.prog Tryz.f16 (mlQ w (stepsM m M))) Tryz.f16.ntmps [.code (aG 3 (bD Tryz.f16))] [(1, .int .i64 (m : Nat), 0), (4, .pointer (some ⟨w.heap.size + 1, 0, none⟩), 0), (6, .pointer (some ⟨g, 0, none⟩), 1)] (W.setRow g (aO M C)) := by
          intro S g C W hp
          have h0 : LpZ9 w g M m m (M, C, [], none, 0, 0) (W.setRow g (aO M C)) := ⟨by simp, ⟨hp.put _, ⟨rfl, .inl ⟨rfl, rfl⟩⟩⟩, hg, rfl, by simp⟩
          generalize W.setRow g (aO M C) = W0 at h0 ⊢
          refine cW (R := []) trivial {} 20 ?_
          refine Lc (fun x : MV × MA × List Int × Option Addr × Nat × Nat => [(4, .pointer (some ⟨w.heap.size + 1, 0, none⟩), 0), (6, .pointer (some ⟨g, 0, none⟩), 1), (7, .slice x.2.2.2.1 x.2.2.1.length x.2.2.2.2.1, 0), (27, .int .i64 (m : Nat), 0), (28, .int .i64 (x.2.2.2.2.2 : Nat), 0)]) (LpZ9 w g M m) m (M, C, [], none, 0, 0) (by kernel_rfl) (by kernel_rfl) h0 ?_
          clear h0 hp
          rintro j ⟨M1, A1, xs, a, c, i⟩ W ⟨ejz9, pl, gw, ln, st⟩ R hR
          dsimp only at ejz9 pl gw ln st ⊢
          have end_ : ∀ (M2 : MV) (A2 : MA) (ys : List Int) (b : Option Addr) (d : Nat) (V : World), stepsM m M = (M2, ys) → PlZ9 w g M2 A2 ys b d V → mlQ w (stepsM m M) (.returned (.tuple #[.agg (aO M2 A2), .slice b ys.length d])) (V.setRow (w.heap.size + 1) (aO M2 A2)) := by
            intro M2 A2 ys b d V e p
            rw [e]
            have lo := p.pm.lo
            refine ⟨A2, b, d, rfl, ?_, gM (dp p.own (by omega)) fun k e => setRow_other _ _ _ _ (by have := (p.own.lt k e).1; omega), ch p.pm.bl (by omega) _⟩
            rw [setRow_size]
            exact (p.pm.fam.mono fun k h1 h2 h3 => setRow_other _ _ _ _ (by omega)).low (by omega) (Nat.le_refl _)
          cases j with
          | zero =>
            have q : decide ((i : Int) < (m : Int)) = false := by rw [decide_eq_false_iff_not]; omega
            have e : stepsM m M = (M1, xs) := by rw [st]; simp [stepsM]
            exact nt (R := [⟨g, aO M1 A1, []⟩]) ⟨⟨_, _, pl.pm.row⟩, trivial⟩ { eq := [(29, au q)] } 60 pl.pm.out (by rfl) (gA _ _) Tryz.underlying32 (end_ M1 A1 xs a c W e pl)
          | succ j =>
            have q : decide ((i : Int) < (m : Int)) = true := by rw [decide_eq_true_eq]; omega
            have sr := yL M1 A1 W gw.1.len pl.pm.fam.msl ⟨gw.1.mw, gw.1.ux, gw.1.pc, gw.1.hd, gw.2⟩ (hT.below pl.pm.bl)
            have g1 := gw.step
            have e1 : stepsM (j + 1) M1 = if ((jK M1).2 == 4) = true then ((jK M1).1, [(jK M1).2]) else ((stepsM j (jK M1).1).1, (jK M1).2 :: (stepsM j (jK M1).1).2) := rfl
            rw [e1] at st
            clear e1
            unfold kZ at sr
            rw [if_pos gw.1.ok] at sr
            generalize jK M1 = V at sr g1 st
            obtain ⟨M2, k⟩ := V
            dsimp only at sr g1 st
            refine nZ (R := [⟨g, aO M1 A1, []⟩]) ⟨⟨_, _, pl.pm.row⟩, trivial⟩ { eq := [(29, au q)] } 60 sr ?_
            rintro e W1 ⟨A2, rfl, f2, k2⟩
            refine ⟨_, 0, rfl, ?_⟩
            have l2 := pl.step f2 k2
            have zc : (Value.agg (aO bx zeroA)).cells = aO bx zeroA := rfl
            refine Ng (R := []) trivial {} 20 2 (gF (T := 32) (z := .agg (aO bx zeroA)) (by kernel_rfl) W1) ?_
            rw [zc]
            refine oz (R := []) trivial {} 20 (bj (g := W1.heap.size) (t := 32) (ty := 32) (old := aO bx zeroA) (cells := aO M2 A2) (heap_alloc_new _ _) (by kernel_rfl) rfl (gA _ _)) ?_
            have rgz9 : ((W1.alloc (.cells (aO bx zeroA) 32)).setRow W1.heap.size (aO M2 A2)).heap[g]? = some (.cells (aO M1 A1) 32 (0, 0)) := an (aa k2 (ch ((Below.refl _ _).alloc (Nat.le_refl _) _) (Nat.le_refl _) _)) pl.pm.row
            refine oz (R := [⟨g, aO M1 A1, []⟩, ⟨W1.heap.size, aO M2 A2, []⟩]) ⟨⟨_, _, rgz9⟩, ⟨_, _, setRow_heap _ _ _ _ _ _ (heap_alloc_new _ _)⟩, trivial⟩ {} 40 (bj (g := g) (t := 32) (ty := 32) (old := aO M1 A1) (cells := aO M2 A2) rgz9 (by kernel_rfl) rfl (gA _ _)) ?_
            generalize ((W1.alloc (.cells (aO bx zeroA) 32)).setRow W1.heap.size (aO M2 A2)).setRow g (aO M2 A2) = W2 at l2 ⊢
            refine Ng (R := []) trivial {} 20 0 (run_bs1 W2 k) ?_
            obtain ⟨a', c', W3, hr, l3⟩ := l2.push (by omega) k
            refine iQ 0 hr ?_
            have hlen : (xs ++ [k]).length = xs.length + 1 := by simp
            cases hk : (k == 4) with
            | true =>
              rw [hk, if_pos rfl] at st
              exact nt (R := [⟨g, aO M2 A2, []⟩]) ⟨⟨_, _, l3.pm.row⟩, trivial⟩ { eq := [(41, au hk)] } 60 l3.pm.out (by rfl) (gA _ _) Tryz.underlying32 (end_ M2 A2 (xs ++ [k]) a' c' W3 st l3)
            | false =>
              rw [hk, if_neg (by decide)] at st
              have hw : IntKind.i64.wrap (((i : Nat) : Int) + 1) = ((i + 1 : Nat) : Int) := by rw [IntKind.wrap_i64]; omega
              exact wx_fin (R := []) trivial { eq := [(41, au hk), (42, ei .i64 hw)] } 60 fun b hb => hR b W3 j (M2, A2, xs ++ [k], a', c', i + 1) (by omega) (hb.less (by kernel_rfl)) ⟨by dsimp only; omega, l3, g1, by dsimp only; rw [hlen]; omega, by rw [st]; simp⟩
        refine af Bs.eng { cv := [(11, gB HM)], eq := [(15, au d1), (19, au d2)] } 17 (Bs.start _ _) fun W0 h0 => ?_
        refine aE [.code (aG 2 (bD Tryz.f16))] [(1, .int .i64 (m : Nat), 0), (2, .pointer (some ⟨w.heap.size, 0, none⟩), 1), (4, .pointer (some ⟨w.heap.size + 1, 0, none⟩), 2)] ?_
        refine cW (R := []) trivial {} 1 ?_
        refine zL 1 ?_
        have hcl := fun W (h : Bs w [(aO M A, 32), (aO bx zeroA, 32)] W) => oe A.ar M.ram.length A.cr M.ram W rfl hl.ram (hs.below h.2).ram
        have hap := fun (a' : Option Addr) (c' B : Nat) W (h : Bs w [(aO M A, 32), (aO bx zeroA, 32)] W) (hR : bp B W.heap.size W [aB a' M.ram.length c' M.ram]) (hB : B ≤ W.heap.size) => qH M A M.ram a' M.ram.length c' B W hl (hs.below h.2) hR hB rfl
        have h0d := h0.below (Below.refl W0.heap.size W0).drew
        have s0 := h0d.two
        have al : ∀ W : World, Below W.heap.size W (W.alloc (.cells (aO bx zeroA) 32)) := fun W => (Below.refl _ _).alloc (Nat.le_refl _) _
        have sal : ∀ W : World, (W.alloc (.cells (aO bx zeroA) 32)).heap.size = W.heap.size + 1 := fun W => World.size_alloc _ _
        have ral : ∀ W : World, _ := fun (W : World) => gF (P := Tryz.prog) (T := 32) (z := .agg (aO bx zeroA)) (by kernel_rfl) W
        have zc : (Value.agg (aO bx zeroA)).cells = aO bx zeroA := rfl
        rw [zc] at ral
        have sto : ∀ (g : Nat) (C : MA) (W : World), PmZ9 w g (aO bx zeroA) M C W → _ := fun g C W pr => bj (P := Tryz.prog) (g := g) (t := 32) (ty := 32) (old := aO bx zeroA) (cells := aO M C) pr.row (by kernel_rfl) rfl (gA _ _)
        generalize W0.drew = W1 at h0d s0 ⊢
        refine af (uN h0d) {} 3 rfl ?_
        rintro _ rfl
        rename_i W1
        refine tG (i := 3) (j := 5) ?_ ?_
        · refine sx (hcl _ h0d) ?_
          rintro e W2 ⟨a', c', rfl, o2, k2⟩
          have h2 := h0d.below k2
          have z2 := k2.size
          have f2 := ES o2 z2
          refine ⟨_, 0, rfl, h2, ?_⟩
          refine tG (i := 4) (j := 5) ?_ ?_
          · refine sx (hap a' c' _ W2 h2 f2 z2) ?_
            rintro e W3 ⟨C, _, _, rfl, f3, n3, k3⟩
            have h3 := h2.below k3
            have z3 := k3.size
            have h4 := h3.below (al W3)
            have pr : PmZ9 w W3.heap.size (aO bx zeroA) M C (W3.alloc (.cells (aO bx zeroA) 32)) := ⟨h4.1 1 _ rfl, heap_alloc_new _ _, (f3.below (al W3)).low s0 (by rw [sal]; omega), fun q hq e => by have := f3.hi q hq _ e; omega, by omega, h4.2⟩
            refine ⟨_, 0, rfl, h3, ?_⟩
            refine iQ 0 (ral W3) (hS := fun _ => h4) ?_
            refine af (uN h4) {} 1 rfl ?_
            rintro _ rfl
            refine bM (sto _ C _ pr) ?_
            refine cW (R := []) trivial {} 1 ?_
            exact aE _ _ (fin _ _ C _ pr)
          · have h3 := h2.below (al W2)
            refine vZ 0 (ral W2) h3 ?_
            have f3 := (f2.below (al W2)).low (Nat.le_refl _) (show W2.heap.size ≤ (W2.alloc (.cells (aO bx zeroA) 32)).heap.size by rw [sal]; omega)
            refine mr (hap a' c' _ _ h3 f3 (by rw [sal]; omega)) ?_
            rintro e W4 ⟨C, _, _, rfl, f4, n4, k4⟩
            have h4 := h3.below k4
            have pr : PmZ9 w W2.heap.size (aO bx zeroA) M C W4 := by
              refine ⟨h4.1 1 _ rfl, an k4 (heap_alloc_new _ _), f4.low s0 (Nat.le_refl _), fun q hq e => ?_, by omega, h4.2⟩
              rcases n4 q hq _ e with n | n
              · rw [sal] at n; omega
              · have := (o2.lt _ n).2; omega
            refine ⟨_, 0, rfl, fun _ => h4, ?_⟩
            refine af (uN h4) {} 1 rfl ?_
            rintro _ rfl
            refine bM (sto _ C _ pr) ?_
            refine cW (R := []) trivial {} 1 ?_
            exact aE _ _ (fin _ _ C _ pr)
        · have h1 := h0d.below (al W1)
          refine vZ 0 (ral W1) h1 ?_
          refine mr (hcl _ h1) ?_
          rintro e W2 ⟨a', c', rfl, o2, k2⟩
          have h2 := h1.below k2
          have z2 := k2.size
          have f2 := ES o2 z2
          refine ⟨_, 0, rfl, fun _ => h2, ?_⟩
          refine mr (hap a' c' _ W2 h2 f2 z2) ?_
          rintro e W3 ⟨C, _, _, rfl, f3, n3, k3⟩
          have h3 := h2.below k3
          rw [sal] at z2
          have pr : PmZ9 w W1.heap.size (aO bx zeroA) M C W3 := by
            refine ⟨h3.1 1 _ rfl, an k3 (an k2 (heap_alloc_new _ _)), f3.low (by rw [sal]; omega) (Nat.le_refl _), fun q hq e => ?_, by omega, h3.2⟩
            have := ((f3.own q hq).lt _ e).1
            rw [sal] at this
            omega
          refine ⟨_, 0, rfl, fun _ => h3, ?_⟩
          refine af (uN h3) {} 1 rfl ?_
          rintro _ rfl
          refine bM (sto _ C _ pr) ?_
          refine cW (R := []) trivial {} 1 ?_
          exact aE _ _ (fin _ _ C _ pr)

end Go.Proofs.YtjifdmoehfbihaaGreatDoor
