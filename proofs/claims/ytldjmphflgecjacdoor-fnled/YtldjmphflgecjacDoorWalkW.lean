/- The model's Walk. -/
import Derived.Test.YtldjmphflgecjacDoorWalkT1
import Derived.Test.YtldjmphflgecjacDoorWalkT2
import Derived.Test.YtldjmphflgecjacDoorWalkT3
namespace Go.Proofs.YtldjmphflgecjacDoor
open Go.RowKit
set_option linter.unusedVariables false

theorem l7Walk_any (ra : Option Addr) (n rcap : Nat) (zs : List Int) (b off cap : Nat) (l : List Int) (p va kind : Int) (w : World)
    (hr : ramOkB n = true) (hz : zs.length = n) (hs : Sl .u8 w ra zs) (hw8 : ∀ y ∈ zs, (Lit.int .u8 y).wf = true) (hlz : l.length = 22) (hl : Sl .u64 w (some ⟨b, off, none⟩) l) (hp : privB p = true) (hk1 : 1 ≤ kind) (hk3 : kind ≤ 3) (hva : 0 ≤ va ∧ va < 18446744073709551616) :
    Calls Tryd.prog 51 #[.slice ra n rcap, .slice (some ⟨b, off, none⟩) 22 cap, .int .i64 p, .int .u64 va, .int .i64 kind] w fun e w' => e = .returned (.agg (walkV zs n l p va kind).cells) ∧ Below w.heap.size w w' := by
  have hk : kind = 1 ∨ kind = 2 ∨ kind = 3 := by omega
  rcases hk with h | h | h
  · exact l7Walk_1 ra n rcap zs b off cap l p va kind w hr hz hs hw8 hlz hl hp hk1 hk3 hva h
  · exact l7Walk_2 ra n rcap zs b off cap l p va kind w hr hz hs hw8 hlz hl hp hk1 hk3 hva h
  · exact l7Walk_3 ra n rcap zs b off cap l p va kind w hr hz hs hw8 hlz hl hp hk1 hk3 hva h

theorem U_want (e kind : Int) : U (wantV e kind) := by
  unfold wantV
  split
  · exact U_bits _ _ _
  · exact U_bits _ _ _

theorem leaf_mark (l : List Int) (p va kind e x : Int) (lv : Nat) (h : (leafV l p va kind e x lv).marked = true) : (leafV l p va kind e x lv).at_ = x ∧ U (leafV l p va kind e x lv).entry := by
  unfold leafV at h ⊢
  split at h
  · cases h
  · rename_i h1
    split at h
    · cases h
    · rename_i h2
      split at h
      · cases h
      · rename_i h3
        rw [if_neg h1, if_neg h2, if_neg h3]
        split at h
        · rename_i h4
          rw [if_pos h4]
          split at h
          · rename_i h5
            rw [if_pos h5]
            exact ⟨rfl, U_want e kind⟩
          · cases h
        · cases h

/-- What a walk marks lies in the memory. -/
theorem walkL_mark (zs : List Int) (n : Nat) (l : List Int) (p va kind : Int) : ∀ lv T, (walkL zs n l p va kind lv T).marked = true → okB n (walkL zs n l p va kind lv T).at_ 8 = true ∧ U (walkL zs n l p va kind lv T).entry := by
  intro lv
  induction lv with
  | zero =>
    intro T h
    rw [walkL] at h ⊢
    split at h
    · rename_i h1
      rw [if_pos h1]
      split at h
      · rename_i h2
        rw [if_pos h2]
        split at h
        · cases h
        · rename_i h3
          rw [if_neg h3]
          split at h
          · cases h
          · rename_i h4
            rw [if_neg h4]
            obtain ⟨e1, e2⟩ := leaf_mark _ _ _ _ _ _ _ h
            rw [e1]
            exact ⟨h1, e2⟩
      · cases h
    · cases h
  | succ lv ih =>
    intro T h
    rw [walkL] at h ⊢
    split at h
    · rename_i h1
      rw [if_pos h1]
      split at h
      · rename_i h2
        rw [if_pos h2]
        split at h
        · cases h
        · rename_i h3
          rw [if_neg h3]
          split at h
          · rename_i h4
            rw [if_pos h4]
            split at h
            · cases h
            · rename_i h5
              rw [if_neg h5]
              exact ih _ h
          · rename_i h4
            rw [if_neg h4]
            obtain ⟨e1, e2⟩ := leaf_mark _ _ _ _ _ _ _ h
            rw [e1]
            exact ⟨h1, e2⟩
      · cases h
    · cases h

theorem walk_mark (zs : List Int) (n : Nat) (l : List Int) (p va kind : Int) (h : (walkV zs n l p va kind).marked = true) : okB n (walkV zs n l p va kind).at_ 8 = true ∧ U (walkV zs n l p va kind).entry := by
  unfold walkV at h ⊢
  split at h
  · cases h
  · rename_i h1
    rw [if_neg h1]
    split at h
    · cases h
    · rename_i h2
      rw [if_neg h2]
      exact walkL_mark _ _ _ _ _ _ _ _ h

def kindIn (kind : Int) : Bool := decide (1 ≤ kind ∧ kind ≤ 3)

def walkOk (n m : Nat) (l : List Int) (p kind : Int) : Bool := ramOkB n && legalB m l p && kindIn kind

/-- Where Walk leads, its code, and the memory behind it. -/
def walkA (zs : List Int) (n m : Nat) (l : List Int) (p va kind : Int) : Int := if walkOk n m l p kind = true then (walkV zs n l p va kind).addr else 0

def walkC (zs : List Int) (n m : Nat) (l : List Int) (p va kind : Int) : Int := if walkOk n m l p kind = true then (walkV zs n l p va kind).code else if kindIn kind = true then faultC kind else 1

def markB (zs : List Int) (f : Fd) : List Int := if f.marked = true then put zs (f.at_ - 2147483648).toNat f.entry 8 else zs

def walkB (zs : List Int) (n m : Nat) (l : List Int) (p va kind : Int) : List Int := if walkOk n m l p kind = true then markB zs (walkV zs n l p va kind) else []

theorem mark_len (zs : List Int) (f : Fd) : (markB zs f).length = zs.length := by
  unfold markB
  split
  · rw [put_len]
  · rfl

theorem below_qN {B : Nat} {a w : World} (h : Below B a w) (n : Nat) : Below B a (w.drewN n) := ⟨h.os, h.tape, h.output, h.size, h.block⟩

theorem row_grown {A B : World} {row : Option Nat} {g : Nat} {o : Obj} (h : A.heap[g]? = some o) (hg : A.grownBy B row) (hne : some g ≠ row) : B.heap[g]? = some o := (hg.block g (Array.getElem?_eq_some_iff.1 h).1 hne).trans h

theorem row_al {W : World} {g : Nat} {o : Obj} (h : W.heap[g]? = some o) (o' : Obj) : (W.alloc o').heap[g]? = some o := (Below.heap_alloc W o' g (Array.getElem?_eq_some_iff.1 h).1).trans h

theorem cell_of {W : World} {g : Nat} {cs : Array Value} {t : TypeId} {f : Nat × Nat} (h : W.heap[g]? = some (.cells cs t f)) (j : Nat) : W.cell? ⟨g, j, none⟩ = cs[j]? := by simp [World.cell?, h]

theorem own_emptyB (w : World) (base : Nat) (hb : base ≤ w.heap.size) (o : Obj) (ho : o = .cells #[] 5 (0, 0)) : (w.alloc o).ownsRow base 5 1 (.slice (some ⟨w.heap.size, 0, none⟩) 0 0) 0 (([] : List Int).map (Value.int .u8)) := by
  subst ho
  exact World.ownsRow_lit w #[] 0 hb (by unfold maxLen; omega) rfl

theorem field_code (fk : Int) (w : World) : (Instr.field 69 (.agg #[.int .u64 0, .int .i64 fk, .bool false, .int .u64 0, .int .u64 0]) 1).run Tryd.prog w = .ok (.int .i64 fk) w := by kernel_rfl

set_option maxRecDepth 100000 in
set_option maxHeartbeats 1600000 in
theorem specWalk_no (ra : Option Addr) (n rcap : Nat) (zs : List Int) (la : Option Addr) (m cap : Nat) (l : List Int) (p va kind : Int) (w : World) (hn : n ≤ 1048576) (hlz : l.length = m) (hl : Sl .u64 w la l) (hok : walkOk n m l p kind = false) :
    Calls Tryd.prog 14 #[.slice ra n rcap, .slice la m cap, .int .i64 p, .int .u64 va, .int .i64 kind] w fun e w' => ∃ (a' : Option Addr) (c : Nat), e = .returned (.tuple #[.int .u64 0, .int .i64 (if kindIn kind = true then faultC kind else 1), .slice a' 0 c]) ∧
      w'.ownsRow w.heap.size 5 1 (.slice a' 0 c) 0 (([] : List Int).map (Value.int .u8)) ∧ Below w.heap.size w w' := by
  have HR : Hid (Calls Tryd.prog 39 #[.slice ra n rcap] w fun e w' => e = .returned (.bool (ramOkB n)) ∧ w' = w) := specRamOk_any ra n rcap w hn
  have HG : Hid (Calls Tryd.prog 30 #[.slice la m cap, .int .i64 p] w fun e w' => e = .returned (.bool (legalB m l p)) ∧ w' = w) := specLegal_any la m cap l p w hlz hl
  have HK : Hid (∀ w, Calls Tryd.prog 32 #[.int .i64 kind] w fun e w' => e = .returned (.bool (kindIn kind)) ∧ w' = w) := l6Kind_any kind
  have HF : Hid (kindIn kind = true → ∀ w, Calls Tryd.prog 50 #[.int .i64 kind] w fun e w' => e = .returned (.agg (faultF kind).cells) ∧ Below w.heap.size w w') := fun h w => by
    have h2 : 1 ≤ kind ∧ kind ≤ 3 := by simpa [kindIn] using h
    exact l7Fault_any kind h2.1 h2.2 w
  have HF1 : Hid (∀ w, Calls Tryd.prog 50 #[.int .i64 1] w fun e w' => e = .returned (.agg (faultF 1).cells) ∧ Below w.heap.size w w') := fun w => l7Fault_any 1 (by omega) (by omega) w
  have HC1 : Hid ((faultF 1).cells = #[.int .u64 0, .int .i64 1, .bool false, .int .u64 0, .int .u64 0]) := (rfl : (faultF 1).cells = _)
  have HCK : Hid ((faultF kind).cells = #[.int .u64 0, .int .i64 (faultC kind), .bool false, .int .u64 0, .int .u64 0]) := (rfl : (faultF kind).cells = _)
  have OK0 : (ramOkB n && legalB m l p && kindIn kind) = false := hok
  clear hl hlz hn hok
  generalize kindIn kind = kb at *
  generalize faultC kind = fk at *
  generalize ramOkB n = rb at *
  generalize legalB m l p = lb at *
  have fd1 := field_code 1
  have fdk := field_code fk
  cases kb with
  | true =>
    have HFK : Hid (∀ w, Calls Tryd.prog 50 #[.int .i64 kind] w fun e w' => e = .returned (.agg #[.int .u64 0, .int .i64 fk, .bool false, .int .u64 0, .int .u64 0]) ∧ Below w.heap.size w w') := fun w => by
      have := HF.out rfl w
      rw [HCK.out] at this
      exact this
    clear HF HF1 HC1 HCK
    cases rb with
    | false =>
      go_enter Tryd.func14, Tryd.ntmps14
      go_wp2_with fail
      refine HR.out.mono ?_
      rintro e w1 ⟨rfl, hw1⟩
      have hw1' := hw1.symm
      subst hw1'
      go_wp2_with fail
      refine (HK.out _).mono ?_
      rintro e w1 ⟨rfl, hw1⟩
      have hw1' := hw1.symm
      subst hw1'
      go_wp2_with fail
      refine (HFK.out _).mono ?_
      rintro e w2 ⟨rfl, hb2⟩
      go_wp2_with fail
      go_ret3
      exact ⟨_, _, rfl, own_emptyB _ _ hb2.size _ rfl, hb2.alloc hb2.size _⟩
    | true =>
      cases lb with
      | false =>
        go_enter Tryd.func14, Tryd.ntmps14
        go_wp2_with fail
        refine HR.out.mono ?_
        rintro e w1 ⟨rfl, hw1⟩
        have hw1' := hw1.symm
        subst hw1'
        go_wp2_with fail
        refine HG.out.mono ?_
        rintro e w1 ⟨rfl, hw1⟩
        have hw1' := hw1.symm
        subst hw1'
        go_wp2_with fail
        refine (HK.out _).mono ?_
        rintro e w1 ⟨rfl, hw1⟩
        have hw1' := hw1.symm
        subst hw1'
        go_wp2_with fail
        refine (HFK.out _).mono ?_
        rintro e w2 ⟨rfl, hb2⟩
        go_wp2_with fail
        go_ret3
        exact ⟨_, _, rfl, own_emptyB _ _ hb2.size _ rfl, hb2.alloc hb2.size _⟩
      | true => cases OK0
  | false =>
    have HFK : Hid (∀ w, Calls Tryd.prog 50 #[.int .i64 1] w fun e w' => e = .returned (.agg #[.int .u64 0, .int .i64 1, .bool false, .int .u64 0, .int .u64 0]) ∧ Below w.heap.size w w') := fun w => by
      have := HF1.out w
      rw [HC1.out] at this
      exact this
    clear HF HF1 HC1 HCK
    cases rb with
    | false =>
      go_enter Tryd.func14, Tryd.ntmps14
      go_wp2_with fail
      refine HR.out.mono ?_
      rintro e w1 ⟨rfl, hw1⟩
      have hw1' := hw1.symm
      subst hw1'
      go_wp2_with fail
      refine (HK.out _).mono ?_
      rintro e w1 ⟨rfl, hw1⟩
      have hw1' := hw1.symm
      subst hw1'
      go_wp2_with fail
      refine (HFK.out _).mono ?_
      rintro e w2 ⟨rfl, hb2⟩
      go_wp2_with fail
      go_ret3
      exact ⟨_, _, rfl, own_emptyB _ _ hb2.size _ rfl, hb2.alloc hb2.size _⟩
    | true =>
      cases lb with
      | false =>
        go_enter Tryd.func14, Tryd.ntmps14
        go_wp2_with fail
        refine HR.out.mono ?_
        rintro e w1 ⟨rfl, hw1⟩
        have hw1' := hw1.symm
        subst hw1'
        go_wp2_with fail
        refine HG.out.mono ?_
        rintro e w1 ⟨rfl, hw1⟩
        have hw1' := hw1.symm
        subst hw1'
        go_wp2_with fail
        refine (HK.out _).mono ?_
        rintro e w1 ⟨rfl, hw1⟩
        have hw1' := hw1.symm
        subst hw1'
        go_wp2_with fail
        refine (HFK.out _).mono ?_
        rintro e w2 ⟨rfl, hb2⟩
        go_wp2_with fail
        go_ret3
        exact ⟨_, _, rfl, own_emptyB _ _ hb2.size _ rfl, hb2.alloc hb2.size _⟩
      | true =>
        go_enter Tryd.func14, Tryd.ntmps14
        go_wp2_with fail
        refine HR.out.mono ?_
        rintro e w1 ⟨rfl, hw1⟩
        have hw1' := hw1.symm
        subst hw1'
        go_wp2_with fail
        refine HG.out.mono ?_
        rintro e w1 ⟨rfl, hw1⟩
        have hw1' := hw1.symm
        subst hw1'
        go_wp2_with fail
        refine (HK.out _).mono ?_
        rintro e w1 ⟨rfl, hw1⟩
        have hw1' := hw1.symm
        subst hw1'
        go_wp2_with fail
        refine (HK.out _).mono ?_
        rintro e w1 ⟨rfl, hw1⟩
        have hw1' := hw1.symm
        subst hw1'
        go_wp2_with fail
        refine (HFK.out _).mono ?_
        rintro e w2 ⟨rfl, hb2⟩
        go_wp2_with fail
        go_ret3
        exact ⟨_, _, rfl, own_emptyB _ _ hb2.size _ rfl, hb2.alloc hb2.size _⟩

set_option maxRecDepth 100000 in
set_option maxHeartbeats 3200000 in
theorem specWalk_yes (ra : Option Addr) (n rcap : Nat) (zs : List Int) (la : Option Addr) (cap : Nat) (l : List Int) (p va kind : Int) (w : World) (hz : zs.length = n) (hs : Sl .u8 w ra zs) (hw8 : ∀ y ∈ zs, (Lit.int .u8 y).wf = true)
    (hlz : l.length = 22) (hl : Sl .u64 w la l) (hva : 0 ≤ va ∧ va < 18446744073709551616) (hok : walkOk n 22 l p kind = true) :
    Calls Tryd.prog 14 #[.slice ra n rcap, .slice la 22 cap, .int .i64 p, .int .u64 va, .int .i64 kind] w fun e w' => ∃ (a' : Option Addr) (c : Nat), e = .returned (.tuple #[.int .u64 (walkV zs n l p va kind).addr, .int .i64 (walkV zs n l p va kind).code, .slice a' n c]) ∧
      w'.ownsRow w.heap.size 5 1 (.slice a' n c) n ((markB zs (walkV zs n l p va kind)).map (Value.int .u8)) ∧ Below w.heap.size w w' := by
  have hok2 : (ramOkB n && legalB 22 l p && kindIn kind) = true := hok
  simp only [Bool.and_eq_true] at hok2
  obtain ⟨⟨hr, hlg⟩, hkb⟩ := hok2
  have hbd := ramOkB_bd hr
  have hk2 : 1 ≤ kind ∧ kind ≤ 3 := by simpa [kindIn] using hkb
  obtain ⟨_, hp⟩ := legalB_parts hlg
  obtain ⟨b, off, rfl, hblt, _⟩ := hl 0 (by omega)
  have HR : Hid (Calls Tryd.prog 39 #[.slice ra n rcap] w fun e w' => e = .returned (.bool true) ∧ w' = w) := by
    have := specRamOk_any ra n rcap w (by omega); rw [hr] at this; exact this
  have HG : Hid (Calls Tryd.prog 30 #[.slice (some ⟨b, off, none⟩) 22 cap, .int .i64 p] w fun e w' => e = .returned (.bool true) ∧ w' = w) := by
    have := specLegal_any (some ⟨b, off, none⟩) 22 cap l p w hlz hl; rw [hlg] at this; exact this
  have HK : Hid (∀ w, Calls Tryd.prog 32 #[.int .i64 kind] w fun e w' => e = .returned (.bool true) ∧ w' = w) := fun w => by
    have := l6Kind_any kind w; rw [show decide (1 ≤ kind ∧ kind ≤ 3) = true from hkb] at this; exact this
  have HW := l7Walk_any ra n rcap zs b off cap l p va kind w hr hz hs hw8 hlz hl hp hk2.1 hk2.2 hva
  have HM : Hid ((walkV zs n l p va kind).marked = true → okB n (walkV zs n l p va kind).at_ 8 = true ∧ U (walkV zs n l p va kind).entry) := walk_mark zs n l p va kind
  obtain ⟨b0, off0, rfl, hb0, _⟩ := hs 0 (by omega)
  have HSR : Hid (Sl .u8 w (some ⟨b0, off0, none⟩) zs) := hs
  have HZ : Hid (zs.length = n) := hz
  have HN : Hid (4096 ≤ n ∧ n ≤ 65536) := hbd
  clear hs hz hl hlz hlg hp hk2 hkb hr hw8 hva hok hbd
  generalize walkV zs n l p va kind = f at *
  obtain ⟨fa, fc, fm, ft, fe⟩ := f
  have HW2 : Hid (Calls Tryd.prog 51 #[.slice (some ⟨b0, off0, none⟩) n rcap, .slice (some ⟨b, off, none⟩) 22 cap, .int .i64 p, .int .u64 va, .int .i64 kind] w fun e w' => e = .returned (.agg #[.int .u64 fa, .int .i64 fc, .bool fm, .int .u64 ft, .int .u64 fe]) ∧ Below w.heap.size w w') := HW
  clear HW
  simp only at HM ⊢
  obtain ⟨i0, hi, hz0, hz1, hz2⟩ := info_parts Tryd.info5
  have h1c : ∀ u ∈ zs.map (Value.int .u8), u.oneCell' = true := ints_oneCell _ _
  have hb9 : (0 + n) * 1 ≤ 140737488355328 := by have := HN.out; omega
  have hm9 : 0 + n ≤ maxLen := by have := HN.out; unfold maxLen; omega
  have hlen : (zs.map (Value.int .u8)).length = n * 1 := by rw [List.length_map, HZ.out]; omega
  go_enter Tryd.func14, Tryd.ntmps14
  go_wp2_with fail
  refine HR.out.mono ?_
  rintro e w1 ⟨rfl, hw1⟩
  have hw1' := hw1.symm
  subst hw1'
  go_wp2_with fail
  refine HG.out.mono ?_
  rintro e w1 ⟨rfl, hw1⟩
  have hw1' := hw1.symm
  subst hw1'
  go_wp2_with fail
  refine (HK.out _).mono ?_
  rintro e w1 ⟨rfl, hw1⟩
  have hw1' := hw1.symm
  subst hw1'
  go_wp2_with fail
  refine HW2.out.mono ?_
  rintro e w2 ⟨rfl, hb2⟩
  have HB2 : Hid (Below w.heap.size w w2) := hb2
  have S2 : Hid (Sl .u8 w2 (some ⟨b0, off0, none⟩) zs) := HSR.out.below hb2
  clear hb2
  have hE := own_emptyB (w2.alloc (.cells #[.int .u64 fa, .int .i64 fc, .bool fm, .int .u64 ft, .int .u64 fe] 69)) (w2.heap.size + 1) (by simp) (.cells #[] 5 (0, 0)) rfl
  rw [World.size_alloc] at hE
  have hnews : ∀ (o : Obj) (j : Nat) (u : Value), (zs.map (Value.int .u8))[j]? = some u → ((w2.alloc (.cells #[.int .u64 fa, .int .i64 fc, .bool fm, .int .u64 ft, .int .u64 fe] 69)).alloc o).cell? ((⟨b0, off0, none⟩ : Addr).add j) = some u := by
    intro o j u hu
    exact news_of (S2.out.below ((Below.refl _ _).alloc (Nat.le_refl _) _)) o j u hu
  have HNEWS : Hid (∀ (o : Obj) (j : Nat) (u : Value), (zs.map (Value.int .u8))[j]? = some u → ((w2.alloc (.cells #[.int .u64 fa, .int .i64 fc, .bool fm, .int .u64 ft, .int .u64 fe] 69)).alloc o).cell? ((⟨b0, off0, none⟩ : Addr).add j) = some u) := hnews
  have H1C : Hid (∀ u ∈ zs.map (Value.int .u8), u.oneCell' = true) := h1c
  clear hnews h1c
  have hrow := heap_alloc_new w2 (.cells #[.int .u64 fa, .int .i64 fc, .bool fm, .int .u64 ft, .int .u64 fe] 69)
  have HROW : Hid ((w2.alloc (.cells #[.int .u64 fa, .int .i64 fc, .bool fm, .int .u64 ft, .int .u64 fe] 69)).heap[w2.heap.size]? = some (.cells #[.int .u64 fa, .int .i64 fc, .bool fm, .int .u64 ft, .int .u64 fe] 69 (0, 0))) := hrow
  clear hrow
  cases fm with
  | false =>
    go_wp2_with (first
      | (at_builtin; refine wpList_append_own _ rfl (.tmp 44) (.tmp 45) 22 rfl _ 5 i0 (.int .u8 0) 1 1 Tryd.underlying22 hi hz0 hz1 hz2 rfl (by decide) _ 0 [] (by rfl) hE ⟨b0, off0, none⟩ n rcap (zs.map (Value.int .u8)) rfl hlen (HNEWS.out _) H1C.out hm9 hb9 (by simp) ?_; intro v' w3 hown1 hgrow1 hnil1; simp only [Nat.zero_add, List.nil_append] at hown1; obtain ⟨g, cp, hv, hg⟩ := own_shape hown1 (by have := HN.out; omega); rw [hv] at hown1 ⊢; have OWN : Hid (w3.ownsRow (w2.heap.size + 1) 5 1 (.slice (some ⟨g, 0, none⟩) n cp) n (zs.map (Value.int .u8))) := hown1; have ROW3 : Hid (w3.heap[w2.heap.size]? = some (.cells #[.int .u64 fa, .int .i64 fc, .bool false, .int .u64 ft, .int .u64 fe] 69 (0, 0))) := row_grown (row_al HROW.out _) hgrow1 (by simp [Value.ownBlock]); have B3 : Hid (Below w.heap.size w w3) := Below.grown ((HB2.out.alloc HB2.out.size _).alloc (by have := HB2.out.size; simp; omega) _) hgrow1 (by have := HB2.out.size; simp; omega) (by intro k hk; simp [Value.ownBlock] at hk; have := HB2.out.size; omega); have HG0 : Hid (w2.heap.size + 1 ≤ g) := hg; have k0 := cell_of ROW3.out 0; have k1 := cell_of ROW3.out 1; have k2 := cell_of ROW3.out 2; have k3 := cell_of ROW3.out 3; have k4 := cell_of ROW3.out 4; simp at k0 k1 k2 k3 k4; clear hnil1 hgrow1 hown1 hv hg))
    go_quiet (fail)
    go_wp2_with fail
    go_ret3
    exact ⟨_, _, rfl, ownsRow_below (own_low OWN.out (by have := HB2.out.size; omega)) (below_qN (Below.refl _ _) _), below_qN B3.out _⟩
  | true =>
    obtain ⟨hat, hue⟩ := HM.out rfl
    obtain ⟨hr, hsz, hb1, hb2, hs1, hs2, hn1, hn2⟩ := okB_true hat
    obtain ⟨f, hf⟩ : ∃ f : Nat, ft = 2147483648 + (f : Int) := ⟨(ft - 2147483648).toNat, by omega⟩
    subst hf
    have HPUT : Hid (∀ (w3 : World) (g cp : Nat), w3.ownsRow (w2.heap.size + 1) 5 1 (.slice (some ⟨g, 0, none⟩) n cp) n (zs.map (Value.int .u8)) → Calls Tryd.prog 52 #[.slice (some ⟨g, 0, none⟩) n cp, .int .u64 (2147483648 + (f : Int)), .int .i64 8, .int .u64 fe] w3 fun e w' => e = .returned (.tuple #[]) ∧
        w'.ownsRow (w2.heap.size + 1) 5 1 (.slice (some ⟨g, 0, none⟩) n cp) n ((put zs f fe 8).map (Value.int .u8)) ∧ w3.grownBy w' (some g)) := fun w3 g cp h => l1Put_any g n cp f 8 _ zs fe w3 (by have := HN.out; omega) (by omega) (by omega) hue.1 (by have := hue.2; omega) h
    have FB : Hid (markB zs ⟨fa, fc, true, 2147483648 + (f : Int), fe⟩ = put zs f fe 8) := by
      show markB _ _ = _
      unfold markB
      simp only [if_true]
      rw [show (2147483648 + (f : Int) - 2147483648).toNat = f from by omega]
    clear hat hue hr hsz hb1 hb2 hs1 hs2 hn1 hn2 HM
    go_wp2_with (first
      | (at_builtin; refine wpList_append_own _ rfl (.tmp 44) (.tmp 45) 22 rfl _ 5 i0 (.int .u8 0) 1 1 Tryd.underlying22 hi hz0 hz1 hz2 rfl (by decide) _ 0 [] (by rfl) hE ⟨b0, off0, none⟩ n rcap (zs.map (Value.int .u8)) rfl hlen (HNEWS.out _) H1C.out hm9 hb9 (by simp) ?_; intro v' w3 hown1 hgrow1 hnil1; simp only [Nat.zero_add, List.nil_append] at hown1; obtain ⟨g, cp, hv, hg⟩ := own_shape hown1 (by have := HN.out; omega); rw [hv] at hown1 ⊢; have OWN : Hid (w3.ownsRow (w2.heap.size + 1) 5 1 (.slice (some ⟨g, 0, none⟩) n cp) n (zs.map (Value.int .u8))) := hown1; have ROW3 : Hid (w3.heap[w2.heap.size]? = some (.cells #[.int .u64 fa, .int .i64 fc, .bool true, .int .u64 (2147483648 + (f : Int)), .int .u64 fe] 69 (0, 0))) := row_grown (row_al HROW.out _) hgrow1 (by simp [Value.ownBlock]); have B3 : Hid (Below w.heap.size w w3) := Below.grown ((HB2.out.alloc HB2.out.size _).alloc (by have := HB2.out.size; simp; omega) _) hgrow1 (by have := HB2.out.size; simp; omega) (by intro k hk; simp [Value.ownBlock] at hk; have := HB2.out.size; omega); have HG0 : Hid (w2.heap.size + 1 ≤ g) := hg; have k0 := cell_of ROW3.out 0; have k1 := cell_of ROW3.out 1; have k2 := cell_of ROW3.out 2; have k3 := cell_of ROW3.out 3; have k4 := cell_of ROW3.out 4; simp at k0 k1 k2 k3 k4; clear hnil1 hgrow1 hown1 hv hg))
    refine (HPUT.out _ _ _ OWN.out).mono ?_
    rintro e w4 ⟨rfl, hown4, hgrow4⟩
    have OWN4 : Hid (w4.ownsRow (w2.heap.size + 1) 5 1 (.slice (some ⟨g, 0, none⟩) n cp) n ((put zs f fe 8).map (Value.int .u8))) := hown4
    have ROW4 := row_grown ROW3.out hgrow4 (by have := HG0.out; simp; omega)
    have B4 : Hid (Below w.heap.size w w4) := Below.grown B3.out hgrow4 B3.out.size (by intro k hk; cases hk; have := HG0.out; have := HB2.out.size; omega)
    have l0 := cell_of ROW4 0
    have l1 := cell_of ROW4 1
    simp at l0 l1
    clear k0 k1 k2 k3 k4 hown4 hgrow4 ROW4
    go_wp2_with fail
    go_quiet (fail)
    go_wp2_with fail
    go_ret3
    refine ⟨_, _, rfl, ?_, below_qN B4.out _⟩
    rw [FB.out]
    exact ownsRow_below (own_low OWN4.out (by have := HB2.out.size; omega)) (below_qN (Below.refl _ _) _)

theorem specWalk_any (ra : Option Addr) (n rcap : Nat) (zs : List Int) (la : Option Addr) (m cap : Nat) (l : List Int) (p va kind : Int) (w : World) (hz : zs.length = n) (hn : n ≤ 1048576) (hs : Sl .u8 w ra zs) (hw8 : ∀ y ∈ zs, (Lit.int .u8 y).wf = true)
    (hlz : l.length = m) (hl : Sl .u64 w la l) (hva : 0 ≤ va ∧ va < 18446744073709551616) :
    Calls Tryd.prog 14 #[.slice ra n rcap, .slice la m cap, .int .i64 p, .int .u64 va, .int .i64 kind] w fun e w' => ∃ (a' : Option Addr) (c : Nat), e = .returned (.tuple #[.int .u64 (walkA zs n m l p va kind), .int .i64 (walkC zs n m l p va kind), .slice a' (walkB zs n m l p va kind).length c]) ∧
      w'.ownsRow w.heap.size 5 1 (.slice a' (walkB zs n m l p va kind).length c) (walkB zs n m l p va kind).length ((walkB zs n m l p va kind).map (Value.int .u8)) ∧ Below w.heap.size w w' := by
  unfold walkA walkC walkB
  cases hok : walkOk n m l p kind with
  | false =>
    simp only [Bool.false_eq_true, if_false]
    exact specWalk_no ra n rcap zs la m cap l p va kind w hn hlz hl hok
  | true =>
    simp only [if_true]
    have hm : m = 22 := by
      unfold walkOk at hok
      simp only [Bool.and_eq_true] at hok
      exact (legalB_parts hok.1.2).1
    subst hm
    rw [mark_len, hz]
    exact specWalk_yes ra n rcap zs la cap l p va kind w hz hs hw8 hlz hl hva hok

end Go.Proofs.YtldjmphflgecjacDoor
