/- The program's lines of bytes: what is sent, received and kept, in one goroutine. -/
import Derived.Test.YtbkddoibefgplaaChanX
import Derived.Test.YtbkddoibefgplaaPushP
import Derived.Test.YtbkddoibefgplaaDevP
import Derived.Deep.Cut
namespace Go.Proofs.Ytbkddoibefgplaa
open Go.RowKit Go.Conc
set_option linter.unusedVariables false

theorem Only.refl (c : Nat) (w : World) : Only c w w := ⟨rfl, fun _ _ => rfl, fun _ _ _ h => h⟩

theorem Only.trans {c : Nat} {w w1 w2 : World} (h : Only c w w1) (k : Only c w1 w2) : Only c w w2 := ⟨k.size.trans h.size, fun j hj => (k.else_ j hj).trans (h.else_ j hj), fun B a hB hb => k.below B a hB (h.below B a hB hb)⟩

theorem Only.keep {c : Nat} {w w1 : World} (h : Only c w w1) (hc : c < w.heap.size) : Keep c (c + 1) w w1 := by
  have hb := h.below c w (Nat.le_refl _) (Below.refl _ _)
  exact ⟨hb.os, hb.tape, hb.output, by rw [h.size]; exact Nat.le_refl _, fun k hk ho => h.else_ k (by omega)⟩

theorem Keep.push {c : Nat} {w wr w1 w3 : World} {o : Obj} {row : Option Nat} (h : Keep c (c + 1) w wr) (hc : c < w.heap.size) (ho : Only c wr w1) (gr : (w1.alloc o).grownBy w3 row) (hr : ∀ k, row = some k → w.heap.size ≤ k) : Keep c (c + 1) w w3 := by
  have hb := ho.below c wr (Nat.le_refl _) (Below.refl _ _)
  have hs := gr.size
  have hs1 := ho.size
  have hs2 := h.size
  rw [World.size_alloc] at hs
  refine ⟨gr.os.trans (hb.os.trans h.os), gr.tape.trans (hb.tape.trans h.tape), gr.output.trans (hb.output.trans h.output), by omega, fun k hk hne => ?_⟩
  rw [gr.block k (by rw [World.size_alloc]; omega) (fun e => by have := hr k e.symm; omega), Below.heap_alloc w1 o k (by omega), ho.else_ k (by omega), h.block k hk hne]

theorem chan_push {c cap : Nat} {buf : List Value} {cl : Bool} {w1 w3 : World} {o : Obj} {row : Option Nat} (h : ChanAt w1 c cap buf cl) (gr : (w1.alloc o).grownBy w3 row) (hr : ∀ k, row = some k → c < k) : ChanAt w3 c cap buf cl :=
  chanAt_of_eq h ((gr.block c (by rw [World.size_alloc]; have := h.lt; omega) (fun e => by have := hr c e.symm; omega)).trans (Below.heap_alloc w1 o c h.lt))

theorem take_more (zs : List Int) (k : Nat) (h : k < zs.length) : (zs.take k).map (Value.int .u8) ++ [.int .u8 (zs.getD k 0)] = (zs.take (k + 1)).map (Value.int .u8) := by
  have h1 : zs.take (k + 1) = zs.take k ++ [zs.getD k 0] := by
    rw [List.take_succ_eq_append_getElem h]
    simp [List.getD, List.getElem?_eq_getElem h]
  rw [h1, List.map_append]
  rfl

theorem drop_more (zs : List Int) (k : Nat) (h : k < zs.length) : (zs.drop k).map (Value.int .u8) = .int .u8 (zs.getD k 0) :: (zs.drop (k + 1)).map (Value.int .u8) := by
  rw [List.drop_eq_getElem_cons h, List.map_cons]
  simp [List.getD, List.getElem?_eq_getElem h]

set_option maxRecDepth 100000 in
set_option maxHeartbeats 1600000 in
theorem sendAll_any (c cap : Nat) (a : Option Addr) (n k0 : Nat) (zs : List Int) (w0 w : World) (hz : zs.length = n) (hn : n ≤ 1048576) (hroom : n ≤ cap) (hsl : Sl .u8 w0 a zs) (hb0 : Below w0.heap.size w0 w) (hc0 : w0.heap.size ≤ c) (hc : ChanAt w c cap [] false) :
    Calls Try.prog 56 #[.chan (some c), .slice a n k0] w fun e w' => e = .returned (.tuple #[]) ∧ ChanAt w' c cap (zs.map (Value.int .u8)) false ∧ Only c w w' := by
  have HB : Hid (Below w0.heap.size w0 w ∧ w0.heap.size ≤ c) := ⟨hb0, hc0⟩
  have HS : Hid (Sl .u8 w0 a zs) := hsl
  have HC : Hid (ChanAt w c cap [] false) := hc
  have HZ : Hid (zs.length = n) := hz
  have HR : Hid (n ≤ cap) := hroom
  clear hb0 hc0 hsl hc hz hroom
  go_enter Try.func56, Try.ntmps56
  go_wp2_with fail
  go_loopw [8] (fun i wr => ∃ k : Nat, k ≤ n ∧ i = .int .i64 k ∧ Hid (ChanAt wr c cap ((zs.take k).map (Value.int .u8)) false) ∧ Hid (Only c w wr))
    (fun i _ => n - (intOf i).toNat)
  case atStart => exact ⟨0, Nat.zero_le _, rfl, HC.out, Only.refl _ _⟩
  case round =>
    obtain ⟨k, hk, rfl, hch, hon⟩ := hrel
    by_cases hlt : k < n
    · obtain ⟨b, off, rfl, hb, hcl⟩ := HS.out k (by rw [HZ.out]; exact hlt)
      have KC : wr.cell? ⟨b, off + k, none⟩ = some (.int .u8 (zs.getD k 0)) := ((hon.out.below _ _ HB.out.2 HB.out.1).cell (by exact hb)).trans hcl
      clear hcl
      have HE : Hid ((zs.take k).map (Value.int .u8) ++ [.int .u8 (zs.getD k 0)] = (zs.take (k + 1)).map (Value.int .u8)) := by
        exact take_more zs k (by have := HZ.out; omega)
      have HL : ((zs.take k).map (Value.int .u8)).length < cap := by have := HZ.out; have := HR.out; simp; omega
      go_upto_region 3 with fail
      refine wp_region_all ?_
      intro QC hQC
      unfold RunsAll
      refine runs_op rfl rfl ?_
      simp [go_sem, Act.put]
      refine runs_op rfl rfl ?_
      simp [go_sem, Act.put]
      refine runs_sendA (c := c) (v := .int .u8 (zs.getD k 0)) (z := .tuple #[]) rfl rfl (by simp [go_sem, scase]) hch.out HL ?_
      intro w1 hc1 ho1
      simp only [Act.put]
      refine runs_nil (hQC.out _ _ _ ?_)
      clear hQC
      go_wp2_with fail
      go_roundw
      case rel => exact ⟨k + 1, by omega, by go_num, by rw [← HE.out]; exact hc1, hon.out.trans ho1⟩
      case measure => simp [intOf]; omega
    · have hkn : k = n := by omega
      subst hkn
      rw [← HZ.out, List.take_length] at hch
      go_wp2_with fail
      refine bodyPost_end (results_none rfl _ _ _) rfl ?_
      exact ⟨rfl, hch.out, hon.out⟩

set_option maxRecDepth 100000 in
set_option maxHeartbeats 1600000 in
theorem received_any (c cap : Nat) (zs : List Int) (w : World) (hn : zs.length ≤ 1048576) (hc : ChanAt w c cap (zs.map (Value.int .u8)) true) :
    Calls Try.prog 57 #[.chan (some c)] w fun e w' => ∃ (a' : Option Addr) (c' : Nat), e = .returned (.slice a' zs.length c') ∧ w'.ownsRow w.heap.size 5 1 (.slice a' zs.length c') zs.length (zs.map (Value.int .u8)) ∧ Keep c (c + 1) w w' := by
  have HC : Hid (ChanAt w c cap (zs.map (Value.int .u8)) true) := hc
  have HN : Hid (zs.length ≤ 1048576) := hn
  clear hc hn
  go_enter Try.func57, Try.ntmps57
  go_wp2_with fail
  go_loopw [3] (fun y wr => ∃ (k : Nat) (a' : Option Addr) (c' : Nat), k ≤ zs.length ∧ y = .slice a' k c' ∧ Hid (wr.ownsRow w.heap.size 5 1 (.slice a' k c') k ((zs.take k).map (Value.int .u8))) ∧ Hid (ChanAt wr c cap ((zs.drop k).map (Value.int .u8)) true) ∧ Hid (Keep c (c + 1) w wr))
    (fun _ wr => chanLen wr c)
  case atStart => exact ⟨0, none, 0, Nat.zero_le _, rfl, ⟨rfl, .inl ⟨rfl, rfl⟩⟩, HC.out, Keep.refl _ _ _⟩
  case round =>
    obtain ⟨k, a', c', hk, rfl, how, hch, hkp⟩ := hrel
    by_cases hlt : k < zs.length
    · have HT := dhid (take_more zs k hlt)
      have hch2 : ChanAt wr c cap (.int .u8 (zs.getD k 0) :: (zs.drop (k + 1)).map (Value.int .u8)) true := by rw [← drop_more zs k hlt]; exact hch.out
      have HCH := dhid hch2
      clear hch2 hch
      have HLC := dhid (HC.out.lt)
      generalize zs.getD k 0 = b at *
      refine wp_seq (wp_region_all ?_)
      intro QC hQC
      unfold RunsAll
      refine runs_recvA (c := c) (z := .int .u8 0) true rfl rfl (by simp [go_sem, rcase]) HCH.out ?_
      intro w1 hc1 ho1
      simp only [got, if_true]
      refine runs_op rfl rfl ?_
      simp [go_sem, Act.put]
      refine runs_nil (hQC.out _ _ _ ?_)
      clear hQC
      simp only [Exit.then]
      have HO : Hid ((w1.alloc (.cells #[.int .u8 b] 5)).ownsRow w.heap.size 5 1 (.slice a' k c') k ((zs.take k).map (Value.int .u8))) := ownsRow_below (fown_of how.out (fun q e => ho1.else_ q (by have := (how.out.lt q e).1; have := HLC.out; omega))) ((Below.refl _ _).alloc (Nat.le_refl _) _)
      have HNEW := dhid (one_new8 w1 b)
      have Z1 := dhid (show w.heap.size ≤ w1.heap.size by rw [ho1.size]; exact hkp.out.size)
      have HC1 := dhid hc1
      have HO1 := dhid ho1
      clear hc1 ho1
      go_wp2_with (first
        | (at_builtin; refine wpList_push8 rfl (.tmp 9) (.tmp 11) rfl w.heap.size k (.slice a' k c') (zs.take k) rfl HO.out (by have := HN.out; omega) ⟨w1.heap.size, 0, none⟩ 1 b rfl HNEW.out (by have := Z1.out; simp only [World.size_alloc]; omega) ?_; intro f1 g1 w3 ow3 gr3 hw3; have OW := dhid ow3; have GR := dhid gr3; clear ow3 gr3 hw3))
      have hlow : ∀ q, (Value.slice a' k c').ownBlock = some q → w.heap.size ≤ q := fun q e => (how.out.lt q e).1
      have hc3 := chan_push HC1.out GR.out (fun q e => Nat.lt_of_lt_of_le HLC.out (hlow q e))
      go_roundw
      case rel => exact ⟨k + 1, f1, g1, by omega, rfl, (by rw [← HT.out]; have h := OW.out; rw [List.map_append] at h; exact h), hc3, hkp.out.push HLC.out HO1.out GR.out hlow⟩
      case measure => rw [hc3.len, HCH.out.len]; simp
    · have hkn : zs.length = k := by omega
      have hch2 : ChanAt wr c cap [] true := by
        have h := hch.out
        rw [← hkn, List.drop_length] at h
        exact h
      have HCH := dhid hch2
      clear hch2 hch
      refine wp_seq (wp_region_all ?_)
      intro QC hQC
      unfold RunsAll
      refine runs_shutA (c := c) (z := .int .u8 0) true rfl rfl (by simp [go_sem, rcase]) HCH.out ?_
      simp only [got, if_true]
      refine runs_op rfl rfl ?_
      simp [go_sem, Act.put]
      refine runs_nil (hQC.out _ _ _ ?_)
      clear hQC
      simp only [Exit.then]
      go_wp2_with fail
      go_ret
      refine ⟨a', c', (by rw [hkn]; rfl), ?_, hkp.out⟩
      have h := how.out
      rw [← hkn, List.take_length] at h
      exact h

theorem mkLine (most : Nat) (hm : most ≤ 1048576) (w : World) : (Instr.makeChan 74 (.int .i64 most)).run Try.prog w = .ok (.chan (some w.heap.size)) (w.alloc (.chan most #[] false 0 0 false)) := by
  obtain ⟨i0, hi, hz0, hz1, hz2⟩ := info_parts Try.info5
  exact run_makeChan Try.underlying74 hi .i64 most (by omega) (by rw [hz2]; omega)

/-- A list of at most 'most' bytes with one more behind it. -/
def behind (zs : List Int) (b : Int) (most : Nat) : List Int := if zs.length < most then zs ++ [b] else zs

theorem line_own {w w1 w2 w3 : World} {o : Obj} {v : Value} {n : Nat} {xs : List Value} {c : Nat} (hc : c = w.heap.size) (h1 : Only c (w.alloc o) w1) (h2 : Only c w1 w2) (h3 : Keep c (c + 1) w2 w3) (ho : w3.ownsRow w2.heap.size 5 1 v n xs) : w3.ownsRow w.heap.size 5 1 v n xs ∧ Below w.heap.size w w3 := by
  subst hc
  have s1 := h1.size
  have s2 := h2.size
  have s3 := h3.size
  rw [World.size_alloc] at s1
  have hb := h2.below _ _ (Nat.le_refl _) (h1.below _ _ (Nat.le_refl _) ((Below.refl w.heap.size w).alloc (Nat.le_refl _) o))
  exact ⟨own_low ho (by omega), hb.trans (h3.below (Nat.le_refl _) (by omega))⟩

set_option maxRecDepth 100000 in
set_option maxHeartbeats 1600000 in
theorem withBehind_any (a : Option Addr) (n k0 most : Nat) (zs : List Int) (b : Int) (w : World) (hz : zs.length = n) (hm : most ≤ 4096) (hn : n ≤ most) (hsl : Sl .u8 w a zs) :
    Calls Try.prog 37 #[.slice a n k0, .int .u8 b, .int .i64 most] w fun e w' => ∃ (a' : Option Addr) (c' : Nat), e = .returned (.slice a' (behind zs b most).length c') ∧ w'.ownsRow w.heap.size 5 1 (.slice a' (behind zs b most).length c') (behind zs b most).length ((behind zs b most).map (Value.int .u8)) ∧ Below w.heap.size w w' := by
  have HS : Hid (∀ w1, Below w.heap.size w w1 → ChanAt w1 w.heap.size most [] false → Calls Try.prog 56 #[.chan (some w.heap.size), .slice a n k0] w1 fun e w' => e = .returned (.tuple #[]) ∧ ChanAt w' w.heap.size most (zs.map (Value.int .u8)) false ∧ Only w.heap.size w1 w') := fun w1 hb hc => sendAll_any _ _ _ _ _ zs w w1 hz (by omega) hn hsl hb (Nat.le_refl _) hc
  have hmk := mkLine most (by omega)
  have HB : Hid (∀ o, Below w.heap.size w (w.alloc o)) := fun o => (Below.refl _ _).alloc (Nat.le_refl _) o
  have HC : Hid (∀ m, ChanAt (w.alloc (.chan m #[] false 0 0 false)) w.heap.size m [] false) := fun m => ⟨0, 0, heap_alloc_new _ _⟩
  by_cases hl : n < most
  · have HE : Hid (behind zs b most = zs ++ [b]) := by show _ = _; unfold behind; rw [hz, if_pos hl]
    have HN : Hid ((behind zs b most).length ≤ 1048576) := by show _ ≤ _; rw [HE.out]; simp; omega
    have HL : Hid ((zs.map (Value.int .u8)).length < most) := by show _ < _; simp; omega
    have HM : Hid (zs.map (Value.int .u8) ++ [.int .u8 b] = (behind zs b most).map (Value.int .u8)) := by show _ = _; rw [HE.out, List.map_append]; rfl
    clear HE
    generalize behind zs b most = V at *
    have dl : decide (n < most) = true := by simp; omega
    clear hl hsl hz hn hm
    go_enter Try.func37, Try.ntmps37
    go_wp2_with fail
    refine (HS.out _ (HB.out _) (HC.out _)).mono ?_
    rintro e w1 ⟨rfl, hc1, ho1⟩
    have HC1 := dhid hc1
    have HO1 := dhid ho1
    clear hc1 ho1
    go_upto_region 4 with fail
    refine wp_region_all ?_
    intro QC hQC
    unfold RunsAll
    refine runs_op rfl rfl ?_
    simp [go_sem, Act.put]
    refine runs_op rfl rfl ?_
    simp [go_sem, Act.put]
    refine runs_sendA (c := w.heap.size) (v := .int .u8 b) (z := .tuple #[]) rfl rfl (by simp [go_sem, scase]) HC1.out HL.out ?_
    intro w2 hc2 ho2
    simp only [Act.put]
    refine runs_nil (hQC.out _ _ _ ?_)
    clear hQC
    obtain ⟨w3, hcl, hc3, ho3⟩ := closeA (P := Try.prog) hc2
    rw [HM.out] at hc3
    have HO2 := dhid (HO1.out.trans (ho2.trans ho3))
    have HR := dhid (received_any w.heap.size most V w3 HN.out hc3)
    clear hc2 ho2 hc3 ho3
    try simp only [Exit.then]
    go_wp2_with fail
    refine (HR.out).mono ?_
    rintro e w4 ⟨a', c', rfl, ow, hk⟩
    have OW := dhid (line_own rfl HO2.out (Only.refl _ _) hk ow)
    clear ow hk
    go_wp2_with fail
    go_ret
    exact ⟨a', c', rfl, OW.out.1, OW.out.2⟩
  · have HE : Hid (behind zs b most = zs) := by show _ = _; unfold behind; rw [hz, if_neg hl]
    have HN : Hid (zs.length ≤ 1048576) := by show _ ≤ _; omega
    generalize behind zs b most = V at *
    have dl : decide (n < most) = false := by simp; omega
    have HZ : Hid (zs.length = n) := hz
    clear hl hsl hz hn hm
    go_enter Try.func37, Try.ntmps37
    go_wp2_with fail
    refine (HS.out _ (HB.out _) (HC.out _)).mono ?_
    rintro e w1 ⟨rfl, hc1, ho1⟩
    obtain ⟨w3, hcl, hc3, ho3⟩ := closeA (P := Try.prog) hc1
    have HO2 := dhid (ho1.trans ho3)
    have HR := dhid (received_any w.heap.size most zs w3 HN.out hc3)
    clear hc1 ho1 hc3 ho3
    go_wp2_with fail
    refine (HR.out).mono ?_
    rintro e w4 ⟨a', c', rfl, ow, hk⟩
    have OW := dhid (line_own rfl HO2.out (Only.refl _ _) hk ow)
    clear ow hk
    go_wp2_with fail
    go_ret
    exact ⟨a', c', (by rw [HE.out]; rfl), (by rw [HE.out]; exact OW.out.1), OW.out.2⟩

set_option maxRecDepth 100000 in
set_option maxHeartbeats 1600000 in
theorem firstAndRest_any (a : Option Addr) (n k0 : Nat) (zs : List Int) (w : World) (hz : zs.length = n) (hn : n ≤ 4096) (hsl : Sl .u8 w a zs) :
    Calls Try.prog 40 #[.slice a n k0] w fun e w' => ∃ (a' : Option Addr) (c' : Nat), e = .returned (.tuple #[.int .u8 (zs.getD 0 0), .slice a' (zs.drop 1).length c']) ∧ w'.ownsRow w.heap.size 5 1 (.slice a' (zs.drop 1).length c') (zs.drop 1).length ((zs.drop 1).map (Value.int .u8)) ∧ Below w.heap.size w w' := by
  have HS : Hid (∀ w1, Below w.heap.size w w1 → ChanAt w1 w.heap.size n [] false → Calls Try.prog 56 #[.chan (some w.heap.size), .slice a n k0] w1 fun e w' => e = .returned (.tuple #[]) ∧ ChanAt w' w.heap.size n (zs.map (Value.int .u8)) false ∧ Only w.heap.size w1 w') := fun w1 hb hc => sendAll_any _ _ _ _ _ zs w w1 hz (by omega) (Nat.le_refl _) hsl hb (Nat.le_refl _) hc
  have hmk := mkLine n (by omega)
  have HB : Hid (∀ o, Below w.heap.size w (w.alloc o)) := fun o => (Below.refl _ _).alloc (Nat.le_refl _) o
  have HC : Hid (∀ m, ChanAt (w.alloc (.chan m #[] false 0 0 false)) w.heap.size m [] false) := fun m => ⟨0, 0, heap_alloc_new _ _⟩
  have HN : Hid ((zs.drop 1).length ≤ 1048576) := by show _ ≤ _; simp; omega
  clear hsl
  cases zs with
  | nil =>
    clear hz hn
    go_enter Try.func40, Try.ntmps40
    go_wp2_with fail
    refine (HS.out _ (HB.out _) (HC.out _)).mono ?_
    rintro e w1 ⟨rfl, hc1, ho1⟩
    obtain ⟨w3, hcl, hc3, ho3⟩ := closeA (P := Try.prog) hc1
    have HO2 := dhid (ho1.trans ho3)
    have HC3 := dhid hc3
    clear hc1 ho1 hc3 ho3
    go_upto_region 4 with fail
    refine wp_region_all ?_
    intro QC hQC
    unfold RunsAll
    refine runs_op rfl rfl ?_
    simp [go_sem, Act.put]
    refine runs_shutA (c := w.heap.size) (z := .int .u8 0) false rfl rfl (by simp [go_sem, rcase]) HC3.out ?_
    simp [got]
    refine runs_op rfl rfl ?_
    simp [go_sem, Act.put]
    refine runs_nil (hQC.out _ _ _ ?_)
    clear hQC
    have HR := dhid (received_any w.heap.size n [] w3 (by simp) HC3.out)
    try simp only [Exit.then]
    go_wp2_with fail
    refine (HR.out).mono ?_
    rintro e w4 ⟨a', c', rfl, ow, hk⟩
    have OW := dhid (line_own rfl HO2.out (Only.refl _ _) hk ow)
    clear ow hk
    go_wp2_with fail
    refine bodyPost_ret (results_tmp2 rfl _ _ _) rfl ?_
    exact ⟨a', c', rfl, OW.out.1, OW.out.2⟩
  | cons z zs =>
    clear hz hn
    go_enter Try.func40, Try.ntmps40
    go_wp2_with fail
    refine (HS.out _ (HB.out _) (HC.out _)).mono ?_
    rintro e w1 ⟨rfl, hc1, ho1⟩
    obtain ⟨w3, hcl, hc3, ho3⟩ := closeA (P := Try.prog) hc1
    have HO2 := dhid (ho1.trans ho3)
    have HC3 := dhid hc3
    clear hc1 ho1 hc3 ho3
    go_upto_region 4 with fail
    refine wp_region_all ?_
    intro QC hQC
    unfold RunsAll
    refine runs_op rfl rfl ?_
    simp [go_sem, Act.put]
    refine runs_recvA (c := w.heap.size) (z := .int .u8 0) false rfl rfl (by simp [go_sem, rcase]) HC3.out ?_
    intro w2 hc2 ho2
    have HO3 := dhid (HO2.out.trans ho2)
    have HR := dhid (received_any w.heap.size n zs w2 HN.out hc2)
    clear hc2 ho2
    simp [got]
    refine runs_op rfl rfl ?_
    simp [go_sem, Act.put]
    refine runs_nil (hQC.out _ _ _ ?_)
    clear hQC
    try simp only [Exit.then]
    go_wp2_with fail
    refine (HR.out).mono ?_
    rintro e w4 ⟨a', c', rfl, ow, hk⟩
    have OW := dhid (line_own rfl HO3.out (Only.refl _ _) hk ow)
    clear ow hk
    go_wp2_with fail
    refine bodyPost_ret (results_tmp2 rfl _ _ _) rfl ?_
    exact ⟨a', c', rfl, OW.out.1, OW.out.2⟩

end Go.Proofs.Ytbkddoibefgplaa
