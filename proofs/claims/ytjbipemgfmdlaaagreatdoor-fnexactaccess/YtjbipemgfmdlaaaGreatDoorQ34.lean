/- Own lemmas. -/
import Derived.Test.YtjbipemgfmdlaaaGreatDoorQ20
import Derived.Test.YtjbipemgfmdlaaaGreatDoorQ21
import Derived.Test.YtjbipemgfmdlaaaGreatDoorQ27
import Derived.Test.YtjbipemgfmdlaaaGreatDoorQ28
import Derived.Test.YtjbipemgfmdlaaaGreatDoorQ30
import Derived.Test.YtjbipemgfmdlaaaGreatDoorQ31
import Derived.Test.YtjbipemgfmdlaaaGreatDoorQ32
import Derived.Test.YtjbipemgfmdlaaaGreatDoorQ33
namespace Go.Proofs.YtjbipemgfmdlaaaGreatDoor
open Go.RowKit
set_option linter.unusedVariables false

theorem tell_mp (M : MV) (A : MA) (B r : Nat) (w : World) (h22 : M.cs.length = 22) (hl : MLen M) (h : Mp B r M A w) :
    Calls Tryz.prog 80 #[.pointer (some ⟨r, 0, none⟩)] w fun e w' => e = .returned (.tuple #[]) ∧ Mp B r (lineD M) A w' ∧ Kx r (mvF M A) (mvF (lineD M) A) w w' := by
  have hs := mvF_same (M := M) (M' := lineD M) (A := A) rfl (lineD_len M) rfl rfl rfl
  refine (tellLines_any M A r B w.heap.size w h22 hl h.row h.fam h.ne).mono fun e w' ⟨h1, h2, h3, h4⟩ => ⟨h1, ⟨h2, h3.low (Nat.le_refl _) h4.size, ?_, h.lo⟩, Kx.of_keepL h4 hs⟩
  intro q hq e
  obtain ⟨q0, h0, e0⟩ := hs q hq
  exact h.ne q0 h0 (by rw [e0]; exact e)

structure Rm (M : MV) : Prop where
  h22 : M.cs.length = 22
  U9 : U (M.cs.getD 9 0)
  bells : bellsB M = true
  ok : okD M.d.xs.length M.d.ys.length M.d.ir = true
  ram : ramOkB M.ram.length = true
  len : MLen M
  wram : ∀ y ∈ M.ram, (Lit.int .u8 y).wf = true
  wd : bytesOk M.d
  hd : U M.hd

theorem Mp.shape {B r : Nat} {M : MV} {A : MA} {w : World} (h : Mp B r M A w) (h0 : 0 < M.ram.length) : ∃ g, A.ar = some ⟨g, 0, none⟩ ∧ M.ram.length ≤ A.cr ∧ A.cr ≤ 9223372036854775807 := by
  have ho := h.fam.own (bRow A.ar M.ram.length A.cr M.ram) (by simp [mvF])
  have hg := own_good (w := w) (a := A.ar) (c := A.cr) ho
  rcases ho.2 with ⟨e, e0⟩ | ⟨g', cap, cur, e, _⟩
  · have : M.ram.length = 0 := e0; omega
  · have e2 : Value.slice A.ar M.ram.length A.cr = .slice (some ⟨g', 0, none⟩) M.ram.length cap := e
    injection e2 with e3
    exact ⟨g', e3, hg.2.1, by have := hg.2.2; unfold maxLen at this; exact this⟩

theorem load_i {B r : Nat} {M : MV} {A : MA} {w : World} (hR : Rm M) (pa size : Int) (hp : U pa) (h : Mp B r M A w) : Calls Tryz.prog 78 #[.slice A.ar M.ram.length A.cr, .int .u64 pa, .int .i64 size] w fun e w' => e = .returned (.tuple #[.int .u64 (loadB M.ram M.ram.length pa size), .bool (okB M.ram.length pa size)]) ∧ Below w.heap.size w w' := by
  obtain ⟨g, hg, h1, h2⟩ := h.shape (ramOk_pos9 hR.ram)
  have hs := h.fam.msl.ram
  rw [hg] at hs
  rw [hg]
  exact implLoad_any g M.ram.length A.cr M.ram pa size w rfl hR.len.ram hs hR.wram h1 h2 hp.1 (by have := hp.2; omega)

theorem reach_any (M : MV) (A : MA) (B r : Nat) (pa size kind x : Int) (w : World) (hm : Mp B r M A w) (hR : Rm M) (hsz : sizeB size = true) (hk : kind = 1 ∨ kind = 2 ∨ kind = 3) (hp : U pa) (hx : U x) :
    Calls Tryz.prog 35 #[.pointer (some ⟨r, 0, none⟩), .int .u64 pa, .int .i64 size, .int .i64 kind, .int .u64 x] w fun e w' => e = .returned (.tuple #[.int .u64 (rch M pa size kind x).1, .bool (rch M pa size kind x).2.1]) ∧ ∃ A', Mp B r (rch M pa size kind x).2.2 A' w' ∧ Kx r (mvF M A) (mvF (rch M pa size kind x).2.2 A') w w' := by
  have hl := hR.len
  have hLD : loadD M.d pa size = ldV M.d (sel pa size) := by unfold loadD; rw [hR.ok]; rfl
  have hSD : storeD M.d pa size x = stV M.d x (sel pa size) := by unfold storeD; rw [hR.ok]; rfl
  have hL := fun w' (h : Mp B r M A w') => load_i (A := A) (w := w') hR pa size hp h
  rcases hk with rfl | rfl | rfl
  · refine (reach_1 M A B r pa size x _ _ w hm hL).mono fun e w' h => ?_
    unfold rch loadB at *
    revert h
    cases okB M.ram.length pa size <;> intro h <;> exact h
  · obtain ⟨M2, hM2⟩ : ∃ X, X = if (ldV M.d (sel pa size)).2.2 = true then devM M (ldV M.d (sel pa size)).2.1 else M := ⟨_, rfl⟩
    have h22 : M2.cs.length = 22 := by rw [hM2]; split <;> exact hR.h22
    have hl2 : MLen M2 := by
      rw [hM2]
      have := ldV_ok M.d (sel pa size) hl.xs hl.ys
      split
      · exact ⟨hl.x, hl.cs, hl.ram, this.1, this.2⟩
      · exact hl
    have hK : ∀ w', Mp B r M A w' → Calls Tryz.prog 79 #[.pointer (some ⟨r, 5, none⟩), .int .u64 pa, .int .i64 size] w' fun e w'' => e = .returned (.tuple #[.int .u64 (ldV M.d (sel pa size)).1, .bool (ldV M.d (sel pa size)).2.2]) ∧ ∃ A', Mp B r M2 A' w'' ∧ Kx r (mvF M A) (mvF M2 A') w' w'' := fun w' h => by
      rw [hM2]
      refine take_mp M A B r pa size _ (ldV M.d (sel pa size)).2.1 _ w' h (fun w'' h2 => ?_)
      have h3 := implDevLoad_any M.d A.ai A.ci A.ao A.co pa size w'' hl.xs hl.ys hR.wd h2.fam.msl.xs h2.fam.msl.ys
      rw [hLD] at h3
      exact h3
    have hT := fun (A' : MA) w' (h : Mp B r M2 A' w') => tell_mp M2 A' B r w' h22 hl2 h
    refine (reach_2 M A B r pa size x _ _ M2 (lineD M2) _ _ w hm hL hK hT).mono fun e w' h => ?_
    have e3 : lineD M2 = if (ldV M.d (sel pa size)).2.2 = true then lineM (devM M (ldV M.d (sel pa size)).2.1) else M := by
      rw [hM2]
      cases hc : (ldV M.d (sel pa size)).2.2 with
      | true => rw [if_pos rfl, if_pos rfl]; exact lineD_eq (ldV_okD M.d _ hR.ok hc)
      | false => rw [if_neg (by decide), if_neg (by decide)]; rw [lineD_eq hR.ok]; exact line_same hR.h22 hR.U9 hR.bells
    rw [e3] at h
    have y0 : (ldV M.d (sel pa size)).2.2 = false → (ldV M.d (sel pa size)).1 = 0 := ldV_no M.d _
    unfold rch loadB at *
    revert h y0
    cases okB M.ram.length pa size <;> cases (ldV M.d (sel pa size)).2.2 <;> intro h y0
    · rw [y0 rfl] at h; exact h
    · exact h
    · exact h
    · exact h
  · obtain ⟨R, hRR⟩ : ∃ R, R = storeB M.ram M.ram.length pa size x := ⟨_, rfl⟩
    have hRl : R.length ≤ 1048576 := by rw [hRR]; exact storeB_len _ _ _ _ _ rfl hl.ram
    have hsl := stV_len M.d x hl.xs (okD_bd hR.ok).2.1 (sel pa size)
    have hS := fun w' (h : Mp B r M A w') => implStore_any A.ar M.ram.length A.cr M.ram pa size x w' rfl hl.ram h.fam.msl.ram hp.1 (by have := hp.2; omega) hx.1 (by have := hx.2; omega)
    unfold storeLen at hS
    simp only [← hRR] at hS
    have hV := fun w' (h : Mp B r M A w') => give_mp M A B r pa size x (stV M.d x (sel pa size)).1 (stV M.d x (sel pa size)).2 w' h (fun w'' h2 => by
      have h3 := implDevStore_any M.d A.ai A.ci A.ao A.co pa size x w'' hl.xs hl.ys hR.wd h2.fam.msl.xs h2.fam.msl.ys
      rw [hSD] at h3
      exact h3)
    have hT : ∀ (X : MV) (A' : MA) w', Mp B r X A' w' → (X = memM M R ∨ X = devM M (stV M.d x (sel pa size)).1) → Calls Tryz.prog 80 #[.pointer (some ⟨r, 0, none⟩)] w' fun e w'' => e = .returned (.tuple #[]) ∧ Mp B r (lineD X) A' w'' ∧ Kx r (mvF X A') (mvF (lineD X) A') w' w'' := fun X A' w' h hX => by
      rcases hX with rfl | rfl
      · exact tell_mp _ A' B r w' hR.h22 ⟨hl.x, hl.cs, hRl, hl.xs, hl.ys⟩ h
      · exact tell_mp _ A' B r w' hR.h22 ⟨hl.x, hl.cs, hl.ram, hsl.1, hsl.2⟩ h
    have hG : ∀ (X : MV) (A' : MA) w', Mp B r X A' w' → (X = lineD (memM M R) ∨ X = lineD (devM M (stV M.d x (sel pa size)).1)) → Calls Tryz.prog 117 #[.pointer (some ⟨r, 0, none⟩), .int .u64 pa] w' fun e w'' => e = .returned (.tuple #[]) ∧ Mp B r (letM X pa) A' w'' ∧ Kx r (mvF X A') (mvF (letM X pa) A') w' w'' := fun X A' w' h hX => by
      have hd : U X.hd := by rcases hX with rfl | rfl <;> exact hR.hd
      exact letGo_mp X A' B r pa (heldB9 X pa) w' h (held_eq X pa hp hd)
    have hP := fun w' (h : Mp B r M A w') => put_mp M A B r pa size x R (stV M.d x (sel pa size)).1 (okB M.ram.length pa size) (stV M.d x (sel pa size)).2 lineD (fun X => letM X pa) w' h hS hV hT hG
    refine (reach_3 M _ A B r pa size x _ w hm hP).mono fun e w' h => ?_
    have e1 : lineD (memM M R) = memM M R := by
      have hb : bellsB (memM M R) = true := hR.bells
      rw [lineD_eq (M := memM M R) hR.ok]
      exact line_same (M := memM M R) hR.h22 hR.U9 hb
    have e2 : (stV M.d x (sel pa size)).2 = true → lineD (devM M (stV M.d x (sel pa size)).1) = lineM (devM M (stV M.d x (sel pa size)).1) := fun hc => lineD_eq (M := devM M (stV M.d x (sel pa size)).1) (stV_okS M.d x pa size hR.ok hc)
    have e4 : okB M.ram.length pa size = true → R = put M.ram (pa - 2147483648).toNat x size.toNat := fun hc => by rw [hRR]; unfold storeB; rw [hc]; rfl
    rw [e1] at h
    unfold rch
    revert h e2 e4
    cases okB M.ram.length pa size <;> cases (stV M.d x (sel pa size)).2 <;> intro h e2 e4
    · exact h
    · rw [e2 rfl] at h; exact h
    · rw [e4 rfl] at h; exact h
    · rw [e4 rfl] at h; exact h

end Go.Proofs.YtjbipemgfmdlaaaGreatDoor
