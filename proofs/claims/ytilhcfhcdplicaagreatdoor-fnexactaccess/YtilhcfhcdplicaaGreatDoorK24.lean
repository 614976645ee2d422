/- Own lemmas. -/
import Derived.Test.YtilhcfhcdplicaaGreatDoorK12
import Derived.Test.YtilhcfhcdplicaaGreatDoorK21
import Derived.Test.YtilhcfhcdplicaaGreatDoorK22
import Derived.Test.YtilhcfhcdplicaaGreatDoorK23
namespace Go.Proofs.YtilhcfhcdplicaaGreatDoor
open Go.RowKit
set_option linter.unusedVariables false

theorem eff_m {M : MV} {A : MA} {w : World} (h22 : M.cs.length = 22) (hs : Sl .u64 w A.ac M.cs) (kind : Int) : Calls Tryz.prog 99 #[.slice A.ac M.cs.length A.cc, .int .i64 M.pr, .int .i64 kind] w fun e w' => e = .returned (.int .i64 (effV M.cs M.pr kind)) ∧ w' = w := by
  obtain ⟨b, off, e, _, hc⟩ := hs 0 (by omega)
  rw [e, h22]
  exact l7Effective_any b off A.cc M.cs M.pr kind w hc

theorem walk_m {M : MV} {A : MA} {w : World} (h22 : M.cs.length = 22) (hr : ramOkB M.ram.length = true) (hs : MSl w M A) (hw : MW M) (p va kind : Int) (hp : privB p = true) (hk1 : 1 ≤ kind) (hk3 : kind ≤ 3) (hva : U va) : Calls Tryz.prog 159 #[.slice A.ar M.ram.length A.cr, .slice A.ac M.cs.length A.cc, .int .i64 p, .int .u64 va, .int .i64 kind] w fun e w' => e = .returned (.agg (walkV M.ram M.ram.length M.cs p va kind).cells) ∧ Below w.heap.size w w' := by
  obtain ⟨b, off, e, _, _⟩ := hs.cs 0 (by omega)
  have hcs := hs.cs
  rw [e] at hcs
  rw [e, h22]
  exact l7Walk_any A.ar M.ram.length A.cr M.ram b off A.cc M.cs p va kind w hr rfl hs.ram hw.ram h22 hcs hp hk1 hk3 hva

theorem lead_m (M : MV) (A : MA) (B r : Nat) (va kind : Int) (w : World) (hm : Mp B r M A w) (hl : MLen M) (hw : MW M) (hok : machB M = true) (hk1 : 1 ≤ kind) (hk3 : kind ≤ 3) (hva : U va) (F : Fd) (hF : walkV M.ram M.ram.length M.cs (effV M.cs M.pr kind) va kind = F) :
    Calls Tryz.prog 97 #[.pointer (some ⟨r, 0, none⟩), .slice none 0 0, .int .u64 va, .int .i64 kind] w fun e w' => e = .returned (.tuple #[.int .u64 F.addr, .int .i64 F.code]) ∧ Mp B r (memM M (markB M.ram F)) A w' ∧ Kx r (mvF M A) (mvF (memM M (markB M.ram F)) A) w w' := by
  obtain ⟨h22, hcs, hpr, hr, hd, hb⟩ := mach_parts hok
  have hp := eff_priv (hw.cs 0) hcs hpr kind
  have hE := fun w' (h : Mp B r M A w') => eff_m (M := M) (A := A) (w := w') h22 h.fam.msl.cs kind
  have hW := fun w' (h : Mp B r M A w') => walk_m (M := M) (A := A) (w := w') h22 hr h.fam.msl hw (effV M.cs M.pr kind) va kind hp hk1 hk3 hva
  have hmk := walk_mark M.ram M.ram.length M.cs (effV M.cs M.pr kind) va kind
  rw [hF] at hmk
  simp only [hF] at hW
  obtain ⟨fa, fc, fm, ft, fe⟩ := F
  cases fm with
  | false => exact l9Lead_f M A B r va kind _ fa fc ft fe w hm hE hW
  | true =>
    obtain ⟨k1, k2⟩ := hmk rfl
    have k3 : 0 ≤ fe ∧ fe < 18446744073709551616 := k2
    refine l9Lead_t M A B r va kind _ fa fc ft fe w hm hE hW _ (fun w' h => l1Put_mp M A B r ft 8 fe w' hl.ram k1 k3.1 (by omega) h) ?_
    unfold mvc memM
    dsimp only
    rw [mark_len]

theorem perm_m {M : MV} {A : MA} {w : World} (h22 : M.cs.length = 22) (hs : Sl .u64 w A.ac M.cs) (p x s kind : Int) : Calls Tryz.prog 98 #[.slice A.ac M.cs.length A.cc, .int .i64 p, .int .u64 x, .int .i64 s, .int .i64 kind] w fun e w' => e = .returned (.bool (permRest M.cs p x (lastOf x s) kind 4 0)) ∧ w' = w := by
  rw [h22]
  exact l6Permits_any A.ac A.cc M.cs p x s kind w h22 hs

theorem load_m {M : MV} {A : MA} {w : World} {addr size : Int} (hs : Sl .u8 w A.ar M.ram) (hl : M.ram.length ≤ 1048576) (hw : ∀ y ∈ M.ram, (Lit.int .u8 y).wf = true) (hok : okB M.ram.length addr size = true) : Calls Tryz.prog 101 #[.slice A.ar M.ram.length A.cr, .int .u64 addr, .int .i64 size] w fun e w' => e = .returned (.int .u64 (le M.ram (addr - 2147483648).toNat size.toNat)) ∧ w' = w := by
  have hb := okB_true hok
  obtain ⟨f, hf⟩ : ∃ f : Nat, f = (addr - 2147483648).toNat := ⟨_, rfl⟩
  obtain ⟨m, hm⟩ : ∃ m : Nat, m = size.toNat := ⟨_, rfl⟩
  have ea : addr = 2147483648 + (f : Int) := by omega
  have es : size = (m : Int) := by omega
  rw [← hf, ← hm, ea, es]
  exact l1Load_any A.ar M.ram.length A.cr f m M.ram w rfl hl hs hw (by omega) (by omega) (by omega)

theorem dev_sub {B E : Nat} {w : World} {M : MV} {A : MA} (h : Fam B E w (mvF M A)) : Fam B E w (devF A.ai M.d.xs.length A.ci M.d.xs A.ao M.d.ys.length A.co M.d.ys) := h.sub (.cons _ (.cons _ (.cons _ (List.Sublist.refl _))))

theorem ldV_ok (D : DV) (k : Nat) (h : D.xs.length ≤ 1048576) (h2 : D.ys.length ≤ 1048576) : (ldV D k).2.1.xs.length ≤ 1048576 ∧ (ldV D k).2.1.ys.length ≤ 1048576 := by
  have := ldV_len D k
  omega

theorem l9Access_any (M : MV) (A : MA) (B r : Nat) (addr size kind x : Int) (w : World) (hm : Mp B r M A w) (hl : MLen M) (hw : MW M) (hok : machB M = true) (hsz : sizeB size = true) (hk1 : 1 ≤ kind) (hk3 : kind ≤ 3) (ha : U addr) (hx : U x) :
    Calls Tryz.prog 45 #[.pointer (some ⟨r, 0, none⟩), .slice none 0 0, .int .u64 addr, .int .i64 size, .int .i64 kind, .int .u64 x] w fun e w' => e = .returned (.tuple #[.int .u64 (accV M addr size kind x).1, .int .i64 (accV M addr size kind x).2.2]) ∧ ∃ A', Mp B r (accV M addr size kind x).2.1 A' w' ∧ Kx r (mvF M A) (mvF (accV M addr size kind x).2.1 A') w w' := by
  obtain ⟨h22, hcs, hpr, hr, hd, hb⟩ := mach_parts hok
  have hd16 := okD_bd hd
  have hbytes : bytesOk M.d := ⟨hw.xs, hw.ys⟩
  have hs5 : size = 1 ∨ size = 2 ∨ size = 4 ∨ size = 8 := of_decide_eq_true hsz
  have hs1 : 1 ≤ size := by omega
  have hs8 : size ≤ 8 := by omega
  obtain ⟨F, hF⟩ : ∃ F, walkV M.ram M.ram.length M.cs (effV M.cs M.pr kind) addr kind = F := ⟨_, rfl⟩
  have hfa : U F.addr := by rw [← hF]; exact walkV_U _ _ _ _ _ _ ha
  have hr1 : ramOkB (memM M (markB M.ram F)).ram.length = true := by show ramOkB (markB M.ram F).length = true; rw [mark_len]; exact hr
  have hl1 : (memM M (markB M.ram F)).ram.length ≤ 1048576 := by show (markB M.ram F).length ≤ _; rw [mark_len]; exact hl.ram
  have hw1 := mark_wf M.ram hw.ram F
  have hlast : decide (IntKind.u64.wrap (IntKind.u64.wrap (F.addr + size) - 1) < F.addr) = decide (lastOf F.addr size < F.addr) := by rw [last_small _ _ hs1 hs8]
  have hlD : ∀ D : DV, (D.xs.length ≤ 1048576 ∧ D.ys.length ≤ 1048576) → MLen (devM (memM M (markB M.ram F)) D) := fun D h => ⟨hl.x, hl.cs, hl1, h.1, h.2⟩
  have hdlen := ldV_ok M.d (sel F.addr size) hl.xs hl.ys
  have hslen := stV_len M.d x hl.xs hd16.2.1 (sel F.addr size)
  have hk : kind = 1 ∨ kind = 2 ∨ kind = 3 := by omega
  rcases hk with rfl | rfl | rfl
  · exact l9Access_1 M (memM M (markB M.ram F)) A B r addr size x (effV M.cs M.pr 1) F.addr F.code (addr % size != 0) (F.code != 0) (decide (lastOf F.addr size < F.addr)) (permRest M.cs (effV M.cs M.pr 1) F.addr (lastOf F.addr size) 1 4 0) (okB (memM M (markB M.ram F)).ram.length F.addr size) (le (markB M.ram F) (F.addr - 2147483648).toNat size.toNat) (accV M addr size 1 x) w hm hs1 hs8 ha rfl rfl (fun w' h => lead_m M A B r addr 1 w' h hl hw hok (by omega) (by omega) ha F hF) hlast (fun w' h => eff_m (M := memM M (markB M.ram F)) (A := A) h22 h.fam.msl.cs 1) (fun w' h => perm_m (M := memM M (markB M.ram F)) h22 h.fam.msl.cs _ _ _ _) (fun w' h => inside_any _ _ _ _ _ w' hr1 hsz hfa.1 (by have := hfa.2; omega)) (fun hi w' h => load_m (M := memM M (markB M.ram F)) h.fam.msl.ram hl1 hw1 hi) (by unfold accV; rw [hF]; rfl)
  · exact l9Access_2 M (memM M (markB M.ram F)) A B r addr size x (effV M.cs M.pr 2) F.addr F.code (addr % size != 0) (F.code != 0) (decide (lastOf F.addr size < F.addr)) (permRest M.cs (effV M.cs M.pr 2) F.addr (lastOf F.addr size) 2 4 0) (okB (memM M (markB M.ram F)).ram.length F.addr size) (le (markB M.ram F) (F.addr - 2147483648).toNat size.toNat) (ldV M.d (sel F.addr size)).1 (ldV M.d (sel F.addr size)).2.1 (ldV M.d (sel F.addr size)).2.2 (accV M addr size 2 x) w hm hs1 hs8 ha rfl rfl (fun w' h => lead_m M A B r addr 2 w' h hl hw hok (by omega) (by omega) ha F hF) hlast (fun w' h => eff_m (M := memM M (markB M.ram F)) (A := A) h22 h.fam.msl.cs 2) (fun w' h => perm_m (M := memM M (markB M.ram F)) h22 h.fam.msl.cs _ _ _ _) (fun w' h => inside_any _ _ _ _ _ w' hr1 hsz hfa.1 (by have := hfa.2; omega)) (fun hi w' h => load_m (M := memM M (markB M.ram F)) h.fam.msl.ram hl1 hw1 hi) (fun w' h => l8Load_own M.d A.ai A.ci A.ao A.co F.addr size B w'.heap.size w' hd16.1 hbytes (by have := h.lo; have := h.lt; omega) (Nat.le_refl _) (dev_sub (M := memM M (markB M.ram F)) h.fam)) (fun A' w' h => l9Line_mp _ A' B r w' h22 (hlD _ hdlen) h) (by unfold accV; rw [hF]; rfl)
  · exact l9Access_3 M (memM M (markB M.ram F)) A B r addr size x (effV M.cs M.pr 3) F.addr F.code (addr % size != 0) (F.code != 0) (decide (lastOf F.addr size < F.addr)) (permRest M.cs (effV M.cs M.pr 3) F.addr (lastOf F.addr size) 3 4 0) (okB (memM M (markB M.ram F)).ram.length F.addr size) (put (markB M.ram F) (F.addr - 2147483648).toNat x size.toNat) (stV M.d x (sel F.addr size)).1 (stV M.d x (sel F.addr size)).2 (heldB9 (memM M (markB M.ram F)) F.addr) (accV M addr size 3 x) w hm hs1 hs8 ha rfl rfl (fun w' h => lead_m M A B r addr 3 w' h hl hw hok (by omega) (by omega) ha F hF) hlast (fun w' h => eff_m (M := memM M (markB M.ram F)) (A := A) h22 h.fam.msl.cs 3) (fun w' h => perm_m (M := memM M (markB M.ram F)) h22 h.fam.msl.cs _ _ _ _) (fun w' h => inside_any _ _ _ _ _ w' hr1 hsz hfa.1 (by have := hfa.2; omega)) (fun hi w' h => l1Put_mp (memM M (markB M.ram F)) A B r F.addr size x w' hl1 hi hx.1 (by have := hx.2; omega) h) (put_len _ _ _ _) rfl (fun w' h => l8Store_own M.d A.ai A.ci A.ao A.co F.addr size x B w'.heap.size w' hd16.2.1 (by have := h.lo; have := h.lt; omega) (Nat.le_refl _) (dev_sub (M := memM M (markB M.ram F)) h.fam)) (fun A' w' h => l9Line_mp _ A' B r w' h22 (hlD _ hslen) h) (by unfold accV; rw [hF]; rfl)

end Go.Proofs.YtilhcfhcdplicaaGreatDoor
