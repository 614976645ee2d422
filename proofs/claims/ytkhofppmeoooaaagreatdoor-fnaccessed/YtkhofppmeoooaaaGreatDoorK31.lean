/- Own lemmas. -/
import Derived.Test.YtkhofppmeoooaaaGreatDoorHandT
import Derived.Test.YtkhofppmeoooaaaGreatDoorK03
import Derived.Test.YtkhofppmeoooaaaGreatDoorK08
import Derived.Test.YtkhofppmeoooaaaGreatDoorK13
import Derived.Test.YtkhofppmeoooaaaGreatDoorK24
import Derived.Test.YtkhofppmeoooaaaGreatDoorK27
import Derived.Test.YtkhofppmeoooaaaGreatDoorK28
import Derived.Test.YtkhofppmeoooaaaGreatDoorK29
import Derived.Test.YtkhofppmeoooaaaGreatDoorK30
import Derived.Deep.RegionHeld3
namespace Go.Proofs.YtkhofppmeoooaaaGreatDoor
open Go.RowKit
set_option linter.unusedVariables false

theorem eff_m {M:MV} {A:MA} {w:World} (h22:M.cs.length=22) (hs:Sl .u64 w A.ac M.cs) (kind:Int):Calls Tryz.prog 59 #[.slice A.ac M.cs.length A.cc,.int .i64 M.pr,.int .i64 kind] w fun e w'=>e=.returned (.int .i64 (effV M.cs M.pr kind))∧w'=w:=by
 obtain ⟨b,off,e,_,hc⟩:=hs 0 (by omega)
 rw [e,h22]
 exact l7Effective_any b off A.cc M.cs M.pr kind w hc

theorem walk_m {M:MV} {A:MA} {w:World} (h22:M.cs.length=22) (hr:ramOkB M.ram.length=true) (hs:MSl w M A) (hw:MW M) (p va kind:Int) (hp:privB p=true) (hk1:1≤kind) (hk3:kind≤3) (hva:U va):Calls Tryz.prog 97 #[.slice A.ar M.ram.length A.cr,.slice A.ac M.cs.length A.cc,.int .i64 p,.int .u64 va,.int .i64 kind] w fun e w'=>e=.returned (.agg (walkV M.ram M.ram.length M.cs p va kind).cells)∧Below w.heap.size w w':=by
 obtain ⟨b,off,e,_,_⟩:=hs.cs 0 (by omega)
 have hcs:=hs.cs
 rw [e] at hcs
 rw [e,h22]
 exact l7Walk_any A.ar M.ram.length A.cr M.ram b off A.cc M.cs p va kind w hr rfl hs.ram hw.ram h22 hcs hp hk1 hk3 hva

theorem lead_m (M:MV) (A:MA) (B r:Nat) (va kind:Int) (w:World) (hm:Mp B r M A w) (hl:MLen M) (hw:MW M) (hok:machB M=true) (hk1:1≤kind) (hk3:kind≤3) (hva:U va) (F:Fd) (hF:walkV M.ram M.ram.length M.cs (effV M.cs M.pr kind) va kind=F) :
 Calls Tryz.prog 57 #[.pointer (some ⟨r,0,none⟩),.slice none 0 0,.int .u64 va,.int .i64 kind] w fun e w'=>e=.returned (.tuple #[.int .u64 F.addr,.int .i64 F.code])∧Mp B r (memM M (markB M.ram F)) A w'∧Kx r (mvF M A) (mvF (memM M (markB M.ram F)) A) w w':=by
 obtain ⟨h22,hcs,hpr,hr,hd,hb⟩:=mach_parts hok
 have hp:=eff_priv (hw.cs 0) hcs hpr kind
 have hE:=fun w' (h:Mp B r M A w')=>eff_m (M:=M) (A:=A) (w:=w') h22 h.fam.msl.cs kind
 have hW:=fun w' (h:Mp B r M A w')=>walk_m (M:=M) (A:=A) (w:=w') h22 hr h.fam.msl hw (effV M.cs M.pr kind) va kind hp hk1 hk3 hva
 have hmk:=walk_mark M.ram M.ram.length M.cs (effV M.cs M.pr kind) va kind
 rw [hF] at hmk
 simp only [hF] at hW
 obtain ⟨fa,fc,fm,ft,fe⟩:=F
 cases fm with
 | false=>exact l9Lead_f M A B r va kind _ fa fc ft fe w hm hE hW
 | true =>
  obtain ⟨k1,k2⟩:=hmk rfl
  have k3:0≤fe∧fe < 18446744073709551616:=k2
  refine l9Lead_t M A B r va kind _ fa fc ft fe w hm hE hW _ (fun w' h=>l1Put_mp M A B r ft 8 fe w' hl.ram k1 k3.1 (by omega) h) ?_
  unfold mvc memM
  dsimp only
  rw [mark_len]

theorem perm_m {M:MV} {A:MA} {w:World} (h22:M.cs.length=22) (hs:Sl .u64 w A.ac M.cs) (p x s kind:Int):Calls Tryz.prog 58 #[.slice A.ac M.cs.length A.cc,.int .i64 p,.int .u64 x,.int .i64 s,.int .i64 kind] w fun e w'=>e=.returned (.bool (permRest M.cs p x (lastOf x s) kind 4 0))∧w'=w:=by
 rw [h22]
 exact l6Permits_any A.ac A.cc M.cs p x s kind w h22 hs

theorem load_m {M:MV} {A:MA} {w:World} {addr size:Int} (hs:Sl .u8 w A.ar M.ram) (hl:M.ram.length≤1048576) (hw:∀ y ∈ M.ram,(Lit.int .u8 y).wf=true) (hok:okB M.ram.length addr size=true):Calls Tryz.prog 61 #[.slice A.ar M.ram.length A.cr,.int .u64 addr,.int .i64 size] w fun e w'=>e=.returned (.int .u64 (le M.ram (addr - 2147483648).toNat size.toNat))∧w'=w:=by
 have hb:=okB_true hok
 obtain ⟨f,hf⟩:∃ f:Nat,f=(addr - 2147483648).toNat:=⟨_,rfl⟩
 obtain ⟨m,hm⟩:∃ m:Nat,m=size.toNat:=⟨_,rfl⟩
 have ea:addr=2147483648+(f:Int):=by omega
 have es:size=(m:Int):=by omega
 rw [← hf,← hm,ea,es]
 exact l1Load_any A.ar M.ram.length A.cr f m M.ram w rfl hl hs hw (by omega) (by omega) (by omega)

theorem dev_sub {B E:Nat} {w:World} {M:MV} {A:MA} (h:Fam B E w (mvF M A)):Fam B E w (devF A.ai M.d.xs.length A.ci M.d.xs A.ao M.d.ys.length A.co M.d.ys):=h.sub (.cons _ (.cons _ (.cons _ (List.Sublist.refl _))))

theorem ldV_ok (D:DV) (k:Nat) (h:D.xs.length≤1048576) (h2:D.ys.length≤1048576):(ldV D k).2.1.xs.length≤1048576∧(ldV D k).2.1.ys.length≤1048576:=by
 have:=ldV_len D k
 omega

theorem l9Access_any (M:MV) (A:MA) (B r:Nat) (addr size kind x:Int) (w:World) (hm:Mp B r M A w) (hl:MLen M) (hw:MW M) (hok:machB M=true) (hsz:sizeB size=true) (hk1:1≤kind) (hk3:kind≤3) (ha:U addr) (hx:U x) :
 Calls Tryz.prog 26 #[.pointer (some ⟨r,0,none⟩),.slice none 0 0,.int .u64 addr,.int .i64 size,.int .i64 kind,.int .u64 x] w fun e w'=>e=.returned (.tuple #[.int .u64 (accV M addr size kind x).1,.int .i64 (accV M addr size kind x).2.2])∧∃ A',Mp B r (accV M addr size kind x).2.1 A' w'∧Kx r (mvF M A) (mvF (accV M addr size kind x).2.1 A') w w':=by
 obtain ⟨h22,hcs,hpr,hr,hd,hb⟩:=mach_parts hok
 have hd16:=okD_bd hd
 have hbytes:bytesOk M.d:=⟨hw.xs,hw.ys⟩
 have hs5:size=1∨size=2∨size=4∨size=8:=of_decide_eq_true hsz
 have hs1:1≤size:=by omega
 have hs8:size≤8:=by omega
 obtain ⟨F,hF⟩:∃ F,walkV M.ram M.ram.length M.cs (effV M.cs M.pr kind) addr kind=F:=⟨_,rfl⟩
 have hfa:U F.addr:=by rw [← hF];exact walkV_U _ _ _ _ _ _ ha
 have hr1:ramOkB (memM M (markB M.ram F)).ram.length=true:=by show ramOkB (markB M.ram F).length=true;rw [mark_len];exact hr
 have hl1:(memM M (markB M.ram F)).ram.length≤1048576:=by show (markB M.ram F).length≤_;rw [mark_len];exact hl.ram
 have hw1:=mark_wf M.ram hw.ram F
 have hlast:decide (IntKind.u64.wrap (IntKind.u64.wrap (F.addr+size) - 1) < F.addr)=decide (lastOf F.addr size < F.addr):=by rw [last_small _ _ hs1 hs8]
 have hlD:∀ D:DV,(D.xs.length≤1048576∧D.ys.length≤1048576)→MLen (devM (memM M (markB M.ram F)) D):=fun D h=>⟨hl.x,hl.cs,hl1,h.1,h.2⟩
 have hdlen:=ldV_ok M.d (sel F.addr size) hl.xs hl.ys
 have hslen:=stV_len M.d x hl.xs hd16.2.1 (sel F.addr size)
 have hk:kind=1∨kind=2∨kind=3:=by omega
 rcases hk with rfl | rfl | rfl
 ·exact l9Access_1 M (memM M (markB M.ram F)) A B r addr size x (effV M.cs M.pr 1) F.addr F.code (addr % size != 0) (F.code != 0) (decide (lastOf F.addr size < F.addr)) (permRest M.cs (effV M.cs M.pr 1) F.addr (lastOf F.addr size) 1 4 0) (okB (memM M (markB M.ram F)).ram.length F.addr size) (le (markB M.ram F) (F.addr - 2147483648).toNat size.toNat) (accV M addr size 1 x) w hm hs1 hs8 ha rfl rfl (fun w' h=>lead_m M A B r addr 1 w' h hl hw hok (by omega) (by omega) ha F hF) hlast (fun w' h=>eff_m (M:=memM M (markB M.ram F)) (A:=A) h22 h.fam.msl.cs 1) (fun w' h=>perm_m (M:=memM M (markB M.ram F)) h22 h.fam.msl.cs _ _ _ _) (fun w' h=>inside_any _ _ _ _ _ w' hr1 hsz hfa.1 (by have:=hfa.2;omega)) (fun hi w' h=>load_m (M:=memM M (markB M.ram F)) h.fam.msl.ram hl1 hw1 hi) (by unfold accV;rw [hF];rfl)
 ·exact l9Access_2 M (memM M (markB M.ram F)) A B r addr size x (effV M.cs M.pr 2) F.addr F.code (addr % size != 0) (F.code != 0) (decide (lastOf F.addr size < F.addr)) (permRest M.cs (effV M.cs M.pr 2) F.addr (lastOf F.addr size) 2 4 0) (okB (memM M (markB M.ram F)).ram.length F.addr size) (le (markB M.ram F) (F.addr - 2147483648).toNat size.toNat) (ldV M.d (sel F.addr size)).1 (ldV M.d (sel F.addr size)).2.1 (ldV M.d (sel F.addr size)).2.2 (accV M addr size 2 x) w hm hs1 hs8 ha rfl rfl (fun w' h=>lead_m M A B r addr 2 w' h hl hw hok (by omega) (by omega) ha F hF) hlast (fun w' h=>eff_m (M:=memM M (markB M.ram F)) (A:=A) h22 h.fam.msl.cs 2) (fun w' h=>perm_m (M:=memM M (markB M.ram F)) h22 h.fam.msl.cs _ _ _ _) (fun w' h=>inside_any _ _ _ _ _ w' hr1 hsz hfa.1 (by have:=hfa.2;omega)) (fun hi w' h=>load_m (M:=memM M (markB M.ram F)) h.fam.msl.ram hl1 hw1 hi) (fun w' h=>l8Load_own M.d A.ai A.ci A.ao A.co F.addr size B w'.heap.size w' hd16.1 hbytes (by have:=h.lo;have:=h.lt;omega) (Nat.le_refl _) (dev_sub (M:=memM M (markB M.ram F)) h.fam)) (fun A' w' h=>l9Line_mp _ A' B r w' h22 (hlD _ hdlen) h) (by unfold accV;rw [hF];rfl)
 ·exact l9Access_3 M (memM M (markB M.ram F)) A B r addr size x (effV M.cs M.pr 3) F.addr F.code (addr % size != 0) (F.code != 0) (decide (lastOf F.addr size < F.addr)) (permRest M.cs (effV M.cs M.pr 3) F.addr (lastOf F.addr size) 3 4 0) (okB (memM M (markB M.ram F)).ram.length F.addr size) (put (markB M.ram F) (F.addr - 2147483648).toNat x size.toNat) (stV M.d x (sel F.addr size)).1 (stV M.d x (sel F.addr size)).2 (heldB9 (memM M (markB M.ram F)) F.addr) (accV M addr size 3 x) w hm hs1 hs8 ha rfl rfl (fun w' h=>lead_m M A B r addr 3 w' h hl hw hok (by omega) (by omega) ha F hF) hlast (fun w' h=>eff_m (M:=memM M (markB M.ram F)) (A:=A) h22 h.fam.msl.cs 3) (fun w' h=>perm_m (M:=memM M (markB M.ram F)) h22 h.fam.msl.cs _ _ _ _) (fun w' h=>inside_any _ _ _ _ _ w' hr1 hsz hfa.1 (by have:=hfa.2;omega)) (fun hi w' h=>l1Put_mp (memM M (markB M.ram F)) A B r F.addr size x w' hl1 hi hx.1 (by have:=hx.2;omega) h) (put_len _ _ _ _) rfl (fun w' h=>l8Store_own M.d A.ai A.ci A.ao A.co F.addr size x B w'.heap.size w' hd16.2.1 (by have:=h.lo;have:=h.lt;omega) (Nat.le_refl _) (dev_sub (M:=memM M (markB M.ram F)) h.fam)) (fun A' w' h=>l9Line_mp _ A' B r w' h22 (hlD _ hslen) h) (by unfold accV;rw [hF];rfl)

structure Gd (M:MV):Prop where
 ok:machB M=true
 mw:MW M
 ux:∀ j,U (M.x.getD j 0)
 pc:U M.pc
 hd:U M.hd

theorem mach_all {M:MV} (h:machB M=true):(bits .and .u64 M.pc 3==0)=true∧regsB M.x.length M.x=true∧legalB M.cs.length M.cs M.pr=true∧ramOkB M.ram.length=true∧okD M.d.xs.length M.d.ys.length M.d.ir=true∧(M.hl||(M.hd==0))=true∧bellsB M=true:=by
 unfold machB at h
 simp only [Bool.and_eq_true] at h
 obtain ⟨⟨⟨⟨⟨⟨h1,h2⟩,h3⟩,h4⟩,h5⟩,h6⟩,h7⟩:=h
 exact ⟨h1,h2,h3,h4,h5,h6,h7⟩

theorem mach_mk {M:MV} (h1:(bits .and .u64 M.pc 3==0)=true) (h2:regsB M.x.length M.x=true) (h3:legalB M.cs.length M.cs M.pr=true) (h4:ramOkB M.ram.length=true) (h5:okD M.d.xs.length M.d.ys.length M.d.ir=true) (h6:(M.hl||(M.hd==0))=true) (h7:bellsB M=true):machB M=true:=by
 unfold machB
 rw [h1,h2,h3,h4,h5,h6,h7]
 rfl

theorem Gd.len {M:MV} (h:Gd M):MLen M:=by
 obtain ⟨_,h2,h3,h4,h5,_,_⟩:=mach_all h.ok
 unfold regsB at h2
 rw [Bool.and_eq_true,decide_eq_true_eq] at h2
 have h22:=legal_22 h3
 have hr:=ramOkB_bd h4
 have hd:=okD_bd h5
 exact ⟨by omega,by omega,by omega,by omega,by omega⟩

theorem Gd.mem {M:MV} (h:Gd M) {R:List Int} (hl:R.length=M.ram.length) (hw:∀ y ∈ R,(Lit.int .u8 y).wf=true):Gd (memM M R):=by
 obtain ⟨h1,h2,h3,h4,h5,h6,h7⟩:=mach_all h.ok
 exact ⟨mach_mk (M:=memM M R) h1 h2 h3 (by show ramOkB R.length=true;rw [hl];exact h4) h5 h6 h7,⟨h.mw.cs,hw,h.mw.xs,h.mw.ys⟩,h.ux,h.pc,h.hd⟩

theorem Gd.free {M:MV} (h:Gd M):Gd (freeM M):=by
 obtain ⟨h1,h2,h3,h4,h5,h6,h7⟩:=mach_all h.ok
 exact ⟨mach_mk (M:=freeM M) h1 h2 h3 h4 h5 rfl h7,⟨h.mw.cs,h.mw.ram,h.mw.xs,h.mw.ys⟩,h.ux,h.pc,(show U 0 from ⟨by decide,by decide⟩)⟩

theorem Gd.let_ {M:MV} (h:Gd M) (pa:Int):Gd (letM M pa):=by
 unfold letM
 split
 ·exact h.free
 ·exact h

theorem lines_few (D:DV) (p:Int→Prop) (h:∀ a b c:Bool,p (IntKind.u64.wrap (IntKind.u64.wrap (IntKind.u64.wrap (8*oneIf a)+IntKind.u64.wrap (128*oneIf b))+IntKind.u64.wrap (2048*oneIf c)))):p (linesV D):=h _ _ _

theorem lines_in (D:DV):bits .and .u64 (linesV D) 2184=linesV D:=by
 refine lines_few D (fun x=>bits .and .u64 x 2184=x) ?_
 decide +kernel

theorem lines_U (D:DV):U (linesV D):=U_wrap _

theorem bt_lines (D:DV) {i:Nat} (hi:i < 64):bt (linesV D) i=(bt (linesV D) i&&bt 2184 i):=by
 have:=bt_and (linesV D) 2184 i
 rw [lines_in] at this
 exact this

theorem Gd.dev {M:MV} (h:Gd M) {D:DV} (hD:okD D.xs.length D.ys.length D.ir=true) (hb:bytesOk D):Gd (lineM (devM M D)):=by
 obtain ⟨h1,h2,h3,h4,h5,h6,h7⟩:=mach_all h.ok
 obtain ⟨h22,hcs,hpr,_,_,_⟩:=mach_parts h.ok
 have h9:=right_at hcs 9 (by omega)
 have e9:bits .and .u64 (M.cs.getD 9 0) 2730=M.cs.getD 9 0:=beq_iff_eq.1 h9
 have hv:okAt 9 (bits .or .u64 (bits .andNot .u64 (M.cs.getD 9 0) 2184) (linesV D))=true:=by
  show (bits .and .u64 (bits .or .u64 (bits .andNot .u64 (M.cs.getD 9 0) 2184) (linesV D)) 2730==bits .or .u64 (bits .andNot .u64 (M.cs.getD 9 0) 2184) (linesV D))=true
  refine beq_iff_eq.2 (bt_ext _ _ (U_bits _ _ _) (U_bits _ _ _) fun i hi=>?_)
  have k1:bt (M.cs.getD 9 0) i=(bt (M.cs.getD 9 0) i&&bt 2730 i):=by have:=bt_and (M.cs.getD 9 0) 2730 i;rw [e9] at this;exact this
  have k2:=bt_lines D hi
  rw [bt_and,bt_or,bt_andNot _ _ _ hi]
  have hk:∀ j,j < 64→∀ a b:Bool,(a=(a&&bt 2730 j))→(b=(b&&bt 2184 j))→(((a&&!bt 2184 j)||b)&&bt 2730 j)=((a&&!bt 2184 j)||b):=by decide +kernel
  exact hk i hi _ _ k1 k2
 have hcs2:csrsOk 22 (M.cs.set 9 (bits .or .u64 (bits .andNot .u64 (M.cs.getD 9 0) 2184) (linesV D)))=true:=right_set M.cs h22 hcs 9 (by omega) _ hv
 refine ⟨mach_mk (M:=lineM (devM M D)) h1 h2 ?_ h4 hD h6 ?_,⟨?_,h.mw.ram,hb.1,hb.2⟩,h.ux,h.pc,h.hd⟩
 ·show legalB (M.cs.set 9 _).length (M.cs.set 9 _) M.pr=true
  unfold legalB
  rw [List.length_set,h22,hpr,Bool.and_true]
  exact hcs2
 ·show (bits .and .u64 ((M.cs.set 9 (bits .or .u64 (bits .andNot .u64 (M.cs.getD 9 0) 2184) (linesV D))).getD 9 0) 2184==linesV D)=true
  have e:(M.cs.set 9 (bits .or .u64 (bits .andNot .u64 (M.cs.getD 9 0) 2184) (linesV D))).getD 9 0=bits .or .u64 (bits .andNot .u64 (M.cs.getD 9 0) 2184) (linesV D):=by
   rw [List.getD_eq_getElem?_getD,List.getElem?_set_self (by omega)];rfl
  rw [e]
  refine beq_iff_eq.2 (bt_ext _ _ (U_bits _ _ _) (lines_U D) fun i hi=>?_)
  have k2:=bt_lines D hi
  rw [bt_and,bt_or,bt_andNot _ _ _ hi]
  have hk:∀ j,j < 64→∀ a b:Bool,(b=(b&&bt 2184 j))→(((a&&!bt 2184 j)||b)&&bt 2184 j)=b:=by decide +kernel
  exact hk i hi _ _ k2
 ·intro j
  show U ((M.cs.set 9 (bits .or .u64 (bits .andNot .u64 (M.cs.getD 9 0) 2184) (linesV D))).getD j 0)
  rw [List.getD_eq_getElem?_getD,List.getElem?_set]
  split
  ·split
   ·exact U_bits .or (bits .andNot .u64 (M.cs.getD 9 0) 2184) (linesV D)
   ·exact ⟨by decide,by decide⟩
  ·have:=h.mw.cs j;rw [List.getD_eq_getElem?_getD] at this;exact this

theorem ld_bytes (D:DV) (h:bytesOk D) (k:Nat):bytesOk (ldV D k).2.1:=by
 have hz:bytesOk zeroD:=⟨fun y hy=>(nomatch hy),fun y hy=>(nomatch hy)⟩
 unfold ldV
 split
 ·exact h
 ·exact h
 ·exact h
 ·exact ⟨fun y hy=>h.1 y (List.mem_of_mem_drop hy),h.2⟩
 ·exact h
 ·exact h
 ·exact hz

theorem st_bytes (D:DV) (h:bytesOk D) (x addr size:Int):bytesOk (stV D x (sel addr size)).1:=by
 have hz:bytesOk zeroD:=⟨fun y hy=>(nomatch hy),fun y hy=>(nomatch hy)⟩
 have h0:=stV_0 D x
 have h1:=stV_1 D x
 have h2:=stV_2 D x
 have h3:(stV D x 3).1.xs=D.xs∧((stV D x 3).1.ys=D.ys∨(stV D x 3).1.ys=D.ys ++ [IntKind.u8.wrap x]):=by
  by_cases hl:D.ys.length < 4096
  ·rw [stV_3r _ _ hl];exact ⟨rfl,Or.inr rfl⟩
  ·rw [stV_3f _ _ hl];exact ⟨rfl,Or.inl rfl⟩
 obtain ⟨q,h4⟩:∃ q,stV D x 4=(⟨D.t,D.cm,D.so,D.xs,D.ys,q⟩,true):=⟨_,stV_4 D x⟩
 have h5:=stV_5 D x
 have h6:=stV_6 D x
 generalize (bits .and .u64 x 1==1)=r at h0
 have hx:(Lit.int .u8 (IntKind.u8.wrap x)).wf=true:=bd_wf8 (y:=IntKind.u8.wrap x) (by rw [IntKind.wrap_u8];omega)
 generalize IntKind.u8.wrap x=z at h3 hx
 refine sel_cases addr size (fun k=>bytesOk (stV D x k).1) (fun _ _=>?_) (fun _ _=>?_) (fun _ _=>?_) (fun _ _=>?_) (fun _ _=>?_) (fun _ _=>?_) (fun _ _ _ _ _ _=>?_)
 ·show bytesOk (stV D x 0).1
  rw [h0];exact ⟨h.1,h.2⟩
 ·show bytesOk (stV D x 1).1
  rw [h1];exact ⟨h.1,h.2⟩
 ·show bytesOk (stV D x 2).1
  rw [h2];exact ⟨h.1,h.2⟩
 ·show bytesOk (stV D x 3).1
  refine ⟨by rw [h3.1];exact h.1,fun y hy=>?_⟩
  rcases h3.2 with e | e<;>rw [e] at hy
  ·exact h.2 y hy
  ·rcases List.mem_append.1 hy with hy | hy
   ·exact h.2 y hy
   ·rw [List.mem_singleton.1 hy];exact hx
 ·have e:(stV D x 4).1=⟨D.t,D.cm,D.so,D.xs,D.ys,q⟩:=congrArg Prod.fst h4
  exact e ▸ (⟨h.1,h.2⟩:bytesOk ⟨D.t,D.cm,D.so,D.xs,D.ys,q⟩)
 ·show bytesOk (stV D x 5).1
  rw [h5];exact h
 ·show bytesOk (stV D x 6).1
  rw [h6];exact hz

theorem Gd.at_ {M:MV} (h:Gd M) (pa size kind x:Int):Gd (atM M pa size kind x).2.1:=by
 obtain ⟨_,_,_,_,h5,_,_⟩:=mach_all h.ok
 have hby:bytesOk M.d:=⟨h.mw.xs,h.mw.ys⟩
 unfold atM
 split
 ·split
  ·exact (h.mem (put_len _ _ _ _) (put_wf _ h.mw.ram _ _ _)).let_ pa
  ·exact h
 ·split
  ·split
   ·rename_i hk
    exact h.dev (ldV_okD _ _ h5 hk) (ld_bytes _ hby _)
   ·exact h
  ·split
   ·split
    ·rename_i hk
     exact (h.dev (stV_okS _ _ _ _ h5 hk) (st_bytes _ hby _ _ _)).let_ pa
    ·exact h
   ·exact h

theorem Gd.marked {M:MV} (h:Gd M) (F:Fd):Gd (memM M (markB M.ram F)):=h.mem (mark_len _ _) (mark_wf _ h.mw.ram F)

theorem Gd.acc {M:MV} (h:Gd M) (addr size kind x:Int):Gd (accV M addr size kind x).2.1:=by
 unfold accV
 split
 ·exact h
 ·unfold accW
  split
  ·exact h.marked _
  ·split
   ·exact h.marked _
   ·exact (h.marked _).at_ _ _ _ _

theorem let_same (M:MV) (pa:Int):(letM M pa).pc=M.pc∧(letM M pa).x=M.x∧(letM M pa).pr=M.pr∧(letM M pa).wt=M.wt:=by
 unfold letM
 split<;>exact ⟨rfl,rfl,rfl,rfl⟩

theorem at_same (M:MV) (pa size kind x:Int):(atM M pa size kind x).2.1.pc=M.pc∧(atM M pa size kind x).2.1.x=M.x∧(atM M pa size kind x).2.1.pr=M.pr∧(atM M pa size kind x).2.1.wt=M.wt:=by
 unfold atM
 split
 ·split
  ·exact let_same (memM M _) pa
  ·exact ⟨rfl,rfl,rfl,rfl⟩
 ·split
  ·split<;>exact ⟨rfl,rfl,rfl,rfl⟩
  ·split
   ·split
    ·exact let_same (lineM (devM M _)) pa
    ·exact ⟨rfl,rfl,rfl,rfl⟩
   ·exact ⟨rfl,rfl,rfl,rfl⟩

theorem acc_same (M:MV) (addr size kind x:Int):(accV M addr size kind x).2.1.pc=M.pc∧(accV M addr size kind x).2.1.x=M.x∧(accV M addr size kind x).2.1.pr=M.pr∧(accV M addr size kind x).2.1.wt=M.wt:=by
 unfold accV
 split
 ·exact ⟨rfl,rfl,rfl,rfl⟩
 ·unfold accW
  split
  ·exact ⟨rfl,rfl,rfl,rfl⟩
  ·split
   ·exact ⟨rfl,rfl,rfl,rfl⟩
   ·exact at_same (memM M _) _ _ _ _

theorem widen_mod (k:Nat) (hk:k≤64) (x y:Int) (h:x % 2 ^ k=y % 2 ^ k):widen k x=widen k y:=by
 have e:∀ z:Int,IntKind.u64.wrap (z*2 ^ (64 - k))=(z % 2 ^ k)*2 ^ (64 - k):=by
  intro z
  rw [IntKind.wrap_u64]
  have h64:(18446744073709551616:Int)=2 ^ k*2 ^ (64 - k):=by
   rw [← Int.pow_add,show k+(64 - k)=64 from by omega];rfl
  rw [h64,Int.mul_comm (2 ^ k) (2 ^ (64 - k)),Int.mul_comm z,Int.mul_emod_mul_of_pos _ _ (Int.pow_pos (by decide)),Int.mul_comm]
 unfold widen
 rw [e x,e y,h]

theorem sel_far {a n:Int} (h:2147483648≤a):sel a n=6:=by
 unfold sel
 rw [if_neg (by omega),if_neg (by omega),if_neg (by omega),if_neg (by omega),if_neg (by omega),if_neg (by omega)]

theorem let_mem (M:MV) (pa:Int):(letM M pa).ram=M.ram∧(letM M pa).cs=M.cs:=by
 unfold letM
 split<;>exact ⟨rfl,rfl⟩

theorem walk_off (zs:List Int) (n:Nat) {l:List Int} (h:(l.getD 15 0 / 1152921504606846976==0)=true) (p va kind:Int):walkV zs n l p va kind=⟨va,0,false,0,0⟩:=by
 unfold walkV
 rw [h,Bool.or_true]
 rfl

theorem acc_off {M:MV} (h:(M.cs.getD 15 0 / 1152921504606846976==0)=true) (a n kind x:Int) (hc:(a % n != 0)=false) :
 accV M a n kind x=if barB M.cs (effV M.cs M.pr kind) a n kind=true then (0,M,faultK kind) else atM M a n kind x:=by
 unfold accV
 rw [hc,walk_off _ _ h]
 show accW M (effV M.cs M.pr kind) a n kind x ⟨a,0,false,0,0⟩=_
 unfold accW
 rfl

theorem acc_again {M:MV} (h:machB M=true) {a n x:Int} (hn:sizeB n=true) (hge:2147483648≤a) (hs:(M.cs.getD 15 0 / 1152921504606846976==0)=true) (he:(accV M a n 3 x).2.2=0) :
 (accV (accV M a n 3 x).2.1 a n 2 0).2.2≠0∨(widen (8*n.toNat) (accV (accV M a n 3 x).2.1 a n 2 0).1=widen (8*n.toNat) x∧(accV (accV M a n 3 x).2.1 a n 2 0).2.1=(accV M a n 3 x).2.1):=by
 have hc:(a % n != 0)=false:=by
  cases hc:(a % n != 0) with
  | false=>rfl
  | true=>unfold accV at he;rw [hc,if_pos rfl] at he;exact absurd (show crookK 3=0 from he) (by decide)
 rw [acc_off hs _ _ _ _ hc] at he ⊢
 cases hb:barB M.cs (effV M.cs M.pr 3) a n 3 with
 | true=>rw [hb,if_pos rfl] at he;exact absurd (show faultK 3=0 from he) (by decide)
 | false =>
  rw [hb] at he
  rw [if_neg (by decide)] at he ⊢
  have h8:n=1∨n=2∨n=4∨n=8:=by unfold sizeB at hn;exact of_decide_eq_true hn
  cases hok:okB M.ram.length a n with
  | false =>
   unfold atM at he
   rw [hok,sel_far hge,stV_6] at he
   exact absurd (show faultK 3=0 from he) (by decide)
  | true =>
   have e:atM M a n 3 x=(0,letM (memM M (put M.ram (a - 2147483648).toNat x n.toNat)) a,0):=by
    unfold atM
    rw [hok]
    rfl
   rw [e]
   dsimp only
   obtain ⟨e1,e2⟩:=let_mem (memM M (put M.ram (a - 2147483648).toNat x n.toNat)) a
   generalize letM (memM M (put M.ram (a - 2147483648).toNat x n.toNat)) a=O at e1 e2 ⊢
   have hsO:(O.cs.getD 15 0 / 1152921504606846976==0)=true:=by rw [e2];exact hs
   rw [acc_off hsO _ _ _ _ hc]
   cases hb2:barB O.cs (effV O.cs O.pr 2) a n 2 with
   | true=>rw [if_pos rfl];exact Or.inl (by show faultK 2≠0;decide)
   | false =>
    rw [if_neg (by decide)]
    have hokO:okB O.ram.length a n=true:=by rw [e1];show okB (put M.ram (a - 2147483648).toNat x n.toNat).length a n=true;rw [put_len];exact hok
    have e3:atM O a n 2 0=(le O.ram (a - 2147483648).toNat n.toNat,O,0):=by
     unfold atM
     rw [hokO]
     rfl
    rw [e3]
    refine Or.inr ⟨?_,rfl⟩
    show widen (8*n.toNat) (le O.ram (a - 2147483648).toNat n.toNat)=widen (8*n.toNat) x
    obtain ⟨_,_,h3,h4,h5,h6,_,_⟩:=okB_true hok
    rw [e1]
    show widen (8*n.toNat) (le (put M.ram (a - 2147483648).toNat x n.toNat) (a - 2147483648).toNat n.toNat)=_
    rw [le_put _ _ _ _ (by omega)]
    refine widen_mod _ (by omega) _ _ ?_
    rcases h8 with rfl | rfl | rfl | rfl
    ·show x % 256 ^ 1 % 2 ^ 8=x % 2 ^ 8;omega
    ·show x % 256 ^ 2 % 2 ^ 16=x % 2 ^ 16;omega
    ·show x % 256 ^ 4 % 2 ^ 32=x % 2 ^ 32;omega
    ·show x % 256 ^ 8 % 2 ^ 64=x % 2 ^ 64;omega

theorem leaf_code9 (l:List Int) (p va kind e x:Int) (lv:Nat):(leafV l p va kind e x lv).code=0∨(leafV l p va kind e x lv).code=pageC kind∨(leafV l p va kind e x lv).code=faultC kind:=by
 unfold leafV
 split
 ·exact Or.inr (Or.inl rfl)
 ·split
  ·exact Or.inr (Or.inl rfl)
  ·split
   ·exact Or.inr (Or.inl rfl)
   ·split
    ·split
     ·exact Or.inl rfl
     ·exact Or.inr (Or.inr rfl)
    ·exact Or.inl rfl

theorem walkL_code (zs:List Int) (n:Nat) (l:List Int) (p va kind:Int):∀ lv T,(walkL zs n l p va kind lv T).code=0∨(walkL zs n l p va kind lv T).code=pageC kind∨(walkL zs n l p va kind lv T).code=faultC kind:=by
 intro lv
 induction lv with
 | zero =>
  intro T
  rw [walkL_step]
  split
  ·split
   ·split
    ·exact Or.inr (Or.inl rfl)
    ·split
     ·rw [if_pos (show stopB _ 0=true from by unfold stopB;simp)]
      exact Or.inr (Or.inl rfl)
     ·exact leaf_code9 _ _ _ _ _ _ _
   ·exact Or.inr (Or.inr rfl)
  ·exact Or.inr (Or.inr rfl)
 | succ lv ih =>
  intro T
  rw [walkL_step]
  split
  ·split
   ·split
    ·exact Or.inr (Or.inl rfl)
    ·split
     ·split
      ·exact Or.inr (Or.inl rfl)
      ·exact ih _
     ·exact leaf_code9 _ _ _ _ _ _ _
   ·exact Or.inr (Or.inr rfl)
  ·exact Or.inr (Or.inr rfl)

theorem walk_code (zs:List Int) (n:Nat) (l:List Int) (p va kind:Int):(walkV zs n l p va kind).code=0∨(walkV zs n l p va kind).code=pageC kind∨(walkV zs n l p va kind).code=faultC kind:=by
 unfold walkV
 split
 ·exact Or.inl rfl
 ·split
  ·exact Or.inr (Or.inl rfl)
  ·exact walkL_code _ _ _ _ _ _ _ _

theorem page_few (kind:Int):pageC kind=12∨pageC kind=13∨pageC kind=15:=by
 unfold pageC
 repeat' split
 all_goals simp

theorem fault_few (kind:Int):faultC kind=1∨faultC kind=5∨faultC kind=7:=by
 unfold faultC
 repeat' split
 all_goals simp

theorem walk_few (zs:List Int) (n:Nat) (l:List Int) (p va kind:Int):∃ c:Nat,c < 16∧(walkV zs n l p va kind).code=c:=by
 have h1:=page_few kind
 have h2:=fault_few kind
 rcases walk_code zs n l p va kind with h | h | h
 ·exact ⟨0,by omega,h⟩
 ·rcases h1 with e | e | e
  ·exact ⟨12,by omega,by rw [h,e];rfl⟩
  ·exact ⟨13,by omega,by rw [h,e];rfl⟩
  ·exact ⟨15,by omega,by rw [h,e];rfl⟩
 ·rcases h2 with e | e | e
  ·exact ⟨1,by omega,by rw [h,e];rfl⟩
  ·exact ⟨5,by omega,by rw [h,e];rfl⟩
  ·exact ⟨7,by omega,by rw [h,e];rfl⟩

theorem fault_k (kind:Int):∃ c:Nat,c < 16∧faultK kind=c+16:=by
 unfold faultK
 split
 ·exact ⟨1,by omega,rfl⟩
 ·split
  ·exact ⟨5,by omega,rfl⟩
  ·exact ⟨7,by omega,rfl⟩

theorem crook_k (kind:Int):∃ c:Nat,c < 16∧crookK kind=c+16:=by
 unfold crookK
 split
 ·exact ⟨0,by omega,rfl⟩
 ·split
  ·exact ⟨4,by omega,rfl⟩
  ·exact ⟨6,by omega,rfl⟩

theorem at_code (M:MV) (pa size kind x:Int):(atM M pa size kind x).2.2=0∨∃ c:Nat,c < 16∧(atM M pa size kind x).2.2=c+16:=by
 unfold atM
 split
 ·split<;>exact Or.inl rfl
 ·split
  ·split
   ·exact Or.inl rfl
   ·exact Or.inr (fault_k kind)
  ·split
   ·split
    ·exact Or.inl rfl
    ·exact Or.inr (fault_k kind)
   ·exact Or.inr (fault_k kind)

theorem acc_code (M:MV) (addr size kind x:Int):(accV M addr size kind x).2.2=0∨∃ c:Nat,c < 16∧(accV M addr size kind x).2.2=c+16:=by
 unfold accV
 split
 ·exact Or.inr (crook_k kind)
 ·unfold accW
  split
  ·obtain ⟨c,hc,e⟩:=walk_few M.ram M.ram.length M.cs (effV M.cs M.pr kind) addr kind
   refine Or.inr ⟨c,hc,?_⟩
   show wrap64 ((walkV M.ram M.ram.length M.cs (effV M.cs M.pr kind) addr kind).code+16)=_
   rw [e]
   unfold wrap64
   omega
  ·split
   ·exact Or.inr (fault_k kind)
   ·exact at_code _ _ _ _ _

def goodA (M:MV) (size kind:Int):Bool:=machB M&&sizeB size&&decide (1≤kind∧kind≤3)&&!((kind==1)&&(size != 4))

def accessM (M:MV) (addr size kind x:Int):Int × MV × Int:=if goodA M size kind=true then accV M addr size kind x else (0,zeroM,99)

theorem mvc_one (M:MV) (A:MA):(mvc M A).all (·.oneCell')=true:=by
 unfold mvc
 kernel_rfl

theorem fam_row9 {B E:Nat} {w:World} {L:List FRow} (h:Fam B E w L) (g:Nat) (hg:∀ q ∈ L,q.v.ownBlock≠some g) (cs:Array Value):Fam B E (w.setRow g cs) L :=
 ⟨fun r hr=>fown_of (h.own r hr) (fun k e=>setRow_other w g k cs (fun e2=>hg r hr (by rw [← e2];exact e))),h.hi,h.ne⟩

set_option maxRecDepth 100000 in
set_option maxHeartbeats 12800000 in
theorem specAccess_any (M:MV) (A:MA) (addr size kind x:Int) (w:World) (hl:MLen M) (hs:MSl w M A) (hw:MW M) (ha:U addr) (hx:U x) :
 Calls Tryz.prog 7 #[.agg #[.int .u64 M.pc,.slice A.ax M.x.length A.cx,.int .i64 M.pr,.slice A.ac M.cs.length A.cc,.slice A.ar M.ram.length A.cr,.int .u64 M.d.t,.int .u64 M.d.cm,.bool M.d.so,.slice A.ai M.d.xs.length A.ci,.slice A.ao M.d.ys.length A.co,.int .i64 M.d.ir,.int .u64 M.hd,.bool M.hl,.bool M.wt],.int .u64 addr,.int .i64 size,.int .i64 kind,.int .u64 x] w fun e w'=>∃ C':MA,e=.returned (.tuple #[.int .u64 (accessM M addr size kind x).1,.agg (mvc (accessM M addr size kind x).2.1 C'),.int .i64 (accessM M addr size kind x).2.2])∧Fam w.heap.size w'.heap.size w' (mvF (accessM M addr size kind x).2.1 C')∧Below w.heap.size w w':=by
 have B0:Below w.heap.size w ((w.alloc (.cells #[.int .u64 M.pc,.slice A.ax M.x.length A.cx,.int .i64 M.pr,.slice A.ac M.cs.length A.cc,.slice A.ar M.ram.length A.cr,.int .u64 M.d.t,.int .u64 M.d.cm,.bool M.d.so,.slice A.ai M.d.xs.length A.ci,.slice A.ao M.d.ys.length A.co,.int .i64 M.d.ir,.int .u64 M.hd,.bool M.hl,.bool M.wt] 29)).alloc (.cells #[.int .u64 0,.slice none 0 0,.int .i64 0,.slice none 0 0,.slice none 0 0,.int .u64 0,.int .u64 0,.bool false,.slice none 0 0,.slice none 0 0,.int .i64 0,.int .u64 0,.bool false,.bool false] 29)):=((Below.refl _ _).alloc (Nat.le_refl _) _).alloc (by simp) _
 obtain ⟨ra,rb⟩:=rows2 (w:=w) (o1:=.cells #[.int .u64 M.pc,.slice A.ax M.x.length A.cx,.int .i64 M.pr,.slice A.ac M.cs.length A.cc,.slice A.ar M.ram.length A.cr,.int .u64 M.d.t,.int .u64 M.d.cm,.bool M.d.so,.slice A.ai M.d.xs.length A.ci,.slice A.ao M.d.ys.length A.co,.int .i64 M.d.ir,.int .u64 M.hd,.bool M.hl,.bool M.wt] 29) (o2:=.cells #[.int .u64 0,.slice none 0 0,.int .i64 0,.slice none 0 0,.slice none 0 0,.int .u64 0,.int .u64 0,.bool false,.slice none 0 0,.slice none 0 0,.int .i64 0,.int .u64 0,.bool false,.bool false] 29) (Below.refl _ _)
 have HK:Hid (∀ w',Below w.heap.size w w'→Calls Tryz.prog 22 #[.agg #[.int .u64 M.pc,.slice A.ax M.x.length A.cx,.int .i64 M.pr,.slice A.ac M.cs.length A.cc,.slice A.ar M.ram.length A.cr,.int .u64 M.d.t,.int .u64 M.d.cm,.bool M.d.so,.slice A.ai M.d.xs.length A.ci,.slice A.ao M.d.ys.length A.co,.int .i64 M.d.ir,.int .u64 M.hd,.bool M.hl,.bool M.wt]] w' fun e w''=>e=.returned (.bool (machB M))∧Below w'.heap.size w' w''):=fun w' hb=>specMachineOk_any M A w' hl (hs.below hb)
 have HS:Hid (∀ w',Calls Tryz.prog 23 #[.int .i64 size] w' fun e w''=>e=.returned (.bool (sizeB size))∧w''=w'):=fun w'=>specSize_any size w'
 have HI:Hid (∀ w',Calls Tryz.prog 24 #[.int .i64 kind] w' fun e w''=>e=.returned (.bool (decide (1≤kind∧kind≤3)))∧w''=w'):=fun w'=>l6Kind_any kind w'
 have HC:Hid (∀ w',Below w.heap.size w w'→Calls Tryz.prog 25 #[.agg #[.int .u64 M.pc,.slice A.ax M.x.length A.cx,.int .i64 M.pr,.slice A.ac M.cs.length A.cc,.slice A.ar M.ram.length A.cr,.int .u64 M.d.t,.int .u64 M.d.cm,.bool M.d.so,.slice A.ai M.d.xs.length A.ci,.slice A.ao M.d.ys.length A.co,.int .i64 M.d.ir,.int .u64 M.hd,.bool M.hl,.bool M.wt]] w' fun e w''=>∃ E:MA,e=.returned (.agg #[.int .u64 M.pc,.slice E.ax M.x.length E.cx,.int .i64 M.pr,.slice E.ac M.cs.length E.cc,.slice E.ar M.ram.length E.cr,.int .u64 M.d.t,.int .u64 M.d.cm,.bool M.d.so,.slice E.ai M.d.xs.length E.ci,.slice E.ao M.d.ys.length E.co,.int .i64 M.d.ir,.int .u64 M.hd,.bool M.hl,.bool M.wt])∧Fam w'.heap.size w''.heap.size w'' (mvF M E)∧Below w'.heap.size w' w''):=fun w' hb=>l9Copy_any M A w' hl (hs.below hb)
 have HA:Hid (machB M=true→sizeB size=true→(1≤kind∧kind≤3)→∀ (E:MA) (B r:Nat) (w':World),Mp B r M E w'→Calls Tryz.prog 26 #[.pointer (some ⟨r,0,none⟩),.slice none 0 0,.int .u64 addr,.int .i64 size,.int .i64 kind,.int .u64 x] w' fun e w''=>e=.returned (.tuple #[.int .u64 (accV M addr size kind x).1,.int .i64 (accV M addr size kind x).2.2])∧∃ A',Mp B r (accV M addr size kind x).2.1 A' w''∧Kx r (mvF M E) (mvF (accV M addr size kind x).2.1 A') w' w''):=fun h1 h2 h3 E B r w' h=>l9Access_any M E B r addr size kind x w' h hl hw h1 h2 h3.1 h3.2 ha hx
 obtain ⟨V,hV⟩:∃ V,V=accessM M addr size kind x:=⟨_,rfl⟩
 rw [← hV]
 unfold accessM goodA at hV
 have BH:=dhid B0
 have RA:=dhid ra
 have RB:=dhid rb
 clear hl hs hw ha hx B0 ra rb
 cases hmk:machB M with
 | false =>
  rw [hmk] at HK
  have F:Hid (V=(0,zeroM,99)):=by show _=_;rw [hV,hmk];rfl
  clear hV HA HC
  go_enter Tryz.func7,Tryz.ntmps7
  go_wp2_with fail
  refine (HK.out _ BH.out).mono ?_
  rintro e w1 ⟨rfl,hb1⟩
  have RES:=dhid (dstays hb1 RB.out)
  have BB:=dhid (below_trans BH.out hb1)
  clear hb1 RA RB BH
  obtain ⟨s0,s1,s2,s3,s4,s5,s6,s7,s8,s9,s10,s11,s12,s13⟩:=cells14 RES.out
  obtain ⟨y0,y1,y2,y3,y4,y5,y6,y7,y8,y9,y10,y11,y12,y13⟩:=froz14 RES.out
  go_wp2_with fail
  exact bodyPost_ret (results_tct8 Tryz.results7 _ _ _ _ _ _ _ rfl (row_put14 RES.out (.int .u64 0) (.slice none 0 0) (.int .i64 0) (.slice none 0 0) (.slice none 0 0) (.int .u64 0) (.int .u64 0) (.bool false) (.slice none 0 0) (.slice none 0 0) (.int .i64 0) (.int .u64 0) (.bool false) (.bool false)) Tryz.underlying29 rfl mac_size) rfl ⟨zeroA,by rw [F.out];rfl,by rw [F.out];exact fam_zeroM _ _ _,below_put14 BB.out (by omega) (.int .u64 0) (.slice none 0 0) (.int .i64 0) (.slice none 0 0) (.slice none 0 0) (.int .u64 0) (.int .u64 0) (.bool false) (.slice none 0 0) (.slice none 0 0) (.int .i64 0) (.int .u64 0) (.bool false) (.bool false)⟩
 | true =>
  rw [hmk] at HK HA
  cases hsz:sizeB size with
  | false =>
   rw [hsz] at HS
   have F:Hid (V=(0,zeroM,99)):=by show _=_;rw [hV,hmk,hsz];rfl
   clear hV HA HC
   go_enter Tryz.func7,Tryz.ntmps7
   go_wp2_with fail
   refine (HK.out _ BH.out).mono ?_
   rintro e w1 ⟨rfl,hb1⟩
   have RES:=dhid (dstays hb1 RB.out)
   have BB:=dhid (below_trans BH.out hb1)
   clear hb1 RA RB BH
   obtain ⟨s0,s1,s2,s3,s4,s5,s6,s7,s8,s9,s10,s11,s12,s13⟩:=cells14 RES.out
   obtain ⟨y0,y1,y2,y3,y4,y5,y6,y7,y8,y9,y10,y11,y12,y13⟩:=froz14 RES.out
   go_wp2_with fail
   refine (HS.out _).mono ?_
   rintro e w2 ⟨rfl,hw2⟩
   subst w2
   go_wp2_with fail
   exact bodyPost_ret (results_tct8 Tryz.results7 _ _ _ _ _ _ _ rfl (row_put14 RES.out (.int .u64 0) (.slice none 0 0) (.int .i64 0) (.slice none 0 0) (.slice none 0 0) (.int .u64 0) (.int .u64 0) (.bool false) (.slice none 0 0) (.slice none 0 0) (.int .i64 0) (.int .u64 0) (.bool false) (.bool false)) Tryz.underlying29 rfl mac_size) rfl ⟨zeroA,by rw [F.out];rfl,by rw [F.out];exact fam_zeroM _ _ _,below_put14 BB.out (by omega) (.int .u64 0) (.slice none 0 0) (.int .i64 0) (.slice none 0 0) (.slice none 0 0) (.int .u64 0) (.int .u64 0) (.bool false) (.slice none 0 0) (.slice none 0 0) (.int .i64 0) (.int .u64 0) (.bool false) (.bool false)⟩
  | true =>
   rw [hsz] at HS HA
   by_cases hkd:1≤kind∧kind≤3
   ·rw [decide_eq_true hkd] at HI
    cases hk1:(kind==1) with
    | false =>
     have F:Hid (V=accV M addr size kind x):=by show _=_;rw [hV,hmk,hsz,decide_eq_true hkd,hk1];rfl
     clear hmk hsz
     clear hV
     have HA2:=HA.out (by trivial) (by trivial) hkd
     clear HA
     have HAX:=dhid HA2
     clear HA2
     generalize accV M addr size kind x=U3 at *
     obtain ⟨y,R,code⟩:=U3
     go_enter Tryz.func7,Tryz.ntmps7
     go_wp2_with fail
     refine (HK.out _ BH.out).mono ?_
     rintro e w1 ⟨rfl,hb1⟩
     have RA1:=dhid (dstays hb1 RA.out)
     have RB1:=dhid (dstays hb1 RB.out)
     have B1:=dhid (below_trans BH.out hb1)
     clear hb1 RA RB BH
     obtain ⟨a0,a1,a2,a3,a4,a5,a6,a7,a8,a9,a10,a11,a12,a13⟩:=cells14 RA1.out
     go_wp2_with fail
     refine (HS.out _).mono ?_
     rintro e w2 ⟨rfl,hw2⟩
     subst w2
     go_wp2_with fail
     refine (HI.out _).mono ?_
     rintro e w3 ⟨rfl,hw3⟩
     subst w3
     go_wp2_with fail
     refine (HC.out _ B1.out).mono ?_
     rintro e w4 ⟨E,rfl,fm4,hb4⟩
     have hr4:w.heap.size+1 < w4.heap.size:=(Array.getElem?_eq_some_iff.1 (dstays hb4 RB1.out)).1
     have hr1:w.heap.size+1 < w1.heap.size:=(Array.getElem?_eq_some_iff.1 RB1.out).1
     have MP5:Hid (Mp w1.heap.size w4.heap.size M E (w4.alloc (.cells #[.int .u64 M.pc,.slice E.ax M.x.length E.cx,.int .i64 M.pr,.slice E.ac M.cs.length E.cc,.slice E.ar M.ram.length E.cr,.int .u64 M.d.t,.int .u64 M.d.cm,.bool M.d.so,.slice E.ai M.d.xs.length E.ci,.slice E.ao M.d.ys.length E.co,.int .i64 M.d.ir,.int .u64 M.hd,.bool M.hl,.bool M.wt] 29))):=⟨heap_alloc_new _ _,(fm4.below ((Below.refl _ _).alloc (Nat.le_refl _) _)).low (Nat.le_refl _) (by simp),fun q hq e=>by have:=fm4.hi q hq _ e;omega,hb4.size⟩
     have B5:=dhid ((below_trans B1.out hb4).alloc (below_trans B1.out hb4).size (.cells #[.int .u64 M.pc,.slice E.ax M.x.length E.cx,.int .i64 M.pr,.slice E.ac M.cs.length E.cc,.slice E.ar M.ram.length E.cr,.int .u64 M.d.t,.int .u64 M.d.cm,.bool M.d.so,.slice E.ai M.d.xs.length E.ci,.slice E.ao M.d.ys.length E.co,.int .i64 M.d.ir,.int .u64 M.hd,.bool M.hl,.bool M.wt] 29))
     have RB5:=dhid (row_al8 (dstays hb4 RB1.out) (.cells #[.int .u64 M.pc,.slice E.ax M.x.length E.cx,.int .i64 M.pr,.slice E.ac M.cs.length E.cc,.slice E.ar M.ram.length E.cr,.int .u64 M.d.t,.int .u64 M.d.cm,.bool M.d.so,.slice E.ai M.d.xs.length E.ci,.slice E.ao M.d.ys.length E.co,.int .i64 M.d.ir,.int .u64 M.hd,.bool M.hl,.bool M.wt] 29))
     have Z4:=dhid (And.intro hb4.size (And.intro hr4 hr1))
     clear hb4 fm4 RA1 RB1 B1 hr4 hr1
     clear a0 a1 a2 a3 a4 a5 a6 a7 a8 a9 a10 a11 a12 a13
     go_wp2_with fail
     refine (HAX.out E w1.heap.size w4.heap.size _ MP5.out).mono ?_
     rintro e w6 ⟨rfl,A',mp6,kx6⟩
     have UB:=MP5.out.under kx6
     have B6:=dhid (B5.out.trans (UB.mono (by have:=B5.out.size;have:=Z4.out;omega)))
     have RB6:=dhid ((UB.block (w.heap.size+1) (by have:=Z4.out;omega)).trans RB5.out)
     have MP6:=dhid mp6
     clear mp6 kx6 UB MP5 B5 RB5 HAX HC HK HS HI
     obtain ⟨r,hr⟩:∃ r,r=w4.heap.size:=⟨_,rfl⟩
     have hrl:w.heap.size+1 < r:=by have:=Z4.out;omega
     rw [← hr] at MP6 ⊢
     have Z5:=dhid (show w.heap.size+1 < w1.heap.size from Z4.out.2.2)
     clear hr Z4
     go_wp2_with fail
     obtain ⟨Q,hQ⟩:∃ Q:World→Prop,Q=fun W=>W.heap[r]?=some (.cells (mvc R A') 29 (0,0)):=⟨_,rfl⟩
     have KS:Hid (∀ w',Q w'→(w'.cell? ⟨r,0,none⟩=some (.int .u64 R.pc)∧w'.cell? ⟨r,1,none⟩=some (.slice A'.ax R.x.length A'.cx)∧w'.cell? ⟨r,2,none⟩=some (.int .i64 R.pr)∧w'.cell? ⟨r,3,none⟩=some (.slice A'.ac R.cs.length A'.cc)∧w'.cell? ⟨r,4,none⟩=some (.slice A'.ar R.ram.length A'.cr)∧w'.cell? ⟨r,5,none⟩=some (.int .u64 R.d.t)∧w'.cell? ⟨r,6,none⟩=some (.int .u64 R.d.cm)∧w'.cell? ⟨r,7,none⟩=some (.bool R.d.so)∧w'.cell? ⟨r,8,none⟩=some (.slice A'.ai R.d.xs.length A'.ci)∧w'.cell? ⟨r,9,none⟩=some (.slice A'.ao R.d.ys.length A'.co)∧w'.cell? ⟨r,10,none⟩=some (.int .i64 R.d.ir)∧w'.cell? ⟨r,11,none⟩=some (.int .u64 R.hd)∧w'.cell? ⟨r,12,none⟩=some (.bool R.hl)∧w'.cell? ⟨r,13,none⟩=some (.bool R.wt))∧Q w'):=fun w' h=>⟨by rw [hQ] at h;exact cells14 h,h⟩
     have QI:Hid (∀ W,W.heap[r]?=some (.cells (mvc R A') 29 (0,0))→Q W):=by rw [hQ];exact fun W h=>h
     clear hQ
     have q6:Q w6.drew:=QI.out _ MP6.out.row
     refine wp_region_held_drew (S:=(fun w'=>(w'.cell? ⟨r,0,none⟩=some (.int .u64 R.pc)∧w'.cell? ⟨r,1,none⟩=some (.slice A'.ax R.x.length A'.cx)∧w'.cell? ⟨r,2,none⟩=some (.int .i64 R.pr)∧w'.cell? ⟨r,3,none⟩=some (.slice A'.ac R.cs.length A'.cc)∧w'.cell? ⟨r,4,none⟩=some (.slice A'.ar R.ram.length A'.cr)∧w'.cell? ⟨r,5,none⟩=some (.int .u64 R.d.t)∧w'.cell? ⟨r,6,none⟩=some (.int .u64 R.d.cm)∧w'.cell? ⟨r,7,none⟩=some (.bool R.d.so)∧w'.cell? ⟨r,8,none⟩=some (.slice A'.ai R.d.xs.length A'.ci)∧w'.cell? ⟨r,9,none⟩=some (.slice A'.ao R.d.ys.length A'.co)∧w'.cell? ⟨r,10,none⟩=some (.int .i64 R.d.ir)∧w'.cell? ⟨r,11,none⟩=some (.int .u64 R.hd)∧w'.cell? ⟨r,12,none⟩=some (.bool R.hl)∧w'.cell? ⟨r,13,none⟩=some (.bool R.wt))∧Q w')) (by kernel_rfl) (KS.out _ q6) (fun hHeld=>?_)
     refine tkL 0 48 (.int .u64 y) ?_
     refine tkL 1 49 (.agg #[.int .u64 R.pc,.slice A'.ax R.x.length A'.cx,.int .i64 R.pr,.slice A'.ac R.cs.length A'.cc,.slice A'.ar R.ram.length A'.cr,.int .u64 R.d.t,.int .u64 R.d.cm,.bool R.d.so,.slice A'.ai R.d.xs.length A'.ci,.slice A'.ao R.d.ys.length A'.co,.int .i64 R.d.ir,.int .u64 R.hd,.bool R.hl,.bool R.wt]) ?_
     refine tkL 2 50 (.int .i64 code) ?_
     refine tkL 3 10 (.int .u64 y) ?_
     have q7:Q (w6.drew.setRow (w.heap.size+1) #[.int .u64 R.pc,.slice A'.ax R.x.length A'.cx,.int .i64 R.pr,.slice A'.ac R.cs.length A'.cc,.slice A'.ar R.ram.length A'.cr,.int .u64 R.d.t,.int .u64 R.d.cm,.bool R.d.so,.slice A'.ai R.d.xs.length A'.ci,.slice A'.ao R.d.ys.length A'.co,.int .i64 R.d.ir,.int .u64 R.hd,.bool R.hl,.bool R.wt]):=QI.out _ ((setRow_other _ _ _ _ (by omega)).trans MP6.out.row)
     refine wpAnyH_ready (rs:=[4]) (by kernel_rfl) (by simp) ?_
     refine AllReadyH.cons (o:={ dst:=none,op:=_,type:=_,pos:=_,after:=_,guard:=_ }) rfl (fun K hK=>?_) AllReadyH.nil
     refine wpH_row9 (by rfl) 29 (.tmp 11) (.tmp 49) rfl (w.heap.size+1) rfl #[.int .u64 0,.slice none 0 0,.int .i64 0,.slice none 0 0,.slice none 0 0,.int .u64 0,.int .u64 0,.bool false,.slice none 0 0,.slice none 0 0,.int .i64 0,.int .u64 0,.bool false,.bool false] #[.int .u64 R.pc,.slice A'.ax R.x.length A'.cx,.int .i64 R.pr,.slice A'.ac R.cs.length A'.cc,.slice A'.ar R.ram.length A'.cr,.int .u64 R.d.t,.int .u64 R.d.cm,.bool R.d.so,.slice A'.ai R.d.xs.length A'.ci,.slice A'.ao R.d.ys.length A'.co,.int .i64 R.d.ir,.int .u64 R.hd,.bool R.hl,.bool R.wt] rfl 29 (show w6.drew.heap[w.heap.size+1]?=_ from RB6.out) mac_size rfl (mvc_one R A') ?_
     simp only [Act.put]
     refine hK.out _ _ (KS.out _ q7) (fun hHeld=>?_)
     clear hK
     refine tkL 5 12 (.int .i64 code) ?_
     refine wpAnyH_done (by kernel_rfl) ?_ _
     go_wp2_with fail
     exact bodyPost_ret (results_tct8 Tryz.results7 _ _ _ _ _ _ _ rfl (setRow_heap _ _ _ _ _ _ (show w6.drew.heap[w.heap.size+1]?=_ from RB6.out)) Tryz.underlying29 rfl mac_size) rfl ⟨A',by rw [F.out];rfl,by rw [F.out];exact (fam_row9 (MP6.out.fam.below (Below.refl _ _).drew) (w.heap.size+1) (fun q hq e=>by have h1:=((MP6.out.fam.own q hq).lt _ e).1;have:=Z5.out;omega) #[.int .u64 R.pc,.slice A'.ax R.x.length A'.cx,.int .i64 R.pr,.slice A'.ac R.cs.length A'.cc,.slice A'.ar R.ram.length A'.cr,.int .u64 R.d.t,.int .u64 R.d.cm,.bool R.d.so,.slice A'.ai R.d.xs.length A'.ci,.slice A'.ao R.d.ys.length A'.co,.int .i64 R.d.ir,.int .u64 R.hd,.bool R.hl,.bool R.wt]).low (by have:=Z5.out;omega) (by rw [setRow_size];exact Nat.le_refl _),by exact row_below B6.out.drew (by omega) #[.int .u64 R.pc,.slice A'.ax R.x.length A'.cx,.int .i64 R.pr,.slice A'.ac R.cs.length A'.cc,.slice A'.ar R.ram.length A'.cr,.int .u64 R.d.t,.int .u64 R.d.cm,.bool R.d.so,.slice A'.ai R.d.xs.length A'.ci,.slice A'.ao R.d.ys.length A'.co,.int .i64 R.d.ir,.int .u64 R.hd,.bool R.hl,.bool R.wt]⟩
    | true =>
     cases hs4:(size != 4) with
     | true =>
      have F:Hid (V=(0,zeroM,99)):=by show _=_;rw [hV,hmk,hsz,decide_eq_true hkd,hk1,hs4];rfl
      clear hV HA HC
      go_enter Tryz.func7,Tryz.ntmps7
      go_wp2_with fail
      refine (HK.out _ BH.out).mono ?_
      rintro e w1 ⟨rfl,hb1⟩
      have RES:=dhid (dstays hb1 RB.out)
      have BB:=dhid (below_trans BH.out hb1)
      clear hb1 RA RB BH
      obtain ⟨s0,s1,s2,s3,s4,s5,s6,s7,s8,s9,s10,s11,s12,s13⟩:=cells14 RES.out
      obtain ⟨y0,y1,y2,y3,y4,y5,y6,y7,y8,y9,y10,y11,y12,y13⟩:=froz14 RES.out
      go_wp2_with fail
      refine (HS.out _).mono ?_
      rintro e w2 ⟨rfl,hw2⟩
      subst w2
      go_wp2_with fail
      refine (HI.out _).mono ?_
      rintro e w3 ⟨rfl,hw3⟩
      subst w3
      go_wp2_with fail
      exact bodyPost_ret (results_tct8 Tryz.results7 _ _ _ _ _ _ _ rfl (row_put14 RES.out (.int .u64 0) (.slice none 0 0) (.int .i64 0) (.slice none 0 0) (.slice none 0 0) (.int .u64 0) (.int .u64 0) (.bool false) (.slice none 0 0) (.slice none 0 0) (.int .i64 0) (.int .u64 0) (.bool false) (.bool false)) Tryz.underlying29 rfl mac_size) rfl ⟨zeroA,by rw [F.out];rfl,by rw [F.out];exact fam_zeroM _ _ _,below_put14 BB.out (by omega) (.int .u64 0) (.slice none 0 0) (.int .i64 0) (.slice none 0 0) (.slice none 0 0) (.int .u64 0) (.int .u64 0) (.bool false) (.slice none 0 0) (.slice none 0 0) (.int .i64 0) (.int .u64 0) (.bool false) (.bool false)⟩
     | false =>
      have F:Hid (V=accV M addr size kind x):=by show _=_;rw [hV,hmk,hsz,decide_eq_true hkd,hk1,hs4];rfl
      clear hmk hsz
      clear hV
      have HA2:=HA.out (by trivial) (by trivial) hkd
      clear HA
      have HAX:=dhid HA2
      clear HA2
      generalize accV M addr size kind x=U3 at *
      obtain ⟨y,R,code⟩:=U3
      go_enter Tryz.func7,Tryz.ntmps7
      go_wp2_with fail
      refine (HK.out _ BH.out).mono ?_
      rintro e w1 ⟨rfl,hb1⟩
      have RA1:=dhid (dstays hb1 RA.out)
      have RB1:=dhid (dstays hb1 RB.out)
      have B1:=dhid (below_trans BH.out hb1)
      clear hb1 RA RB BH
      obtain ⟨a0,a1,a2,a3,a4,a5,a6,a7,a8,a9,a10,a11,a12,a13⟩:=cells14 RA1.out
      go_wp2_with fail
      refine (HS.out _).mono ?_
      rintro e w2 ⟨rfl,hw2⟩
      subst w2
      go_wp2_with fail
      refine (HI.out _).mono ?_
      rintro e w3 ⟨rfl,hw3⟩
      subst w3
      go_wp2_with fail
      refine (HC.out _ B1.out).mono ?_
      rintro e w4 ⟨E,rfl,fm4,hb4⟩
      have hr4:w.heap.size+1 < w4.heap.size:=(Array.getElem?_eq_some_iff.1 (dstays hb4 RB1.out)).1
      have hr1:w.heap.size+1 < w1.heap.size:=(Array.getElem?_eq_some_iff.1 RB1.out).1
      have MP5:Hid (Mp w1.heap.size w4.heap.size M E (w4.alloc (.cells #[.int .u64 M.pc,.slice E.ax M.x.length E.cx,.int .i64 M.pr,.slice E.ac M.cs.length E.cc,.slice E.ar M.ram.length E.cr,.int .u64 M.d.t,.int .u64 M.d.cm,.bool M.d.so,.slice E.ai M.d.xs.length E.ci,.slice E.ao M.d.ys.length E.co,.int .i64 M.d.ir,.int .u64 M.hd,.bool M.hl,.bool M.wt] 29))):=⟨heap_alloc_new _ _,(fm4.below ((Below.refl _ _).alloc (Nat.le_refl _) _)).low (Nat.le_refl _) (by simp),fun q hq e=>by have:=fm4.hi q hq _ e;omega,hb4.size⟩
      have B5:=dhid ((below_trans B1.out hb4).alloc (below_trans B1.out hb4).size (.cells #[.int .u64 M.pc,.slice E.ax M.x.length E.cx,.int .i64 M.pr,.slice E.ac M.cs.length E.cc,.slice E.ar M.ram.length E.cr,.int .u64 M.d.t,.int .u64 M.d.cm,.bool M.d.so,.slice E.ai M.d.xs.length E.ci,.slice E.ao M.d.ys.length E.co,.int .i64 M.d.ir,.int .u64 M.hd,.bool M.hl,.bool M.wt] 29))
      have RB5:=dhid (row_al8 (dstays hb4 RB1.out) (.cells #[.int .u64 M.pc,.slice E.ax M.x.length E.cx,.int .i64 M.pr,.slice E.ac M.cs.length E.cc,.slice E.ar M.ram.length E.cr,.int .u64 M.d.t,.int .u64 M.d.cm,.bool M.d.so,.slice E.ai M.d.xs.length E.ci,.slice E.ao M.d.ys.length E.co,.int .i64 M.d.ir,.int .u64 M.hd,.bool M.hl,.bool M.wt] 29))
      have Z4:=dhid (And.intro hb4.size (And.intro hr4 hr1))
      clear hb4 fm4 RA1 RB1 B1 hr4 hr1
      clear a0 a1 a2 a3 a4 a5 a6 a7 a8 a9 a10 a11 a12 a13
      go_wp2_with fail
      refine (HAX.out E w1.heap.size w4.heap.size _ MP5.out).mono ?_
      rintro e w6 ⟨rfl,A',mp6,kx6⟩
      have UB:=MP5.out.under kx6
      have B6:=dhid (B5.out.trans (UB.mono (by have:=B5.out.size;have:=Z4.out;omega)))
      have RB6:=dhid ((UB.block (w.heap.size+1) (by have:=Z4.out;omega)).trans RB5.out)
      have MP6:=dhid mp6
      clear mp6 kx6 UB MP5 B5 RB5 HAX HC HK HS HI
      obtain ⟨r,hr⟩:∃ r,r=w4.heap.size:=⟨_,rfl⟩
      have hrl:w.heap.size+1 < r:=by have:=Z4.out;omega
      rw [← hr] at MP6 ⊢
      have Z5:=dhid (show w.heap.size+1 < w1.heap.size from Z4.out.2.2)
      clear hr Z4
      go_wp2_with fail
      obtain ⟨Q,hQ⟩:∃ Q:World→Prop,Q=fun W=>W.heap[r]?=some (.cells (mvc R A') 29 (0,0)):=⟨_,rfl⟩
      have KS:Hid (∀ w',Q w'→(w'.cell? ⟨r,0,none⟩=some (.int .u64 R.pc)∧w'.cell? ⟨r,1,none⟩=some (.slice A'.ax R.x.length A'.cx)∧w'.cell? ⟨r,2,none⟩=some (.int .i64 R.pr)∧w'.cell? ⟨r,3,none⟩=some (.slice A'.ac R.cs.length A'.cc)∧w'.cell? ⟨r,4,none⟩=some (.slice A'.ar R.ram.length A'.cr)∧w'.cell? ⟨r,5,none⟩=some (.int .u64 R.d.t)∧w'.cell? ⟨r,6,none⟩=some (.int .u64 R.d.cm)∧w'.cell? ⟨r,7,none⟩=some (.bool R.d.so)∧w'.cell? ⟨r,8,none⟩=some (.slice A'.ai R.d.xs.length A'.ci)∧w'.cell? ⟨r,9,none⟩=some (.slice A'.ao R.d.ys.length A'.co)∧w'.cell? ⟨r,10,none⟩=some (.int .i64 R.d.ir)∧w'.cell? ⟨r,11,none⟩=some (.int .u64 R.hd)∧w'.cell? ⟨r,12,none⟩=some (.bool R.hl)∧w'.cell? ⟨r,13,none⟩=some (.bool R.wt))∧Q w'):=fun w' h=>⟨by rw [hQ] at h;exact cells14 h,h⟩
      have QI:Hid (∀ W,W.heap[r]?=some (.cells (mvc R A') 29 (0,0))→Q W):=by rw [hQ];exact fun W h=>h
      clear hQ
      have q6:Q w6.drew:=QI.out _ MP6.out.row
      refine wp_region_held_drew (S:=(fun w'=>(w'.cell? ⟨r,0,none⟩=some (.int .u64 R.pc)∧w'.cell? ⟨r,1,none⟩=some (.slice A'.ax R.x.length A'.cx)∧w'.cell? ⟨r,2,none⟩=some (.int .i64 R.pr)∧w'.cell? ⟨r,3,none⟩=some (.slice A'.ac R.cs.length A'.cc)∧w'.cell? ⟨r,4,none⟩=some (.slice A'.ar R.ram.length A'.cr)∧w'.cell? ⟨r,5,none⟩=some (.int .u64 R.d.t)∧w'.cell? ⟨r,6,none⟩=some (.int .u64 R.d.cm)∧w'.cell? ⟨r,7,none⟩=some (.bool R.d.so)∧w'.cell? ⟨r,8,none⟩=some (.slice A'.ai R.d.xs.length A'.ci)∧w'.cell? ⟨r,9,none⟩=some (.slice A'.ao R.d.ys.length A'.co)∧w'.cell? ⟨r,10,none⟩=some (.int .i64 R.d.ir)∧w'.cell? ⟨r,11,none⟩=some (.int .u64 R.hd)∧w'.cell? ⟨r,12,none⟩=some (.bool R.hl)∧w'.cell? ⟨r,13,none⟩=some (.bool R.wt))∧Q w')) (by kernel_rfl) (KS.out _ q6) (fun hHeld=>?_)
      refine tkL 0 48 (.int .u64 y) ?_
      refine tkL 1 49 (.agg #[.int .u64 R.pc,.slice A'.ax R.x.length A'.cx,.int .i64 R.pr,.slice A'.ac R.cs.length A'.cc,.slice A'.ar R.ram.length A'.cr,.int .u64 R.d.t,.int .u64 R.d.cm,.bool R.d.so,.slice A'.ai R.d.xs.length A'.ci,.slice A'.ao R.d.ys.length A'.co,.int .i64 R.d.ir,.int .u64 R.hd,.bool R.hl,.bool R.wt]) ?_
      refine tkL 2 50 (.int .i64 code) ?_
      refine tkL 3 10 (.int .u64 y) ?_
      have q7:Q (w6.drew.setRow (w.heap.size+1) #[.int .u64 R.pc,.slice A'.ax R.x.length A'.cx,.int .i64 R.pr,.slice A'.ac R.cs.length A'.cc,.slice A'.ar R.ram.length A'.cr,.int .u64 R.d.t,.int .u64 R.d.cm,.bool R.d.so,.slice A'.ai R.d.xs.length A'.ci,.slice A'.ao R.d.ys.length A'.co,.int .i64 R.d.ir,.int .u64 R.hd,.bool R.hl,.bool R.wt]):=QI.out _ ((setRow_other _ _ _ _ (by omega)).trans MP6.out.row)
      refine wpAnyH_ready (rs:=[4]) (by kernel_rfl) (by simp) ?_
      refine AllReadyH.cons (o:={ dst:=none,op:=_,type:=_,pos:=_,after:=_,guard:=_ }) rfl (fun K hK=>?_) AllReadyH.nil
      refine wpH_row9 (by rfl) 29 (.tmp 11) (.tmp 49) rfl (w.heap.size+1) rfl #[.int .u64 0,.slice none 0 0,.int .i64 0,.slice none 0 0,.slice none 0 0,.int .u64 0,.int .u64 0,.bool false,.slice none 0 0,.slice none 0 0,.int .i64 0,.int .u64 0,.bool false,.bool false] #[.int .u64 R.pc,.slice A'.ax R.x.length A'.cx,.int .i64 R.pr,.slice A'.ac R.cs.length A'.cc,.slice A'.ar R.ram.length A'.cr,.int .u64 R.d.t,.int .u64 R.d.cm,.bool R.d.so,.slice A'.ai R.d.xs.length A'.ci,.slice A'.ao R.d.ys.length A'.co,.int .i64 R.d.ir,.int .u64 R.hd,.bool R.hl,.bool R.wt] rfl 29 (show w6.drew.heap[w.heap.size+1]?=_ from RB6.out) mac_size rfl (mvc_one R A') ?_
      simp only [Act.put]
      refine hK.out _ _ (KS.out _ q7) (fun hHeld=>?_)
      clear hK
      refine tkL 5 12 (.int .i64 code) ?_
      refine wpAnyH_done (by kernel_rfl) ?_ _
      go_wp2_with fail
      exact bodyPost_ret (results_tct8 Tryz.results7 _ _ _ _ _ _ _ rfl (setRow_heap _ _ _ _ _ _ (show w6.drew.heap[w.heap.size+1]?=_ from RB6.out)) Tryz.underlying29 rfl mac_size) rfl ⟨A',by rw [F.out];rfl,by rw [F.out];exact (fam_row9 (MP6.out.fam.below (Below.refl _ _).drew) (w.heap.size+1) (fun q hq e=>by have h1:=((MP6.out.fam.own q hq).lt _ e).1;have:=Z5.out;omega) #[.int .u64 R.pc,.slice A'.ax R.x.length A'.cx,.int .i64 R.pr,.slice A'.ac R.cs.length A'.cc,.slice A'.ar R.ram.length A'.cr,.int .u64 R.d.t,.int .u64 R.d.cm,.bool R.d.so,.slice A'.ai R.d.xs.length A'.ci,.slice A'.ao R.d.ys.length A'.co,.int .i64 R.d.ir,.int .u64 R.hd,.bool R.hl,.bool R.wt]).low (by have:=Z5.out;omega) (by rw [setRow_size];exact Nat.le_refl _),by exact row_below B6.out.drew (by omega) #[.int .u64 R.pc,.slice A'.ax R.x.length A'.cx,.int .i64 R.pr,.slice A'.ac R.cs.length A'.cc,.slice A'.ar R.ram.length A'.cr,.int .u64 R.d.t,.int .u64 R.d.cm,.bool R.d.so,.slice A'.ai R.d.xs.length A'.ci,.slice A'.ao R.d.ys.length A'.co,.int .i64 R.d.ir,.int .u64 R.hd,.bool R.hl,.bool R.wt]⟩
   ·rw [decide_eq_false hkd] at HI
    have F:Hid (V=(0,zeroM,99)):=by show _=_;rw [hV,hmk,hsz,decide_eq_false hkd];rfl
    clear hV HA HC
    go_enter Tryz.func7,Tryz.ntmps7
    go_wp2_with fail
    refine (HK.out _ BH.out).mono ?_
    rintro e w1 ⟨rfl,hb1⟩
    have RES:=dhid (dstays hb1 RB.out)
    have BB:=dhid (below_trans BH.out hb1)
    clear hb1 RA RB BH
    obtain ⟨s0,s1,s2,s3,s4,s5,s6,s7,s8,s9,s10,s11,s12,s13⟩:=cells14 RES.out
    obtain ⟨y0,y1,y2,y3,y4,y5,y6,y7,y8,y9,y10,y11,y12,y13⟩:=froz14 RES.out
    go_wp2_with fail
    refine (HS.out _).mono ?_
    rintro e w2 ⟨rfl,hw2⟩
    subst w2
    go_wp2_with fail
    refine (HI.out _).mono ?_
    rintro e w3 ⟨rfl,hw3⟩
    subst w3
    go_wp2_with fail
    exact bodyPost_ret (results_tct8 Tryz.results7 _ _ _ _ _ _ _ rfl (row_put14 RES.out (.int .u64 0) (.slice none 0 0) (.int .i64 0) (.slice none 0 0) (.slice none 0 0) (.int .u64 0) (.int .u64 0) (.bool false) (.slice none 0 0) (.slice none 0 0) (.int .i64 0) (.int .u64 0) (.bool false) (.bool false)) Tryz.underlying29 rfl mac_size) rfl ⟨zeroA,by rw [F.out];rfl,by rw [F.out];exact fam_zeroM _ _ _,below_put14 BB.out (by omega) (.int .u64 0) (.slice none 0 0) (.int .i64 0) (.slice none 0 0) (.slice none 0 0) (.int .u64 0) (.int .u64 0) (.bool false) (.slice none 0 0) (.slice none 0 0) (.int .i64 0) (.int .u64 0) (.bool false) (.bool false)⟩

end Go.Proofs.YtkhofppmeoooaaaGreatDoor
