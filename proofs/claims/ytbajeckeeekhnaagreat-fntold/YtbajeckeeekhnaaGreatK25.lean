/- Own lemmas. -/
import Derived.Test.YtbajeckeeekhnaaGreatK01
import Derived.Test.YtbajeckeeekhnaaGreatK05
import Derived.Test.YtbajeckeeekhnaaGreatK15
import Derived.Test.YtbajeckeeekhnaaGreatK17
import Derived.Test.YtbajeckeeekhnaaGreatK19
import Derived.Test.YtbajeckeeekhnaaGreatK22
import Derived.Test.YtbajeckeeekhnaaGreatK23
import Derived.Test.YtbajeckeeekhnaaGreatK24
namespace Go.Proofs.YtbajeckeeekhnaaGreat
open Go.RowKit
set_option linter.unusedVariables false

theorem eff_m {M:MV} {A:MA} {w:World} (h22:M.cs.length=22) (hs:Sl .u64 w A.ac M.cs) (kind:Int):Calls Tryz.prog 78 #[.slice A.ac M.cs.length A.cc,.int .i64 M.pr,.int .i64 kind] w fun e w'=>e=.returned (.int .i64 (effV M.cs M.pr kind))∧w'=w:=by
 obtain ⟨b,off,e,_,hc⟩:=hs 0 (by omega)
 rw [e,h22]
 exact l7Effective_any b off A.cc M.cs M.pr kind w hc

theorem walk_m {M:MV} {A:MA} {w:World} (h22:M.cs.length=22) (hr:ramOkB M.ram.length=true) (hs:MSl w M A) (hw:MW M) (p va kind:Int) (hp:privB p=true) (hk1:1≤kind) (hk3:kind≤3) (hva:U va):Calls Tryz.prog 94 #[.slice A.ar M.ram.length A.cr,.slice A.ac M.cs.length A.cc,.int .i64 p,.int .u64 va,.int .i64 kind] w fun e w'=>e=.returned (.agg (walkV M.ram M.ram.length M.cs p va kind).cells)∧Below w.heap.size w w':=by
 obtain ⟨b,off,e,_,_⟩:=hs.cs 0 (by omega)
 have hcs:=hs.cs
 rw [e] at hcs
 rw [e,h22]
 exact l7Walk_any A.ar M.ram.length A.cr M.ram b off A.cc M.cs p va kind w hr rfl hs.ram hw.ram h22 hcs hp hk1 hk3 hva

theorem lead_m (M:MV) (A:MA) (B r:Nat) (va kind:Int) (w:World) (hm:Mp B r M A w) (hl:MLen M) (hw:MW M) (hok:machB M=true) (hk1:1≤kind) (hk3:kind≤3) (hva:U va) (F:Fd) (hF:walkV M.ram M.ram.length M.cs (effV M.cs M.pr kind) va kind=F) :
 Calls Tryz.prog 76 #[.pointer (some ⟨r,0,none⟩),.slice none 0 0,.int .u64 va,.int .i64 kind] w fun e w'=>e=.returned (.tuple #[.int .u64 F.addr,.int .i64 F.code])∧Mp B r (memM M (markB M.ram F)) A w'∧Kx r (mvF M A) (mvF (memM M (markB M.ram F)) A) w w':=by
 obtain ⟨h22,hcs,hpr,hr,hd,hb⟩:=mach_parts hok
 have hp:=eff_priv (hw.cs 0) hcs hpr kind
 have hE:=fun w' (h:Mp B r M A w')=>eff_m (M:=M) (A:=A) (w:=w') h22 h.fam.msl.cs kind
 have hW:=fun w' (h:Mp B r M A w')=>walk_m (M:=M) (A:=A) (w:=w') h22 hr h.fam.msl hw (effV M.cs M.pr kind) va kind hp hk1 hk3 hva
 have hmk:=walk_mark M.ram M.ram.length M.cs (effV M.cs M.pr kind) va kind
 rw [hF] at hmk
 simp only [hF] at hW
 obtain ⟨fa,fc,fm,ft,fe⟩:=F
 cases fm with
 | false=>exact l9Lead_f M A B r va kind _ fa fc ft fe w hm hE hW
 | true =>
   obtain ⟨k1,k2⟩:=hmk rfl
   have k3:0≤fe∧fe < 18446744073709551616:=k2
   refine l9Lead_t M A B r va kind _ fa fc ft fe w hm hE hW _ (fun w' h=>l1Put_mp M A B r ft 8 fe w' hl.ram k1 k3.1 (by omega) h) ?_
   unfold mvc memM
   dsimp only
   rw [mark_len]

theorem perm_m {M:MV} {A:MA} {w:World} (h22:M.cs.length=22) (hs:Sl .u64 w A.ac M.cs) (p x s kind:Int):Calls Tryz.prog 77 #[.slice A.ac M.cs.length A.cc,.int .i64 p,.int .u64 x,.int .i64 s,.int .i64 kind] w fun e w'=>e=.returned (.bool (permRest M.cs p x (lastOf x s) kind 4 0))∧w'=w:=by
 rw [h22]
 exact l6Permits_any A.ac A.cc M.cs p x s kind w h22 hs

theorem load_m {M:MV} {A:MA} {w:World} {addr size:Int} (hs:Sl .u8 w A.ar M.ram) (hl:M.ram.length≤1048576) (hw:∀ y ∈ M.ram,(Lit.int .u8 y).wf=true) (hok:okB M.ram.length addr size=true):Calls Tryz.prog 80 #[.slice A.ar M.ram.length A.cr,.int .u64 addr,.int .i64 size] w fun e w'=>e=.returned (.int .u64 (le M.ram (addr - 2147483648).toNat size.toNat))∧w'=w:=by
 have hb:=okB_true hok
 obtain ⟨f,hf⟩:∃ f:Nat,f=(addr - 2147483648).toNat:=⟨_,rfl⟩
 obtain ⟨m,hm⟩:∃ m:Nat,m=size.toNat:=⟨_,rfl⟩
 have ea:addr=2147483648+(f:Int):=by omega
 have es:size=(m:Int):=by omega
 rw [← hf,← hm,ea,es]
 exact l1Load_any A.ar M.ram.length A.cr f m M.ram w rfl hl hs hw (by omega) (by omega) (by omega)

theorem dev_sub {B E:Nat} {w:World} {M:MV} {A:MA} (h:Fam B E w (mvF M A)):Fam B E w (devF A.ai M.d.xs.length A.ci M.d.xs A.ao M.d.ys.length A.co M.d.ys):=h.sub (.cons _ (.cons _ (.cons _ (List.Sublist.refl _))))

theorem ldV_ok (D:DV) (k:Nat) (h:D.xs.length≤1048576) (h2:D.ys.length≤1048576):(ldV D k).2.1.xs.length≤1048576∧(ldV D k).2.1.ys.length≤1048576:=by
 have:=ldV_len D k
 omega

theorem l9Access_any (M:MV) (A:MA) (B r:Nat) (addr size kind x:Int) (w:World) (hm:Mp B r M A w) (hl:MLen M) (hw:MW M) (hok:machB M=true) (hsz:sizeB size=true) (hk1:1≤kind) (hk3:kind≤3) (ha:U addr) (hx:U x) :
 Calls Tryz.prog 60 #[.pointer (some ⟨r,0,none⟩),.slice none 0 0,.int .u64 addr,.int .i64 size,.int .i64 kind,.int .u64 x] w fun e w'=>e=.returned (.tuple #[.int .u64 (accV M addr size kind x).1,.int .i64 (accV M addr size kind x).2.2])∧∃ A',Mp B r (accV M addr size kind x).2.1 A' w'∧Kx r (mvF M A) (mvF (accV M addr size kind x).2.1 A') w w':=by
 obtain ⟨h22,hcs,hpr,hr,hd,hb⟩:=mach_parts hok
 have hd16:=okD_bd hd
 have hbytes:bytesOk M.d:=⟨hw.xs,hw.ys⟩
 have hs5:size=1∨size=2∨size=4∨size=8:=of_decide_eq_true hsz
 have hs1:1≤size:=by omega
 have hs8:size≤8:=by omega
 obtain ⟨F,hF⟩:∃ F,walkV M.ram M.ram.length M.cs (effV M.cs M.pr kind) addr kind=F:=⟨_,rfl⟩
 have hfa:U F.addr:=by rw [← hF];exact walkV_U _ _ _ _ _ _ ha
 have hr1:ramOkB (memM M (markB M.ram F)).ram.length=true:=by show ramOkB (markB M.ram F).length=true;rw [mark_len];exact hr
 have hl1:(memM M (markB M.ram F)).ram.length≤1048576:=by show (markB M.ram F).length≤_;rw [mark_len];exact hl.ram
 have hw1:=mark_wf M.ram hw.ram F
 have hlast:decide (IntKind.u64.wrap (IntKind.u64.wrap (F.addr+size) - 1) < F.addr)=decide (lastOf F.addr size < F.addr):=by rw [last_small _ _ hs1 hs8]
 have hlD:∀ D:DV,(D.xs.length≤1048576∧D.ys.length≤1048576)→MLen (devM (memM M (markB M.ram F)) D):=fun D h=>⟨hl.x,hl.cs,hl1,h.1,h.2⟩
 have hdlen:=ldV_ok M.d (sel F.addr size) hl.xs hl.ys
 have hslen:=stV_len M.d x hl.xs hd16.2.1 (sel F.addr size)
 have hk:kind=1∨kind=2∨kind=3:=by omega
 rcases hk with rfl | rfl | rfl
 ·exact l9Access_1 M (memM M (markB M.ram F)) A B r addr size x (effV M.cs M.pr 1) F.addr F.code (addr % size != 0) (F.code != 0) (decide (lastOf F.addr size < F.addr)) (permRest M.cs (effV M.cs M.pr 1) F.addr (lastOf F.addr size) 1 4 0) (okB (memM M (markB M.ram F)).ram.length F.addr size) (le (markB M.ram F) (F.addr - 2147483648).toNat size.toNat) (accV M addr size 1 x) w hm hs1 hs8 ha rfl rfl (fun w' h=>lead_m M A B r addr 1 w' h hl hw hok (by omega) (by omega) ha F hF) hlast (fun w' h=>eff_m (M:=memM M (markB M.ram F)) (A:=A) h22 h.fam.msl.cs 1) (fun w' h=>perm_m (M:=memM M (markB M.ram F)) h22 h.fam.msl.cs _ _ _ _) (fun w' h=>inside_any _ _ _ _ _ w' hr1 hsz hfa.1 (by have:=hfa.2;omega)) (fun hi w' h=>load_m (M:=memM M (markB M.ram F)) h.fam.msl.ram hl1 hw1 hi) (by unfold accV;rw [hF];rfl)
 ·exact l9Access_2 M (memM M (markB M.ram F)) A B r addr size x (effV M.cs M.pr 2) F.addr F.code (addr % size != 0) (F.code != 0) (decide (lastOf F.addr size < F.addr)) (permRest M.cs (effV M.cs M.pr 2) F.addr (lastOf F.addr size) 2 4 0) (okB (memM M (markB M.ram F)).ram.length F.addr size) (le (markB M.ram F) (F.addr - 2147483648).toNat size.toNat) (ldV M.d (sel F.addr size)).1 (ldV M.d (sel F.addr size)).2.1 (ldV M.d (sel F.addr size)).2.2 (accV M addr size 2 x) w hm hs1 hs8 ha rfl rfl (fun w' h=>lead_m M A B r addr 2 w' h hl hw hok (by omega) (by omega) ha F hF) hlast (fun w' h=>eff_m (M:=memM M (markB M.ram F)) (A:=A) h22 h.fam.msl.cs 2) (fun w' h=>perm_m (M:=memM M (markB M.ram F)) h22 h.fam.msl.cs _ _ _ _) (fun w' h=>inside_any _ _ _ _ _ w' hr1 hsz hfa.1 (by have:=hfa.2;omega)) (fun hi w' h=>load_m (M:=memM M (markB M.ram F)) h.fam.msl.ram hl1 hw1 hi) (fun w' h=>l8Load_own M.d A.ai A.ci A.ao A.co F.addr size B w'.heap.size w' hd16.1 hbytes (by have:=h.lo;have:=h.lt;omega) (Nat.le_refl _) (dev_sub (M:=memM M (markB M.ram F)) h.fam)) (fun A' w' h=>l9Line_mp _ A' B r w' h22 (hlD _ hdlen) h) (by unfold accV;rw [hF];rfl)
 ·exact l9Access_3 M (memM M (markB M.ram F)) A B r addr size x (effV M.cs M.pr 3) F.addr F.code (addr % size != 0) (F.code != 0) (decide (lastOf F.addr size < F.addr)) (permRest M.cs (effV M.cs M.pr 3) F.addr (lastOf F.addr size) 3 4 0) (okB (memM M (markB M.ram F)).ram.length F.addr size) (put (markB M.ram F) (F.addr - 2147483648).toNat x size.toNat) (stV M.d x (sel F.addr size)).1 (stV M.d x (sel F.addr size)).2 (heldB9 (memM M (markB M.ram F)) F.addr) (accV M addr size 3 x) w hm hs1 hs8 ha rfl rfl (fun w' h=>lead_m M A B r addr 3 w' h hl hw hok (by omega) (by omega) ha F hF) hlast (fun w' h=>eff_m (M:=memM M (markB M.ram F)) (A:=A) h22 h.fam.msl.cs 3) (fun w' h=>perm_m (M:=memM M (markB M.ram F)) h22 h.fam.msl.cs _ _ _ _) (fun w' h=>inside_any _ _ _ _ _ w' hr1 hsz hfa.1 (by have:=hfa.2;omega)) (fun hi w' h=>l1Put_mp (memM M (markB M.ram F)) A B r F.addr size x w' hl1 hi hx.1 (by have:=hx.2;omega) h) (put_len _ _ _ _) rfl (fun w' h=>l8Store_own M.d A.ai A.ci A.ao A.co F.addr size x B w'.heap.size w' hd16.2.1 (by have:=h.lo;have:=h.lt;omega) (Nat.le_refl _) (dev_sub (M:=memM M (markB M.ram F)) h.fam)) (fun A' w' h=>l9Line_mp _ A' B r w' h22 (hlD _ hslen) h) (by unfold accV;rw [hF];rfl)

structure Gd (M:MV):Prop where
 ok:machB M=true
 mw:MW M
 ux:∀ j,U (M.x.getD j 0)
 pc:U M.pc
 hd:U M.hd

theorem mach_all {M:MV} (h:machB M=true):(bits .and .u64 M.pc 3==0)=true∧regsB M.x.length M.x=true∧legalB M.cs.length M.cs M.pr=true∧ramOkB M.ram.length=true∧okD M.d.xs.length M.d.ys.length M.d.ir=true∧(M.hl||(M.hd==0))=true∧bellsB M=true:=by
 unfold machB at h
 simp only [Bool.and_eq_true] at h
 obtain ⟨⟨⟨⟨⟨⟨h1,h2⟩,h3⟩,h4⟩,h5⟩,h6⟩,h7⟩:=h
 exact ⟨h1,h2,h3,h4,h5,h6,h7⟩

theorem mach_mk {M:MV} (h1:(bits .and .u64 M.pc 3==0)=true) (h2:regsB M.x.length M.x=true) (h3:legalB M.cs.length M.cs M.pr=true) (h4:ramOkB M.ram.length=true) (h5:okD M.d.xs.length M.d.ys.length M.d.ir=true) (h6:(M.hl||(M.hd==0))=true) (h7:bellsB M=true):machB M=true:=by
 unfold machB
 rw [h1,h2,h3,h4,h5,h6,h7]
 rfl

theorem Gd.len {M:MV} (h:Gd M):MLen M:=by
 obtain ⟨_,h2,h3,h4,h5,_,_⟩:=mach_all h.ok
 unfold regsB at h2
 rw [Bool.and_eq_true,decide_eq_true_eq] at h2
 have h22:=legal_22 h3
 have hr:=ramOkB_bd h4
 have hd:=okD_bd h5
 exact ⟨by omega,by omega,by omega,by omega,by omega⟩

theorem Gd.mem {M:MV} (h:Gd M) {R:List Int} (hl:R.length=M.ram.length) (hw:∀ y ∈ R,(Lit.int .u8 y).wf=true):Gd (memM M R):=by
 obtain ⟨h1,h2,h3,h4,h5,h6,h7⟩:=mach_all h.ok
 exact ⟨mach_mk (M:=memM M R) h1 h2 h3 (by show ramOkB R.length=true;rw [hl];exact h4) h5 h6 h7,⟨h.mw.cs,hw,h.mw.xs,h.mw.ys⟩,h.ux,h.pc,h.hd⟩

theorem Gd.free {M:MV} (h:Gd M):Gd (freeM M):=by
 obtain ⟨h1,h2,h3,h4,h5,h6,h7⟩:=mach_all h.ok
 exact ⟨mach_mk (M:=freeM M) h1 h2 h3 h4 h5 rfl h7,⟨h.mw.cs,h.mw.ram,h.mw.xs,h.mw.ys⟩,h.ux,h.pc,(show U 0 from ⟨by decide,by decide⟩)⟩

theorem Gd.let_ {M:MV} (h:Gd M) (pa:Int):Gd (letM M pa):=by
 unfold letM
 split
 ·exact h.free
 ·exact h

theorem lines_few (D:DV) (p:Int→Prop) (h:∀ a b c:Bool,p (IntKind.u64.wrap (IntKind.u64.wrap (IntKind.u64.wrap (8*oneIf a)+IntKind.u64.wrap (128*oneIf b))+IntKind.u64.wrap (2048*oneIf c)))):p (linesV D):=h _ _ _

theorem lines_in (D:DV):bits .and .u64 (linesV D) 2184=linesV D:=by
 refine lines_few D (fun x=>bits .and .u64 x 2184=x) ?_
 decide +kernel

theorem lines_U (D:DV):U (linesV D):=U_wrap _

theorem bt_lines (D:DV) {i:Nat} (hi:i < 64):bt (linesV D) i=(bt (linesV D) i&&bt 2184 i):=by
 have:=bt_and (linesV D) 2184 i
 rw [lines_in] at this
 exact this

theorem Gd.dev {M:MV} (h:Gd M) {D:DV} (hD:okD D.xs.length D.ys.length D.ir=true) (hb:bytesOk D):Gd (lineM (devM M D)):=by
 obtain ⟨h1,h2,h3,h4,h5,h6,h7⟩:=mach_all h.ok
 obtain ⟨h22,hcs,hpr,_,_,_⟩:=mach_parts h.ok
 have h9:=right_at hcs 9 (by omega)
 have e9:bits .and .u64 (M.cs.getD 9 0) 2730=M.cs.getD 9 0:=beq_iff_eq.1 h9
 have hv:okAt 9 (bits .or .u64 (bits .andNot .u64 (M.cs.getD 9 0) 2184) (linesV D))=true:=by
  show (bits .and .u64 (bits .or .u64 (bits .andNot .u64 (M.cs.getD 9 0) 2184) (linesV D)) 2730==bits .or .u64 (bits .andNot .u64 (M.cs.getD 9 0) 2184) (linesV D))=true
  refine beq_iff_eq.2 (bt_ext _ _ (U_bits _ _ _) (U_bits _ _ _) fun i hi=>?_)
  have k1:bt (M.cs.getD 9 0) i=(bt (M.cs.getD 9 0) i&&bt 2730 i):=by have:=bt_and (M.cs.getD 9 0) 2730 i;rw [e9] at this;exact this
  have k2:=bt_lines D hi
  rw [bt_and,bt_or,bt_andNot _ _ _ hi]
  have hk:∀ j,j < 64→∀ a b:Bool,(a=(a&&bt 2730 j))→(b=(b&&bt 2184 j))→(((a&&!bt 2184 j)||b)&&bt 2730 j)=((a&&!bt 2184 j)||b):=by decide +kernel
  exact hk i hi _ _ k1 k2
 have hcs2:csrsOk 22 (M.cs.set 9 (bits .or .u64 (bits .andNot .u64 (M.cs.getD 9 0) 2184) (linesV D)))=true:=right_set M.cs h22 hcs 9 (by omega) _ hv
 refine ⟨mach_mk (M:=lineM (devM M D)) h1 h2 ?_ h4 hD h6 ?_,⟨?_,h.mw.ram,hb.1,hb.2⟩,h.ux,h.pc,h.hd⟩
 ·show legalB (M.cs.set 9 _).length (M.cs.set 9 _) M.pr=true
  unfold legalB
  rw [List.length_set,h22,hpr,Bool.and_true]
  exact hcs2
 ·show (bits .and .u64 ((M.cs.set 9 (bits .or .u64 (bits .andNot .u64 (M.cs.getD 9 0) 2184) (linesV D))).getD 9 0) 2184==linesV D)=true
  have e:(M.cs.set 9 (bits .or .u64 (bits .andNot .u64 (M.cs.getD 9 0) 2184) (linesV D))).getD 9 0=bits .or .u64 (bits .andNot .u64 (M.cs.getD 9 0) 2184) (linesV D):=by
   rw [List.getD_eq_getElem?_getD,List.getElem?_set_self (by omega)];rfl
  rw [e]
  refine beq_iff_eq.2 (bt_ext _ _ (U_bits _ _ _) (lines_U D) fun i hi=>?_)
  have k2:=bt_lines D hi
  rw [bt_and,bt_or,bt_andNot _ _ _ hi]
  have hk:∀ j,j < 64→∀ a b:Bool,(b=(b&&bt 2184 j))→(((a&&!bt 2184 j)||b)&&bt 2184 j)=b:=by decide +kernel
  exact hk i hi _ _ k2
 ·intro j
  show U ((M.cs.set 9 (bits .or .u64 (bits .andNot .u64 (M.cs.getD 9 0) 2184) (linesV D))).getD j 0)
  rw [List.getD_eq_getElem?_getD,List.getElem?_set]
  split
  ·split
   ·exact U_bits .or (bits .andNot .u64 (M.cs.getD 9 0) 2184) (linesV D)
   ·exact ⟨by decide,by decide⟩
  ·have:=h.mw.cs j;rw [List.getD_eq_getElem?_getD] at this;exact this

theorem ld_bytes (D:DV) (h:bytesOk D) (k:Nat):bytesOk (ldV D k).2.1:=by
 have hz:bytesOk zeroD:=⟨fun y hy=>(nomatch hy),fun y hy=>(nomatch hy)⟩
 unfold ldV
 split
 ·exact h
 ·exact h
 ·exact h
 ·exact ⟨fun y hy=>h.1 y (List.mem_of_mem_drop hy),h.2⟩
 ·exact h
 ·exact h
 ·exact hz

theorem st_bytes (D:DV) (h:bytesOk D) (x addr size:Int):bytesOk (stV D x (sel addr size)).1:=by
 have hz:bytesOk zeroD:=⟨fun y hy=>(nomatch hy),fun y hy=>(nomatch hy)⟩
 have h0:=stV_0 D x
 have h1:=stV_1 D x
 have h2:=stV_2 D x
 have h3:(stV D x 3).1.xs=D.xs∧((stV D x 3).1.ys=D.ys∨(stV D x 3).1.ys=D.ys ++ [IntKind.u8.wrap x]):=by
  by_cases hl:D.ys.length < 4096
  ·rw [stV_3r _ _ hl];exact ⟨rfl,Or.inr rfl⟩
  ·rw [stV_3f _ _ hl];exact ⟨rfl,Or.inl rfl⟩
 obtain ⟨q,h4⟩:∃ q,stV D x 4=(⟨D.t,D.cm,D.so,D.xs,D.ys,q⟩,true):=⟨_,stV_4 D x⟩
 have h5:=stV_5 D x
 have h6:=stV_6 D x
 generalize (bits .and .u64 x 1==1)=r at h0
 have hx:(Lit.int .u8 (IntKind.u8.wrap x)).wf=true:=bd_wf8 (y:=IntKind.u8.wrap x) (by rw [IntKind.wrap_u8];omega)
 generalize IntKind.u8.wrap x=z at h3 hx
 refine sel_cases addr size (fun k=>bytesOk (stV D x k).1) (fun _ _=>?_) (fun _ _=>?_) (fun _ _=>?_) (fun _ _=>?_) (fun _ _=>?_) (fun _ _=>?_) (fun _ _ _ _ _ _=>?_)
 ·show bytesOk (stV D x 0).1
  rw [h0];exact ⟨h.1,h.2⟩
 ·show bytesOk (stV D x 1).1
  rw [h1];exact ⟨h.1,h.2⟩
 ·show bytesOk (stV D x 2).1
  rw [h2];exact ⟨h.1,h.2⟩
 ·show bytesOk (stV D x 3).1
  refine ⟨by rw [h3.1];exact h.1,fun y hy=>?_⟩
  rcases h3.2 with e | e<;>rw [e] at hy
  ·exact h.2 y hy
  ·rcases List.mem_append.1 hy with hy | hy
   ·exact h.2 y hy
   ·rw [List.mem_singleton.1 hy];exact hx
 ·have e:(stV D x 4).1=⟨D.t,D.cm,D.so,D.xs,D.ys,q⟩:=congrArg Prod.fst h4
  exact e ▸ (⟨h.1,h.2⟩:bytesOk ⟨D.t,D.cm,D.so,D.xs,D.ys,q⟩)
 ·show bytesOk (stV D x 5).1
  rw [h5];exact h
 ·show bytesOk (stV D x 6).1
  rw [h6];exact hz

theorem Gd.at_ {M:MV} (h:Gd M) (pa size kind x:Int):Gd (atM M pa size kind x).2.1:=by
 obtain ⟨_,_,_,_,h5,_,_⟩:=mach_all h.ok
 have hby:bytesOk M.d:=⟨h.mw.xs,h.mw.ys⟩
 unfold atM
 split
 ·split
  ·exact (h.mem (put_len _ _ _ _) (put_wf _ h.mw.ram _ _ _)).let_ pa
  ·exact h
 ·split
  ·split
   ·rename_i hk
    exact h.dev (ldV_okD _ _ h5 hk) (ld_bytes _ hby _)
   ·exact h
  ·split
   ·split
    ·rename_i hk
     exact (h.dev (stV_okS _ _ _ _ h5 hk) (st_bytes _ hby _ _ _)).let_ pa
    ·exact h
   ·exact h

theorem Gd.marked {M:MV} (h:Gd M) (F:Fd):Gd (memM M (markB M.ram F)):=h.mem (mark_len _ _) (mark_wf _ h.mw.ram F)

theorem Gd.acc {M:MV} (h:Gd M) (addr size kind x:Int):Gd (accV M addr size kind x).2.1:=by
 unfold accV
 split
 ·exact h
 ·unfold accW
  split
  ·exact h.marked _
  ·split
   ·exact h.marked _
   ·exact (h.marked _).at_ _ _ _ _

theorem let_same (M:MV) (pa:Int):(letM M pa).pc=M.pc∧(letM M pa).x=M.x∧(letM M pa).pr=M.pr∧(letM M pa).wt=M.wt:=by
 unfold letM
 split<;>exact ⟨rfl,rfl,rfl,rfl⟩

theorem at_same (M:MV) (pa size kind x:Int):(atM M pa size kind x).2.1.pc=M.pc∧(atM M pa size kind x).2.1.x=M.x∧(atM M pa size kind x).2.1.pr=M.pr∧(atM M pa size kind x).2.1.wt=M.wt:=by
 unfold atM
 split
 ·split
  ·exact let_same (memM M _) pa
  ·exact ⟨rfl,rfl,rfl,rfl⟩
 ·split
  ·split<;>exact ⟨rfl,rfl,rfl,rfl⟩
  ·split
   ·split
    ·exact let_same (lineM (devM M _)) pa
    ·exact ⟨rfl,rfl,rfl,rfl⟩
   ·exact ⟨rfl,rfl,rfl,rfl⟩

theorem acc_same (M:MV) (addr size kind x:Int):(accV M addr size kind x).2.1.pc=M.pc∧(accV M addr size kind x).2.1.x=M.x∧(accV M addr size kind x).2.1.pr=M.pr∧(accV M addr size kind x).2.1.wt=M.wt:=by
 unfold accV
 split
 ·exact ⟨rfl,rfl,rfl,rfl⟩
 ·unfold accW
  split
  ·exact ⟨rfl,rfl,rfl,rfl⟩
  ·split
   ·exact ⟨rfl,rfl,rfl,rfl⟩
   ·exact at_same (memM M _) _ _ _ _

theorem leaf_code9 (l:List Int) (p va kind e x:Int) (lv:Nat):(leafV l p va kind e x lv).code=0∨(leafV l p va kind e x lv).code=pageC kind∨(leafV l p va kind e x lv).code=faultC kind:=by
 unfold leafV
 split
 ·exact Or.inr (Or.inl rfl)
 ·split
  ·exact Or.inr (Or.inl rfl)
  ·split
   ·exact Or.inr (Or.inl rfl)
   ·split
    ·split
     ·exact Or.inl rfl
     ·exact Or.inr (Or.inr rfl)
    ·exact Or.inl rfl

theorem walkL_code (zs:List Int) (n:Nat) (l:List Int) (p va kind:Int):∀ lv T,(walkL zs n l p va kind lv T).code=0∨(walkL zs n l p va kind lv T).code=pageC kind∨(walkL zs n l p va kind lv T).code=faultC kind:=by
 intro lv
 induction lv with
 | zero =>
   intro T
   rw [walkL_step]
   split
   ·split
    ·split
     ·exact Or.inr (Or.inl rfl)
     ·split
      ·rw [if_pos (show stopB _ 0=true from by unfold stopB;simp)]
       exact Or.inr (Or.inl rfl)
      ·exact leaf_code9 _ _ _ _ _ _ _
    ·exact Or.inr (Or.inr rfl)
   ·exact Or.inr (Or.inr rfl)
 | succ lv ih =>
   intro T
   rw [walkL_step]
   split
   ·split
    ·split
     ·exact Or.inr (Or.inl rfl)
     ·split
      ·split
       ·exact Or.inr (Or.inl rfl)
       ·exact ih _
      ·exact leaf_code9 _ _ _ _ _ _ _
    ·exact Or.inr (Or.inr rfl)
   ·exact Or.inr (Or.inr rfl)

theorem walk_code (zs:List Int) (n:Nat) (l:List Int) (p va kind:Int):(walkV zs n l p va kind).code=0∨(walkV zs n l p va kind).code=pageC kind∨(walkV zs n l p va kind).code=faultC kind:=by
 unfold walkV
 split
 ·exact Or.inl rfl
 ·split
  ·exact Or.inr (Or.inl rfl)
  ·exact walkL_code _ _ _ _ _ _ _ _

theorem page_few (kind:Int):pageC kind=12∨pageC kind=13∨pageC kind=15:=by
 unfold pageC
 repeat' split
 all_goals simp

theorem fault_few (kind:Int):faultC kind=1∨faultC kind=5∨faultC kind=7:=by
 unfold faultC
 repeat' split
 all_goals simp

theorem walk_few (zs:List Int) (n:Nat) (l:List Int) (p va kind:Int):∃ c:Nat,c < 16∧(walkV zs n l p va kind).code=c:=by
 have h1:=page_few kind
 have h2:=fault_few kind
 rcases walk_code zs n l p va kind with h | h | h
 ·exact ⟨0,by omega,h⟩
 ·rcases h1 with e | e | e
  ·exact ⟨12,by omega,by rw [h,e];rfl⟩
  ·exact ⟨13,by omega,by rw [h,e];rfl⟩
  ·exact ⟨15,by omega,by rw [h,e];rfl⟩
 ·rcases h2 with e | e | e
  ·exact ⟨1,by omega,by rw [h,e];rfl⟩
  ·exact ⟨5,by omega,by rw [h,e];rfl⟩
  ·exact ⟨7,by omega,by rw [h,e];rfl⟩

theorem fault_k (kind:Int):∃ c:Nat,c < 16∧faultK kind=c+16:=by
 unfold faultK
 split
 ·exact ⟨1,by omega,rfl⟩
 ·split
  ·exact ⟨5,by omega,rfl⟩
  ·exact ⟨7,by omega,rfl⟩

theorem crook_k (kind:Int):∃ c:Nat,c < 16∧crookK kind=c+16:=by
 unfold crookK
 split
 ·exact ⟨0,by omega,rfl⟩
 ·split
  ·exact ⟨4,by omega,rfl⟩
  ·exact ⟨6,by omega,rfl⟩

theorem at_code (M:MV) (pa size kind x:Int):(atM M pa size kind x).2.2=0∨∃ c:Nat,c < 16∧(atM M pa size kind x).2.2=c+16:=by
 unfold atM
 split
 ·split<;>exact Or.inl rfl
 ·split
  ·split
   ·exact Or.inl rfl
   ·exact Or.inr (fault_k kind)
  ·split
   ·split
    ·exact Or.inl rfl
    ·exact Or.inr (fault_k kind)
   ·exact Or.inr (fault_k kind)

theorem acc_code (M:MV) (addr size kind x:Int):(accV M addr size kind x).2.2=0∨∃ c:Nat,c < 16∧(accV M addr size kind x).2.2=c+16:=by
 unfold accV
 split
 ·exact Or.inr (crook_k kind)
 ·unfold accW
  split
  ·obtain ⟨c,hc,e⟩:=walk_few M.ram M.ram.length M.cs (effV M.cs M.pr kind) addr kind
   refine Or.inr ⟨c,hc,?_⟩
   show wrap64 ((walkV M.ram M.ram.length M.cs (effV M.cs M.pr kind) addr kind).code+16)=_
   rw [e]
   unfold wrap64
   omega
  ·split
   ·exact Or.inr (fault_k kind)
   ·exact at_code _ _ _ _ _

end Go.Proofs.YtbajeckeeekhnaaGreat
