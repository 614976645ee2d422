/- Own lemmas. -/
import Derived.Test.YtbajeckeeekhnaaGreatK02
import Derived.Test.YtbajeckeeekhnaaGreatK03
namespace Go.Proofs.YtbajeckeeekhnaaGreat
open Go.RowKit
set_option linter.unusedVariables false

set_option maxRecDepth 100000 in
set_option maxHeartbeats 1600000 in
theorem l8Load_3n (t cm:Int) (so:Bool) (g off:Nat) (n1 c1:Nat) (a2:Option Addr) (n2 c2:Nat) (ir:Int) (xs ys:List Int) (B E:Nat) (w:World) (hx:xs.length=n1) (hy:ys.length=n2) (hn0:1≤n1) (hn1:n1≤16) (hc1:n1≤c1) (hc2:c1≤9223372036854775807) (hBE:B≤E) (hE:E≤w.heap.size) (hf:Fam B E w (devF (some ⟨g,off,none⟩) n1 c1 xs a2 n2 c2 ys)) (hw:0≤xs.getD 0 0∧xs.getD 0 0≤255) :
 Calls Tryz.prog 81 #[.agg #[.int .u64 t,.int .u64 cm,.bool so,.slice (some ⟨g,off,none⟩) n1 c1,.slice a2 n2 c2,.int .i64 ir],.int .u64 268435456,.int .i64 1] w fun e w'=>∃ (b1:Option Addr) (d1:Nat),e=.returned (.tuple #[.int .u64 (xs.getD 0 0),.agg #[.int .u64 t,.int .u64 cm,.bool so,.slice b1 (n1 - 1) d1,.slice a2 n2 c2,.int .i64 ir],.bool true])∧w'.ownsRow w.heap.size 5 1 (.slice b1 (n1 - 1) d1) (n1 - 1) ((xs.drop 1).map (Value.int .u8))∧Below w.heap.size w w':=by
 have hs:=hf.in_
 obtain ⟨b',off',e,hlt,hc⟩:=hs 0 (by omega)
 simp only [Option.some.injEq,Addr.mk.injEq,and_true] at e
 obtain ⟨rfl,rfl⟩:=e
 have hB2:∀ o1 o2,Below w.heap.size w ((w.alloc o1).alloc o2):=fun o1 o2=>below2n
 have k0:∀ o1 o2,((w.alloc o1).alloc o2).cell? ⟨g,off,none⟩=some (.int .u8 (xs.getD 0 0)):=fun o1 o2=>((hB2 o1 o2).cell (by exact hlt)).trans hc
 have t0:((n1:Int)==0)=false:=by simp;omega
 have i0:(0:Int) < (n1:Int):=by omega
 have i1:(1:Int)≤(n1:Int):=by omega
 have HS:Hid (∀ w',Below w.heap.size w w'→Sl .u8 w' (some ⟨g,off+1,none⟩) (xs.drop 1)):=fun w' hb=>(hs.below hb).next
 have HX:Hid ((xs.drop 1).length=n1 - 1∧n1 - 1≤1048576):=⟨by rw [List.length_drop,hx],by omega⟩
 have HF:Hid (Fam B E w (devF (some ⟨g,off,none⟩) n1 c1 xs a2 n2 c2 ys)):=hf
 have HE2:Hid (B≤E∧E≤w.heap.size):=⟨hBE,hE⟩
 have hE:=own_empty8 ((w.alloc (.cells #[.int .u64 t,.int .u64 cm,.bool so,.slice (some ⟨g,off,none⟩) n1 c1,.slice a2 n2 c2,.int .i64 ir] 27)).alloc (.cells #[.int .u64 0,.int .u64 0,.bool false,.slice none 0 0,.slice none 0 0,.int .i64 0] 27)) (w.heap.size+1+1) (by simp) (.cells #[] 5 (0,0)) rfl
 rw [World.size_alloc,World.size_alloc] at hE
 have hwr:IntKind.u64.wrap (xs.getD 0 0)=xs.getD 0 0:=by rw [IntKind.wrap_u64];omega
 have HWR:=dhid hwr
 clear hs hc hf hBE hwr hw hx hy
 generalize xs.getD 0 0=x0 at *
 by_cases hcc:c1=1
 ·have hnn:n1=1:=by omega
  subst hcc hnn
  have hdz:xs.drop 1=[]:=List.length_eq_zero_iff.1 (by have:=HX.out.1;simpa using this)
  rw [hdz]
  clear hdz HS HX
  go_enter Tryz.func81,Tryz.ntmps81
  go_wp2_with (first | (at_builtin;refine wpList_app8 rfl (.tmp 58) (.tmp 61) rfl (w.heap.size+1+1) _ rfl hE _ 0 _ [] rfl rfl (by omega) (fun i hi=>absurd hi (Nat.not_lt_zero _)) (by simp) ?_;intro b1 d1 w1 ow1 gr1;obtain ⟨r0,r1,hb1,z1⟩:=app2 gr1;have R0:=dhid r0;have R1:=dhid r1;have B1:=dhid hb1;have Z1:=dhid z1;have O1:=dhid ow1;obtain ⟨p0,p1,p2,p3,p4,p5⟩:=cells6 r0;obtain ⟨s0,s1,s2,s3,s4,s5⟩:=cells6 r1;obtain ⟨y0,y1,y2,y3,y4,y5⟩:=froz6 r1;have f3:=froz r0 3;clear r0 r1 hb1 z1 ow1 gr1))
  go_region
  go_wp2_with fail
  rw [HWR.out]
  have T1:=row_put6 (row_far R1.out ⟨w.heap.size,3,none⟩ (.slice b1 0 d1) (by dsimp only;omega)) (.int .u64 t) (.int .u64 cm) (.bool so) (.slice b1 0 d1) (.slice a2 n2 c2) (.int .i64 ir)
  have A2:=(((Fam.nil (w.heap.size+1+1) (w.heap.size+1+1) w1).snoc (bRow b1 0 d1 []) _ w1.heap.size O1.out (Nat.le_refl _) (Nat.le_refl _) (Nat.le_refl _) (by have:=Z1.out;omega)).set ⟨w.heap.size,3,none⟩ (.slice b1 0 d1) (.inl (by dsimp only;omega))).put6 (w.heap.size+1) (.inl (by omega)) (.int .u64 t) (.int .u64 cm) (.bool so) (.slice b1 0 d1) (.slice a2 n2 c2) (.int .i64 ir)
  have B4:=below_put6 (B1.out.setCell (p:=⟨w.heap.size,3,none⟩) (Nat.le_refl _) (.slice b1 0 d1)) (g:=w.heap.size+1) (by omega) (.int .u64 t) (.int .u64 cm) (.bool so) (.slice b1 0 d1) (.slice a2 n2 c2) (.int .i64 ir)
  exact bodyPost_ret (results_tct8 Tryz.results81 _ _ _ _ _ _ _ rfl (row_drew T1) Tryz.underlying27 rfl dev_size) rfl ⟨b1,d1,rfl,own_low (ownsRow_below (A2.own _ (List.mem_singleton.2 rfl)) (Below.refl _ _).drew) (by omega),B4.drew⟩
 ·have hcc2:¬ (c1 - 1=0):=by omega
  go_enter Tryz.func81,Tryz.ntmps81
  go_wp2_with (first | (at_builtin;refine wpList_app8 rfl (.tmp 58) (.tmp 61) rfl (w.heap.size+1+1) _ rfl hE (some ⟨g,off+1,none⟩) (n1 - 1) (c1 - 1) (xs.drop 1) rfl HX.out.1 HX.out.2 (HS.out _ ((hB2 _ _).alloc (hB2 _ _).size _)) (by simp) ?_;intro b1 d1 w1 ow1 gr1;obtain ⟨r0,r1,hb1,z1⟩:=app2 gr1;have R0:=dhid r0;have R1:=dhid r1;have B1:=dhid hb1;have Z1:=dhid z1;have O1:=dhid ow1;obtain ⟨p0,p1,p2,p3,p4,p5⟩:=cells6 r0;obtain ⟨s0,s1,s2,s3,s4,s5⟩:=cells6 r1;obtain ⟨y0,y1,y2,y3,y4,y5⟩:=froz6 r1;have f3:=froz r0 3;clear r0 r1 hb1 z1 ow1 gr1))
  go_region
  go_wp2_with fail
  rw [HWR.out]
  have T1:=row_put6 (row_far R1.out ⟨w.heap.size,3,none⟩ (.slice b1 (n1 - 1) d1) (by dsimp only;omega)) (.int .u64 t) (.int .u64 cm) (.bool so) (.slice b1 (n1 - 1) d1) (.slice a2 n2 c2) (.int .i64 ir)
  have A2:=(((Fam.nil (w.heap.size+1+1) (w.heap.size+1+1) w1).snoc (bRow b1 (n1 - 1) d1 (xs.drop 1)) _ w1.heap.size O1.out (Nat.le_refl _) (Nat.le_refl _) (Nat.le_refl _) (by have:=Z1.out;omega)).set ⟨w.heap.size,3,none⟩ (.slice b1 (n1 - 1) d1) (.inl (by dsimp only;omega))).put6 (w.heap.size+1) (.inl (by omega)) (.int .u64 t) (.int .u64 cm) (.bool so) (.slice b1 (n1 - 1) d1) (.slice a2 n2 c2) (.int .i64 ir)
  have B4:=below_put6 (B1.out.setCell (p:=⟨w.heap.size,3,none⟩) (Nat.le_refl _) (.slice b1 (n1 - 1) d1)) (g:=w.heap.size+1) (by omega) (.int .u64 t) (.int .u64 cm) (.bool so) (.slice b1 (n1 - 1) d1) (.slice a2 n2 c2) (.int .i64 ir)
  exact bodyPost_ret (results_tct8 Tryz.results81 _ _ _ _ _ _ _ rfl (row_drew T1) Tryz.underlying27 rfl dev_size) rfl ⟨b1,d1,rfl,own_low (ownsRow_below (A2.own _ (List.mem_singleton.2 rfl)) (Below.refl _ _).drew) (by omega),B4.drew⟩

set_option maxRecDepth 100000 in
set_option maxHeartbeats 1600000 in
theorem l8Store_3n (t cm:Int) (so:Bool) (a1:Option Addr) (n1 c1:Nat) (a2:Option Addr) (n2 c2:Nat) (ir:Int) (x:Int) (xs ys:List Int) (B E:Nat) (w:World) (hy:ys.length=n2) (hn2:n2 < 4096) (hBE:B≤E) (hE0:E≤w.heap.size) (hf:Fam B E w (devF a1 n1 c1 xs a2 n2 c2 ys)) :
 Calls Tryz.prog 82 #[.agg #[.int .u64 t,.int .u64 cm,.bool so,.slice a1 n1 c1,.slice a2 n2 c2,.int .i64 ir],.int .u64 268435456,.int .i64 1,.int .u64 x] w fun e w'=>∃ (f1:Option Addr) (g1:Nat),e=.returned (.tuple #[.agg #[.int .u64 t,.int .u64 cm,.bool so,.slice a1 n1 c1,.slice f1 (n2+1) g1,.int .i64 ir],.bool true])∧w'.ownsRow w.heap.size 5 1 (.slice f1 (n2+1) g1) (n2+1) ((ys ++ [IntKind.u8.wrap x]).map (Value.int .u8))∧Below w.heap.size w w':=by
 have hs:=hf.out_
 have hB2:∀ o1 o2,Below w.heap.size w ((w.alloc o1).alloc o2):=fun o1 o2=>below2n
 have dd:decide ((n2:Int) < 4096)=true:=by simp;omega
 have HS:Hid (∀ w',Below w.heap.size w w'→Sl .u8 w' a2 ys):=fun w' hb=>hs.below hb
 have HX:Hid (ys.length=n2∧n2 < 4096):=⟨hy,hn2⟩
 have HF:Hid (Fam B E w (devF a1 n1 c1 xs a2 n2 c2 ys)):=hf
 have HE2:Hid (B≤E∧E≤w.heap.size):=⟨hBE,hE0⟩
 have hE:=own_empty8 ((w.alloc (.cells #[.int .u64 t,.int .u64 cm,.bool so,.slice a1 n1 c1,.slice a2 n2 c2,.int .i64 ir] 27)).alloc (.cells #[.int .u64 0,.int .u64 0,.bool false,.slice none 0 0,.slice none 0 0,.int .i64 0] 27)) (w.heap.size+1+1) (by simp) (.cells #[] 5 (0,0)) rfl
 rw [World.size_alloc,World.size_alloc] at hE
 obtain ⟨i0,hi,hz0,hz1,hz2⟩:=info_parts Tryz.info5
 clear hs hf hBE hE0 hy hn2
 rw [show IntKind.u8.wrap x=x % 256 from IntKind.wrap_u8 x]
 go_enter Tryz.func82,Tryz.ntmps82
 go_wp2_with (first
  | (at_builtin;refine wpList_app8 rfl (.tmp 51) (.tmp 53) rfl (w.heap.size+1+1) _ rfl hE a2 n2 c2 ys rfl HX.out.1 (by have:=HX.out.2;omega) (HS.out _ ((hB2 _ _).alloc (hB2 _ _).size _)) (by simp) ?_;intro b1 d1 w1 ow1 gr1;obtain ⟨r0,r1,hb1,z1⟩:=app2 gr1;have R0:=dhid r0;have R1:=dhid r1;have B1:=dhid hb1;have Z1:=dhid z1;have O1:=dhid ow1;clear r0 r1 hb1 z1 ow1 gr1)
  | (at_builtin;refine wpList_append_own _ rfl (.tmp 54) (.tmp 57) 22 rfl (w.heap.size+1+1) 5 i0 (.int .u8 0) 1 1 Tryz.underlying22 hi hz0 hz1 hz2 rfl (by decide) _ n2 (ys.map (Value.int .u8)) rfl (ownsRow_below O1.out ((Below.refl _ _).alloc (Nat.le_refl _) _)) ⟨w1.heap.size,0,none⟩ 1 1 [.int .u8 (x % 256)] rfl rfl (one_new _ _) (by simp [Value.oneCell']) (by have:=HX.out.2;unfold maxLen;omega) (by have:=HX.out.2;omega) (by have:=Z1.out;rw [World.size_alloc];omega) ?_;intro v' w2 ow2 gr2 hnil2;obtain ⟨f1,g1,rfl⟩:=own_form ow2;obtain ⟨hr0,hr1,hb2⟩:=app3 R0.out R1.out O1.out gr2;have S0:=dhid hr0;have S1:=dhid hr1;have B2:=dhid (B1.out.trans (hb2.mono (by omega)));have Z2:=dhid hb2.size;have O2:=dhid ow2;obtain ⟨p0,p1,p2,p3,p4,p5⟩:=cells6 hr0;obtain ⟨s0,s1,s2,s3,s4,s5⟩:=cells6 hr1;obtain ⟨y0,y1,y2,y3,y4,y5⟩:=froz6 hr1;have f4:=froz hr0 4;clear hr0 hr1 hb2 ow2 gr2 hnil2))
 have T1:=row_put6 (row_far S1.out ⟨w.heap.size,4,none⟩ (.slice f1 (n2+1) g1) (by dsimp only;omega)) (.int .u64 t) (.int .u64 cm) (.bool so) (.slice a1 n1 c1) (.slice f1 (n2+1) g1) (.int .i64 ir)
 have O3:w2.ownsRow (w.heap.size+1+1) 5 1 (.slice f1 (n2+1) g1) (n2+1) ((ys ++ [x % 256]).map (Value.int .u8)):=by rw [List.map_append];exact O2.out
 have A2:=(((Fam.nil (w.heap.size+1+1) (w.heap.size+1+1) w2).snoc (bRow f1 (n2+1) g1 (ys ++ [x % 256])) _ w2.heap.size O3 (Nat.le_refl _) (Nat.le_refl _) (Nat.le_refl _) (by have:=Z1.out;have:=Z2.out;omega)).set ⟨w.heap.size,4,none⟩ (.slice f1 (n2+1) g1) (.inl (by dsimp only;omega))).put6 (w.heap.size+1) (.inl (by omega)) (.int .u64 t) (.int .u64 cm) (.bool so) (.slice a1 n1 c1) (.slice f1 (n2+1) g1) (.int .i64 ir)
 have B4:=below_put6 (B2.out.setCell (p:=⟨w.heap.size,4,none⟩) (Nat.le_refl _) (.slice f1 (n2+1) g1)) (g:=w.heap.size+1) (by omega) (.int .u64 t) (.int .u64 cm) (.bool so) (.slice a1 n1 c1) (.slice f1 (n2+1) g1) (.int .i64 ir)
 exact bodyPost_ret (results_ct8 Tryz.results82 _ _ _ _ _ _ _ rfl T1 Tryz.underlying27 rfl dev_size) rfl ⟨f1,g1,rfl,own_low (A2.own _ (List.mem_singleton.2 rfl)) (by omega),B4⟩

def Renew (w w':World) (a1:Option Addr) (c1:Nat) (xs:List Int) (a2:Option Addr) (c2:Nat) (ys:List Int) (b1:Option Addr) (d1:Nat) (zs:List Int) (b2:Option Addr) (d2:Nat) (us:List Int):Prop :=
 ((b1=a1∧d1=c1∧zs=xs)∧b2=a2∧d2=c2∧us=ys) ∨
 (w'.ownsRow w.heap.size 5 1 (.slice b1 zs.length d1) zs.length (zs.map (Value.int .u8))∧b2=a2∧d2=c2∧us=ys) ∨
 ((b1=a1∧d1=c1∧zs=xs)∧w'.ownsRow w.heap.size 5 1 (.slice b2 us.length d2) us.length (us.map (Value.int .u8))) ∨
 Fam w.heap.size w'.heap.size w' (devF b1 zs.length d1 zs b2 us.length d2 us)

theorem Renew.same (w w':World) (a1:Option Addr) (c1:Nat) (xs:List Int) (a2:Option Addr) (c2:Nat) (ys:List Int):Renew w w' a1 c1 xs a2 c2 ys a1 c1 xs a2 c2 ys:=.inl ⟨⟨rfl,rfl,rfl⟩,rfl,rfl,rfl⟩

theorem Renew.below {w w1 w':World} {a1:Option Addr} {c1:Nat} {xs:List Int} {a2:Option Addr} {c2:Nat} {ys:List Int} {b1:Option Addr} {d1:Nat} {zs:List Int} {b2:Option Addr} {d2:Nat} {us:List Int} (h:Renew w w1 a1 c1 xs a2 c2 ys b1 d1 zs b2 d2 us) (hb:Below w1.heap.size w1 w'):Renew w w' a1 c1 xs a2 c2 ys b1 d1 zs b2 d2 us:=by
 rcases h with h | ⟨h1,h2⟩ | ⟨h1,h2⟩ | h
 ·exact .inl h
 ·exact .inr (.inl ⟨ownsRow_below h1 hb,h2⟩)
 ·exact .inr (.inr (.inl ⟨h1,ownsRow_below h2 hb⟩))
 ·exact .inr (.inr (.inr ((h.below hb).low (Nat.le_refl _) hb.size)))

theorem l8Load_own (D:DV) (a1:Option Addr) (c1:Nat) (a2:Option Addr) (c2:Nat) (addr size:Int) (B E:Nat) (w:World) (h16:D.xs.length≤16) (hb:bytesOk D) (hBE:B≤E) (hE:E≤w.heap.size) (hf:Fam B E w (devF a1 D.xs.length c1 D.xs a2 D.ys.length c2 D.ys)) :
 Calls Tryz.prog 81 #[.agg #[.int .u64 D.t,.int .u64 D.cm,.bool D.so,.slice a1 D.xs.length c1,.slice a2 D.ys.length c2,.int .i64 D.ir],.int .u64 addr,.int .i64 size] w fun e w'=>∃ (b1:Option Addr) (d1:Nat) (b2:Option Addr) (d2:Nat),e=.returned (.tuple #[.int .u64 (ldV D (sel addr size)).1,.agg (dvc (ldV D (sel addr size)).2.1 b1 d1 b2 d2),.bool (ldV D (sel addr size)).2.2])∧Renew w w' a1 c1 D.xs a2 c2 D.ys b1 d1 (ldV D (sel addr size)).2.1.xs b2 d2 (ldV D (sel addr size)).2.1.ys∧Below w.heap.size w w':=by
 refine sel_cases addr size (fun k=>Calls Tryz.prog 81 #[.agg #[.int .u64 D.t,.int .u64 D.cm,.bool D.so,.slice a1 D.xs.length c1,.slice a2 D.ys.length c2,.int .i64 D.ir],.int .u64 addr,.int .i64 size] w fun e w'=>∃ (b1:Option Addr) (d1:Nat) (b2:Option Addr) (d2:Nat),e=.returned (.tuple #[.int .u64 (ldV D k).1,.agg (dvc (ldV D k).2.1 b1 d1 b2 d2),.bool (ldV D k).2.2])∧Renew w w' a1 c1 D.xs a2 c2 D.ys b1 d1 (ldV D k).2.1.xs b2 d2 (ldV D k).2.1.ys∧Below w.heap.size w w') ?_ ?_ ?_ ?_ ?_ ?_ ?_
 ·rintro rfl rfl
  exact (l8Load_0 D.t D.cm D.so a1 _ c1 a2 _ c2 D.ir w).mono fun e w' h=>⟨a1,c1,a2,c2,h.1,Renew.same _ _ _ _ _ _ _ _,h.2⟩
 ·rintro rfl rfl
  exact (l8Load_1 D.t D.cm D.so a1 _ c1 a2 _ c2 D.ir w).mono fun e w' h=>⟨a1,c1,a2,c2,h.1,Renew.same _ _ _ _ _ _ _ _,h.2⟩
 ·rintro rfl rfl
  exact (l8Load_2 D.t D.cm D.so a1 _ c1 a2 _ c2 D.ir w).mono fun e w' h=>⟨a1,c1,a2,c2,h.1,Renew.same _ _ _ _ _ _ _ _,h.2⟩
 ·rintro rfl rfl
  rcases Nat.eq_zero_or_pos D.xs.length with h0 | h0
  ·have hx:D.xs=[]:=List.length_eq_zero_iff.1 h0
   have h:=l8Load_3e D.t D.cm D.so a1 c1 a2 D.ys.length c2 D.ir w
   rw [h0]
   refine h.mono fun e w' h=>⟨a1,c1,a2,c2,?_,?_,h.2⟩
   ·rw [h.1]
    simp only [ldV,dvc,hx]
    rfl
   ·simp only [ldV,hx]
    exact Renew.same _ _ _ _ _ _ _ _
  ·obtain ⟨g,rfl,hc1,hc2⟩:=fam_shape hf h0
   unfold maxLen at hc2
   have hw:=byte_bd hb.1 0
   refine (l8Load_3n D.t D.cm D.so g 0 D.xs.length c1 a2 D.ys.length c2 D.ir D.xs D.ys B E w rfl rfl h0 h16 hc1 (by omega) hBE hE hf hw).mono fun e w' h=>?_
   obtain ⟨b1,d1,h1,h2,h3⟩:=h
   refine ⟨b1,d1,a2,c2,?_,.inr (.inl ⟨?_,rfl,rfl,?_⟩),h3⟩
   ·rw [h1]
    simp only [ldV,dvc,List.length_drop]
   ·simp only [ldV,List.length_drop]
    exact h2
   ·simp only [ldV]
 ·rintro rfl rfl
  exact (l8Load_4 D.t D.cm D.so a1 _ c1 a2 _ c2 D.ir w).mono fun e w' h=>⟨a1,c1,a2,c2,h.1,Renew.same _ _ _ _ _ _ _ _,h.2⟩
 ·rintro rfl rfl
  exact (l8Load_5 D.t D.cm D.so a1 _ c1 a2 _ c2 D.ir (by omega) w).mono fun e w' h=>⟨a1,c1,a2,c2,h.1,Renew.same _ _ _ _ _ _ _ _,h.2⟩
 ·intro k0 k1 k2 k3 k4 k5
  exact (l8Load_6 D.t D.cm D.so a1 _ c1 a2 _ c2 D.ir addr size k0 k1 k2 k3 k4 k5 w).mono fun e w' h=>⟨none,0,none,0,h.1,.inr (.inr (.inr (fam_zero _ _ _))),h.2⟩

theorem l8Store_4n (D:DV) (a1:Option Addr) (c1:Nat) (a2:Option Addr) (c2:Nat) (x:Int) (w:World) (q:Int) (hq:wrap64 (bits .and .u64 x 1)=q):Calls Tryz.prog 82 #[.agg #[.int .u64 D.t,.int .u64 D.cm,.bool D.so,.slice a1 D.xs.length c1,.slice a2 D.ys.length c2,.int .i64 D.ir],.int .u64 268435457,.int .i64 1,.int .u64 x] w fun e w'=>∃ (b1:Option Addr) (d1:Nat) (b2:Option Addr) (d2:Nat),e=.returned (.tuple #[.agg (dvc ((⟨D.t,D.cm,D.so,D.xs,D.ys,q⟩,true):DV × Bool).1 b1 d1 b2 d2),.bool ((⟨D.t,D.cm,D.so,D.xs,D.ys,q⟩,true):DV × Bool).2])∧Renew w w' a1 c1 D.xs a2 c2 D.ys b1 d1 ((⟨D.t,D.cm,D.so,D.xs,D.ys,q⟩,true):DV × Bool).1.xs b2 d2 ((⟨D.t,D.cm,D.so,D.xs,D.ys,q⟩,true):DV × Bool).1.ys∧Below w.heap.size w w':=by
 have h4:=l8Store_4 D.t D.cm D.so a1 D.xs.length c1 a2 D.ys.length c2 D.ir x w
 rw [hq] at h4
 exact h4.mono fun e w' h=>⟨a1,c1,a2,c2,h.1,Renew.same _ _ _ _ _ _ _ _,h.2⟩

theorem l8Store_own (D:DV) (a1:Option Addr) (c1:Nat) (a2:Option Addr) (c2:Nat) (addr size x:Int) (B E:Nat) (w:World) (h2:D.ys.length≤4096) (hBE:B≤E) (hE:E≤w.heap.size) (hf:Fam B E w (devF a1 D.xs.length c1 D.xs a2 D.ys.length c2 D.ys)) :
 Calls Tryz.prog 82 #[.agg #[.int .u64 D.t,.int .u64 D.cm,.bool D.so,.slice a1 D.xs.length c1,.slice a2 D.ys.length c2,.int .i64 D.ir],.int .u64 addr,.int .i64 size,.int .u64 x] w fun e w'=>∃ (b1:Option Addr) (d1:Nat) (b2:Option Addr) (d2:Nat),e=.returned (.tuple #[.agg (dvc (stV D x (sel addr size)).1 b1 d1 b2 d2),.bool (stV D x (sel addr size)).2])∧Renew w w' a1 c1 D.xs a2 c2 D.ys b1 d1 (stV D x (sel addr size)).1.xs b2 d2 (stV D x (sel addr size)).1.ys∧Below w.heap.size w w':=by
 refine sel_cases addr size (fun k=>Calls Tryz.prog 82 #[.agg #[.int .u64 D.t,.int .u64 D.cm,.bool D.so,.slice a1 D.xs.length c1,.slice a2 D.ys.length c2,.int .i64 D.ir],.int .u64 addr,.int .i64 size,.int .u64 x] w fun e w'=>∃ (b1:Option Addr) (d1:Nat) (b2:Option Addr) (d2:Nat),e=.returned (.tuple #[.agg (dvc (stV D x k).1 b1 d1 b2 d2),.bool (stV D x k).2])∧Renew w w' a1 c1 D.xs a2 c2 D.ys b1 d1 (stV D x k).1.xs b2 d2 (stV D x k).1.ys∧Below w.heap.size w w') ?_ ?_ ?_ ?_ ?_ ?_ ?_
 ·rintro rfl rfl
  rw [stV_0]
  exact (l8Store_0 D.t D.cm D.so a1 _ c1 a2 _ c2 D.ir x w).mono fun e w' h=>⟨a1,c1,a2,c2,h.1,Renew.same _ _ _ _ _ _ _ _,h.2⟩
 ·rintro rfl rfl
  rw [stV_1]
  exact (l8Store_1 D.t D.cm D.so a1 _ c1 a2 _ c2 D.ir x w).mono fun e w' h=>⟨a1,c1,a2,c2,h.1,Renew.same _ _ _ _ _ _ _ _,h.2⟩
 ·rintro rfl rfl
  rw [stV_2]
  exact (l8Store_2 D.t D.cm D.so a1 _ c1 a2 _ c2 D.ir x w).mono fun e w' h=>⟨a1,c1,a2,c2,h.1,Renew.same _ _ _ _ _ _ _ _,h.2⟩
 ·rintro rfl rfl
  by_cases hl:D.ys.length < 4096
  ·rw [stV_3r D x hl]
   refine (l8Store_3n D.t D.cm D.so a1 _ c1 a2 _ c2 D.ir x D.xs D.ys B E w rfl hl hBE hE hf).mono fun e w' h=>?_
   obtain ⟨f1,g1,h1,h2,h3⟩:=h
   have el:(D.ys ++ [IntKind.u8.wrap x]).length=D.ys.length+1:=by rw [List.length_append];rfl
   refine ⟨a1,c1,f1,g1,?_,.inr (.inr (.inl ⟨⟨rfl,rfl,rfl⟩,?_⟩)),h3⟩
   ·rw [h1]
    dsimp only [dvc]
    rw [el]
   ·dsimp only
    rw [el]
    exact h2
  ·rw [stV_3f D x hl]
   exact (l8Store_3f D.t D.cm D.so a1 _ c1 a2 _ c2 D.ir x hl h2 w).mono fun e w' h=>⟨a1,c1,a2,c2,h.1,Renew.same _ _ _ _ _ _ _ _,h.2⟩
 ·rintro rfl rfl
  rw [stV_4]
  exact l8Store_4n D a1 c1 a2 c2 x w _ rfl
 ·rintro rfl rfl
  rw [stV_5]
  exact (l8Store_5 D.t D.cm D.so a1 _ c1 a2 _ c2 D.ir x w).mono fun e w' h=>⟨a1,c1,a2,c2,h.1,Renew.same _ _ _ _ _ _ _ _,h.2⟩
 ·intro k0 k1 k2 k3 k4 k5
  rw [stV_6]
  exact (l8Store_6 D.t D.cm D.so a1 _ c1 a2 _ c2 D.ir x addr size k0 k1 k2 k3 k4 k5 w).mono fun e w' h=>⟨none,0,none,0,h.1,.inr (.inr (.inr (fam_zero _ _ _))),h.2⟩

end Go.Proofs.YtbajeckeeekhnaaGreat
