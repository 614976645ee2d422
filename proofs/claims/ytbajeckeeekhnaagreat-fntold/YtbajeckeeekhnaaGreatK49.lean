/- Own lemmas. -/
import Derived.Test.YtbajeckeeekhnaaGreatK09
import Derived.Test.YtbajeckeeekhnaaGreatK14
import Derived.Test.YtbajeckeeekhnaaGreatK48
import Derived.Deep.Cut
import Derived.Deep.RegionHeld3
namespace Go.Proofs.YtbajeckeeekhnaaGreat
open Go.RowKit
set_option linter.unusedVariables false

structure Ma (M:MV):Prop where
 len:MLen M
 ux:∀ j,U (M.x.getD j 0)
 ucs:∀ j,U (M.cs.getD j 0)
 bram:∀ y ∈ M.ram,(Lit.int .u8 y).wf=true
 d:FitsA M.d
 pc:U M.pc
 hd:U M.hd
 pos:0 < M.x.length∧0 < M.ram.length

theorem Mf.pos {M:MV} (h:Mf M):1 < M.x.length∧1 < M.ram.length:=by
 have:=h.x
 have:=h.ram
 omega

theorem Mf.any {M:MV} (h:Mf M):Ma M:=⟨h.len,h.ux,h.ucs,h.bram,h.d.any,h.pc,h.hd,by have:=h.pos;omega⟩

theorem Dm.outQ {w0:World} {g:Nat} {a:Option Addr} {n cap:Nat} {w:World} {m:Nat} {M:MV} {A:MA} {wr:World} (h:Dm w0 g a n cap w w.heap.size m M A wr) (i:Nat) (v x0 x1 x2 x3 x4 x5 x6 x7 x8 x9 x10 x11 x12 x13:Value):Fam w.heap.size (put14 (wr.setCell ⟨m,i,none⟩ v) w.heap.size x0 x1 x2 x3 x4 x5 x6 x7 x8 x9 x10 x11 x12 x13).heap.size (put14 (wr.setCell ⟨m,i,none⟩ v) w.heap.size x0 x1 x2 x3 x4 x5 x6 x7 x8 x9 x10 x11 x12 x13) (mvF M A)∧Cs w0 g a n cap w (put14 (wr.setCell ⟨m,i,none⟩ v) w.heap.size x0 x1 x2 x3 x4 x5 x6 x7 x8 x9 x10 x11 x12 x13):=by
 have hlo:=h.mp.lo
 have hb0:Below w.heap.size wr (wr.setCell ⟨m,i,none⟩ v):=⟨rfl,rfl,rfl,by rw [size_set];exact Nat.le_refl _,fun k hk=>Below.heap_setCell _ _ _ k (by show k≠m;omega)⟩
 have hb:Below w.heap.size wr (put14 (wr.setCell ⟨m,i,none⟩ v) w.heap.size x0 x1 x2 x3 x4 x5 x6 x7 x8 x9 x10 x11 x12 x13):=below_put14 hb0 (Nat.le_refl _) x0 x1 x2 x3 x4 x5 x6 x7 x8 x9 x10 x11 x12 x13
 generalize hW:put14 (wr.setCell ⟨m,i,none⟩ v) w.heap.size x0 x1 x2 x3 x4 x5 x6 x7 x8 x9 x10 x11 x12 x13=W at hb ⊢
 have hg:=h.gr
 have h0:=h.w0w
 obtain ⟨i,hh,hi,hrow⟩:=h.cu.1.row
 refine ⟨?_,⟨⟨h.cu.1.new,?_,i,hh,hi,(hb.block g hg).trans hrow⟩,⟨hb.os.trans h.cu.2.os,hb.tape.trans h.cu.2.tape,hb.output.trans h.cu.2.output,Nat.le_trans h.cu.2.size hb.size,fun k hk hne=>(hb.block k hk).trans (h.cu.2.block k hk hne)⟩⟩⟩
 ·have hf:Fam (w.heap.size+1) wr.heap.size W (mvF M A):=by
   refine ⟨fun r hr=>fown_of (h.mp.fam.own r hr) (fun k e=>?_),h.mp.fam.hi,h.mp.fam.ne⟩
   have hk:k≠w.heap.size:=fun e2=>by have:=(h.mp.fam.own r hr).lt _ e;omega
   have hk2:k≠m:=fun e2=>h.mp.ne r hr (by rw [← e2];exact e)
   rw [← hW]
   unfold put14
   repeat rw [Below.heap_setCell _ _ _ k hk]
   exact Below.heap_setCell _ _ _ k hk2
  exact hf.low (by omega) hb.size
 ·exact ⟨hb.os.trans h.cu.1.below.os,hb.tape.trans h.cu.1.below.tape,hb.output.trans h.cu.1.below.output,Nat.le_trans h.cu.1.below.size hb.size,fun k hk=>(hb.block k (by omega)).trans (h.cu.1.below.block k hk)⟩

theorem Dm.outR {w0:World} {g:Nat} {a:Option Addr} {n cap:Nat} {w:World} {m:Nat} {M:MV} {A:MA} {wr:World} (h:Dm w0 g a n cap w w.heap.size m M A wr) (i:Nat) (v:Value) (cs:Array Value):Fam w.heap.size ((wr.setCell ⟨m,i,none⟩ v).setRow w.heap.size cs).heap.size ((wr.setCell ⟨m,i,none⟩ v).setRow w.heap.size cs) (mvF M A)∧Cs w0 g a n cap w ((wr.setCell ⟨m,i,none⟩ v).setRow w.heap.size cs):=by
 have hlo:=h.mp.lo
 have hb0:Below w.heap.size wr (wr.setCell ⟨m,i,none⟩ v):=⟨rfl,rfl,rfl,by rw [size_set];exact Nat.le_refl _,fun k hk=>Below.heap_setCell _ _ _ k (by show k≠m;omega)⟩
 have hb:Below w.heap.size wr ((wr.setCell ⟨m,i,none⟩ v).setRow w.heap.size cs):=row_below hb0 (Nat.le_refl _) cs
 have hg:=h.gr
 have h0:=h.w0w
 obtain ⟨i',hh,hi,hrow⟩:=h.cu.1.row
 refine ⟨?_,⟨⟨h.cu.1.new,?_,i',hh,hi,(hb.block g hg).trans hrow⟩,⟨hb.os.trans h.cu.2.os,hb.tape.trans h.cu.2.tape,hb.output.trans h.cu.2.output,Nat.le_trans h.cu.2.size hb.size,fun k hk hne=>(hb.block k hk).trans (h.cu.2.block k hk hne)⟩⟩⟩
 ·have hf:Fam (w.heap.size+1) wr.heap.size ((wr.setCell ⟨m,i,none⟩ v).setRow w.heap.size cs) (mvF M A):=by
   refine ⟨fun r hr=>fown_of (h.mp.fam.own r hr) (fun k e=>?_),h.mp.fam.hi,h.mp.fam.ne⟩
   have hk:k≠w.heap.size:=fun e2=>by have:=(h.mp.fam.own r hr).lt _ e;omega
   have hk2:k≠m:=fun e2=>h.mp.ne r hr (by rw [← e2];exact e)
   exact (setRow_other _ _ _ _ hk).trans (Below.heap_setCell _ _ _ k hk2)
  exact hf.low (by omega) hb.size
 ·exact ⟨hb.os.trans h.cu.1.below.os,hb.tape.trans h.cu.1.below.tape,hb.output.trans h.cu.1.below.output,Nat.le_trans h.cu.1.below.size hb.size,fun k hk=>(hb.block k (by omega)).trans (h.cu.1.below.block k hk)⟩

theorem Dm.atR {w0:World} {g:Nat} {a:Option Addr} {n cap:Nat} {w:World} {r m:Nat} {M:MV} {A:MA} {wr:World} (h:Dm w0 g a n cap w r m M A wr):∃ b c,A.ar=some ⟨b,0,none⟩∧A.cr=c∧wr.cell? ⟨m,4,none⟩=some (.slice (some ⟨b,0,none⟩) M.ram.length c)∧M.ram.length≤c:=by
 have ho:=h.mp.fam.own (bRow A.ar M.ram.length A.cr M.ram) (by simp [mvF])
 have hn:0 < M.ram.length:=by rcases h.fit.ram with e | e<;>omega
 rcases ho.2 with ⟨h1,h2⟩ | ⟨b,c,cur,h1,_,_,h3,h4,_⟩
 ·simp only [bRow] at h2;omega
 ·simp only [bRow] at h1 h3
  injection h1 with e1 e2 e3
  refine ⟨b,c,e1,e3,?_,h3⟩
  have:=row_cell h.mp.row 4
  rw [show (mvc M A)[4]?=some (.slice A.ar M.ram.length A.cr) from rfl] at this
  rw [e1,e3] at this
  exact this

theorem Dm.capX {w0:World} {g:Nat} {a:Option Addr} {n cap:Nat} {w:World} {r m:Nat} {M:MV} {A:MA} {wr:World} (h:Dm w0 g a n cap w r m M A wr):32≤A.cx:=by
 have ho:=h.mp.fam.own (wRow A.ax M.x.length A.cx M.x) (by simp [mvF])
 have hn:=h.fit.x
 rcases ho.2 with ⟨h1,h2⟩ | ⟨b,c,cur,h1,_,_,h3,h4,_⟩
 ·simp only [wRow] at h2;omega
 ·simp only [wRow] at h1 h3
  injection h1 with e1 e2 e3
  omega

theorem sl_tail {k:IntKind} {w:World} {b:Nat} {zs:List Int} (h:Sl k w (some ⟨b,0,none⟩) zs):Sl k w (some ⟨b,1,none⟩) zs.tail:=by
 intro i hi
 rw [List.length_tail] at hi
 obtain ⟨b',o',e,h1,h2⟩:=h (i+1) (by omega)
 cases e
 refine ⟨b,1,rfl,h1,?_⟩
 rw [show zs.tail.getD i 0=zs.getD (i+1) 0 from by cases zs<;>simp]
 rw [show 1+i=0+(i+1) from by omega]
 exact h2

def cutX (M:MV):MV:=⟨M.pc,M.x.tail,M.pr,M.cs,M.ram,M.d,M.hd,M.hl,M.wt⟩

def cutR (M:MV):MV:=⟨M.pc,M.x,M.pr,M.cs,M.ram.tail,M.d,M.hd,M.hl,M.wt⟩

def badPr (M:MV):MV:=⟨M.pc,M.x,2,M.cs,M.ram,M.d,M.hd,M.hl,M.wt⟩

def slX (A:MA) (b:Nat):MA:=⟨some ⟨b,1,none⟩,A.cx - 1,A.ac,A.cc,A.ar,A.cr,A.ai,A.ci,A.ao,A.co⟩

def slR (A:MA) (b:Nat):MA:=⟨A.ax,A.cx,A.ac,A.cc,some ⟨b,1,none⟩,A.cr - 1,A.ai,A.ci,A.ao,A.co⟩

def MNew (B:Nat) (A:MA):Prop:=∀ p,(p=A.ax∨p=A.ac∨p=A.ar∨p=A.ai∨p=A.ao)→∀ b off,p=some ⟨b,off,none⟩→B≤b

theorem own_from {B:Nat} {w:World} {t:TypeId} {p:Option Addr} {n c:Nat} {xs:List Value} (h:w.ownsRow B t 1 (.slice p n c) n xs) {b off:Nat} (hp:p=some ⟨b,off,none⟩):B≤b:=by
 subst hp
 rcases h.2 with ⟨h1,h2⟩ | ⟨g,cap,cur,h1,hg,_⟩
 ·cases h1
 ·cases h1;exact hg

theorem fam_from {B E:Nat} {w:World} {M:MV} {A:MA} (h:Fam B E w (mvF M A)):MNew B A:=by
 intro p hp b off e
 rcases hp with rfl | rfl | rfl | rfl | rfl
 ·exact own_from (h.own (wRow A.ax M.x.length A.cx M.x) (by simp [mvF])) e
 ·exact own_from (h.own (wRow A.ac M.cs.length A.cc M.cs) (by simp [mvF])) e
 ·exact own_from (h.own (bRow A.ar M.ram.length A.cr M.ram) (by simp [mvF])) e
 ·exact own_from (h.own (bRow A.ai M.d.xs.length A.ci M.d.xs) (by simp [mvF])) e
 ·exact own_from (h.own (bRow A.ao M.d.ys.length A.co M.d.ys) (by simp [mvF])) e

theorem new_slX {B:Nat} {A:MA} {b:Nat} (h:MNew B A) (e:A.ax=some ⟨b,0,none⟩):MNew B (slX A b):=by
 intro p hp b' off hp2
 rcases hp with rfl | rfl | rfl | rfl | rfl
 ·have e2:b=b':=by have h3:some (⟨b,1,none⟩:Addr)=some ⟨b',off,none⟩:=hp2;injection h3 with h4;injection h4
  rw [← e2];exact h A.ax (Or.inl rfl) b 0 e
 ·exact h A.ac (Or.inr (Or.inl rfl)) b' off hp2
 ·exact h A.ar (Or.inr (Or.inr (Or.inl rfl))) b' off hp2
 ·exact h A.ai (Or.inr (Or.inr (Or.inr (Or.inl rfl)))) b' off hp2
 ·exact h A.ao (Or.inr (Or.inr (Or.inr (Or.inr rfl)))) b' off hp2

theorem new_slR {B:Nat} {A:MA} {b:Nat} (h:MNew B A) (e:A.ar=some ⟨b,0,none⟩):MNew B (slR A b):=by
 intro p hp b' off hp2
 rcases hp with rfl | rfl | rfl | rfl | rfl
 ·exact h A.ax (Or.inl rfl) b' off hp2
 ·exact h A.ac (Or.inr (Or.inl rfl)) b' off hp2
 ·have e2:b=b':=by have h3:some (⟨b,1,none⟩:Addr)=some ⟨b',off,none⟩:=hp2;injection h3 with h4;injection h4
  rw [← e2];exact h A.ar (Or.inr (Or.inr (Or.inl rfl))) b 0 e
 ·exact h A.ai (Or.inr (Or.inr (Or.inr (Or.inl rfl)))) b' off hp2
 ·exact h A.ao (Or.inr (Or.inr (Or.inr (Or.inr rfl)))) b' off hp2

theorem getD_tail (l:List Int) (j:Nat):l.tail.getD j 0=l.getD (j+1) 0:=by cases l<;>simp

theorem cutX_ok {M:MV} (h:Mf M):Ma (cutX M)∧machB (cutX M)=false:=by
 refine ⟨⟨⟨by show M.x.tail.length≤_;rw [List.length_tail,h.x];omega,h.len.cs,h.len.ram,h.len.xs,h.len.ys⟩,fun j=>by show U (M.x.tail.getD j 0);rw [getD_tail];exact h.ux _,h.ucs,h.bram,h.d.any,h.pc,h.hd,by have:=h.pos;show 0 < M.x.tail.length∧_;rw [List.length_tail];exact ⟨by omega,by show 0 < M.ram.length;omega⟩⟩,?_⟩
 have:regsB (cutX M).x.length (cutX M).x=false:=by
  unfold regsB
  have e:(cutX M).x.length=31:=by show M.x.tail.length=31;rw [List.length_tail,h.x]
  simp [e]
 unfold machB
 rw [this];simp

theorem badPr_ok {M:MV} (h:Mf M):Ma (badPr M)∧machB (badPr M)=false:=by
 refine ⟨⟨⟨h.len.x,h.len.cs,h.len.ram,h.len.xs,h.len.ys⟩,h.ux,h.ucs,h.bram,h.d.any,h.pc,h.hd,h.any.pos⟩,?_⟩
 have:legalB (badPr M).cs.length (badPr M).cs (badPr M).pr=false:=by
  unfold legalB
  rw [show privB (badPr M).pr=false from rfl,Bool.and_false]
 unfold machB
 rw [this];simp

theorem cutR_ok {M:MV} (h:Mf M):Ma (cutR M)∧machB (cutR M)=false:=by
 refine ⟨⟨⟨h.len.x,h.len.cs,by show M.ram.tail.length≤_;rw [List.length_tail];have:=h.len.ram;omega,h.len.xs,h.len.ys⟩,h.ux,h.ucs,fun y hy=>h.bram y (List.mem_of_mem_tail hy),h.d.any,h.pc,h.hd,by have:=h.pos;show _∧0 < M.ram.tail.length;rw [List.length_tail];exact ⟨by show 0 < M.x.length;omega,by omega⟩⟩,?_⟩
 have:ramOkB (cutR M).ram.length=false:=by
  have e:(cutR M).ram.length=4095∨(cutR M).ram.length=8191:=by
   show M.ram.tail.length=_∨M.ram.tail.length=_
   rw [List.length_tail];rcases h.ram with e | e<;>rw [e]<;>simp
  rcases e with e | e<;>rw [e]<;>decide
 unfold machB
 rw [this];simp

set_option maxRecDepth 100000 in
set_option maxHeartbeats 12800000 in
theorem l9DrawAny_c {w0:World} {g:Nat} {a:Option Addr} {n cap:Nat} {zs:List Int} (hcd:Code w0 a n zs) (w:World) (hc:Cur w0 w g a n cap) :
 Calls Tryz.prog 10 #[.pointer (some ⟨g,0,none⟩)] w fun e w'=>∃ (M:MV) (A:MA),e=.returned (.agg (mvc M A))∧Hid (Ma M)∧Hid (MSl w' M A)∧Hid (machB M=true→Fam w.heap.size w'.heap.size w' (mvF M A))∧Hid (MNew w.heap.size A)∧Hid (Cs w0 g a n cap w w'):=by
 have HD:Hid (Code w0 a n zs):=hcd
 have HC:=dhid hc
 have hgl:=hc.lt
 have hw0:=hc.below.size
 clear hcd hc
 go_enter Tryz.func10,Tryz.ntmps10
 go_wp2_with fail
 refine (l9Draw_c HD.out _ (Cs.alloc HC.out _).1).mono ?_
 rintro e w1 ⟨M,A,rfl,hf,hfam,hs1⟩
 have RR1:=dhid (hs1.out.keep (heap_alloc_new w (.cells #[.int .u64 0,.slice none 0 0,.int .i64 0,.slice none 0 0,.slice none 0 0,.int .u64 0,.int .u64 0,.bool false,.slice none 0 0,.slice none 0 0,.int .i64 0,.int .u64 0,.bool false,.bool false] 29)) (Nat.ne_of_gt hgl))
 have C1:=dhid ((Cs.alloc HC.out _).trans hs1.out)
 have FM1:=dhid hfam.out
 rw [World.size_alloc] at FM1
 have D2:Hid (Dm w0 g a n cap w w.heap.size w1.heap.size M A (w1.alloc (.cells (mvc M A) 29))):=by
  have hb:=(Below.refl w1.heap.size w1).alloc (Nat.le_refl _) (.cells (mvc M A) 29)
  refine ⟨C1.out.trans (Cs.of_below C1.out.1 hb),(dstays hb RR1.out),⟨heap_alloc_new _ _,(FM1.out.below hb).low (Nat.le_refl _) (by simp),fun q hq e=>by have:=FM1.out.hi q hq _ e;omega,by have:=(Array.getElem?_eq_some_iff.1 RR1.out).1;omega⟩,hf.out,hgl,Nat.le_refl _,hw0⟩
 clear hf hfam hs1 RR1 C1 FM1 HC
 dsimp only [mvc] at D2 ⊢
 go_wp2_with fail
 obtain ⟨m,hm⟩:∃ m,m=w1.heap.size:=⟨_,rfl⟩
 obtain ⟨w2,hw2⟩:∃ W,W=w1.alloc (.cells #[.int .u64 M.pc,.slice A.ax M.x.length A.cx,.int .i64 M.pr,.slice A.ac M.cs.length A.cc,.slice A.ar M.ram.length A.cr,.int .u64 M.d.t,.int .u64 M.d.cm,.bool M.d.so,.slice A.ai M.d.xs.length A.ci,.slice A.ao M.d.ys.length A.co,.int .i64 M.d.ir,.int .u64 M.hd,.bool M.hl,.bool M.wt] 29):=⟨_,rfl⟩
 rw [← hm,← hw2] at D2
 rw [← hm,← hw2]
 clear hm hw2
 refine (l1Once_c HD.out 20 (by omega) _ D2.out.cur).mono ?_
 rintro e w3 ⟨c3,rfl,hs3⟩
 have D3:=dhid (D2.out.next hs3.out)
 clear hs3 D2
 cases c3
 ·have RM:=dhid D3.out.mp.row
  have RR:=dhid D3.out.res
  have OUT:=dhid (fun x0 x1 x2 x3 x4 x5 x6 x7 x8 x9 x10 x11 x12 x13=>D3.out.outP x0 x1 x2 x3 x4 x5 x6 x7 x8 x9 x10 x11 x12 x13)
  have NM:=dhid (show ¬ m=w.heap.size from fun e=>by have:=D3.out.mp.lo;omega)
  have FT:=dhid D3.out.fit
  clear D3
  obtain ⟨a0,a1,a2,a3,a4,a5,a6,a7,a8,a9,a10,a11,a12,a13⟩:=cells14 RM.out
  obtain ⟨s0,s1,s2,s3,s4,s5,s6,s7,s8,s9,s10,s11,s12,s13⟩:=cells14 RR.out
  obtain ⟨y0,y1,y2,y3,y4,y5,y6,y7,y8,y9,y10,y11,y12,y13⟩:=froz14 RR.out
  have nd1:¬ m=w.heap.size:=NM.out
  have nd2:¬ w.heap.size=m:=fun e=>NM.out e.symm
  clear RM NM
  go_wp2_with fail
  exact bodyPost_ret (results_cell_row Tryz.results10 _ _ _ _ _ _ _ rfl (row_put14 RR.out (.int .u64 M.pc) (.slice A.ax M.x.length A.cx) (.int .i64 M.pr) (.slice A.ac M.cs.length A.cc) (.slice A.ar M.ram.length A.cr) (.int .u64 M.d.t) (.int .u64 M.d.cm) (.bool M.d.so) (.slice A.ai M.d.xs.length A.ci) (.slice A.ao M.d.ys.length A.co) (.int .i64 M.d.ir) (.int .u64 M.hd) (.bool M.hl) (.bool M.wt)) Tryz.underlying29 rfl mac_size) rfl ⟨M,A,rfl,dhid FT.out.any,dhid (OUT.out _ _ _ _ _ _ _ _ _ _ _ _ _ _ ).1.msl,dhid (fun _=>(OUT.out _ _ _ _ _ _ _ _ _ _ _ _ _ _ ).1),dhid (fam_from (OUT.out undef undef undef undef undef undef undef undef undef undef undef undef undef undef ).1),dhid (OUT.out _ _ _ _ _ _ _ _ _ _ _ _ _ _ ).2⟩
 ·go_wp2_with fail
  refine (l1Below_c HD.out 7 (by omega) _ D3.out.cur).mono ?_
  rintro e w4 ⟨k,rfl,⟨hk0,hk1⟩,hs4⟩
  have D4:=dhid (D3.out.next hs4.out)
  clear hs4 D3
  obtain rfl | rfl | rfl | rfl | rfl | rfl | rfl:k=0∨k=1∨k=2∨k=3∨k=4∨k=5∨k=6:=by omega
  ·obtain ⟨Pd,hPd⟩:∃ Pd:World→Prop,Pd=fun w'=>Dm w0 g a n cap w w.heap.size m M A w':=⟨_,rfl⟩
   have PO:Hid (∀ w',Pd w'→Dm w0 g a n cap w w.heap.size m M A w'):=by rw [hPd];exact fun w' h=>h
   have PN:Hid (∀ w',Pd w'→Pd w'.drew):=by rw [hPd];exact fun w' h=>h.below (Below.refl _ _).drew
   have p4:Pd w4:=by rw [hPd];exact D4.out
   clear D4
   have HBL:Hid (∀ w',Pd w'→Calls Tryz.prog 21 #[.pointer (some ⟨g,0,none⟩),.int .i64 4] w' fun e w''=>∃ y:Int,e=.returned (.int .i64 y)∧(0≤y∧y < 4)∧Pd w''):=fun w' h=>by
    rw [hPd] at h ⊢
    exact (l1Below_c HD.out 4 (by omega) w' h.cur).mono fun e w'' ⟨y,h1,h2,h3⟩=>⟨y,h1,h2,h.next h3.out⟩
   have PC:Hid (∀ w',Pd w'→w'.cell? ⟨m,0,none⟩=some (.int .u64 M.pc)∧Pd w'):=fun w' h=>⟨row_cell (PO.out w' h).mp.row 0,h⟩
   clear hPd
   go_wp2_with fail
   refine wp_region_K 7 (fun w'=>w'.cell? ⟨m,0,none⟩=some (.int .u64 M.pc)∧Pd w') (by kernel_rfl) (PC.out _ (PN.out _ p4)) (fun hHeld=>?_)
   refine wpAnyK_take (i:=0) (oi:={ dst:=some 12,op:=_,type:=_,pos:=_,after:=_,guard:=_ }) (v:=.pointer (some ⟨m,0,none⟩)) rfl (by kernel_rfl) (by kernel_rfl) (by kernel_rfl) (by kernel_rfl) (fun _ _ _ h=>h) (Or.inl ⟨by rfl,?_⟩) (by assumption) ?_
   ·intro w' hSw
    go_simp
   simp only [Act.put,List.setIfInBounds_toArray,List.set_cons_zero,List.set_cons_succ]
   refine wpAnyK_take (i:=1) (oi:={ dst:=some 13,op:=_,type:=_,pos:=_,after:=_,guard:=_ }) (v:=.int .u64 M.pc) rfl (by kernel_rfl) (by kernel_rfl) (by kernel_rfl) (by kernel_rfl) (fun _ _ _ h=>h) (Or.inl ⟨by rfl,?_⟩) (by assumption) ?_
   ·intro w' hSw
    go_simp
   simp only [Act.put,List.setIfInBounds_toArray,List.set_cons_zero,List.set_cons_succ]
   refine wpAnyK_take (i:=2) (oi:={ dst:=some 14,op:=_,type:=_,pos:=_,after:=_,guard:=_ }) (v:=.pointer (some ⟨g,0,none⟩)) rfl (by kernel_rfl) (by kernel_rfl) (by kernel_rfl) (by kernel_rfl) (fun _ _ _ h=>h) (Or.inl ⟨by rfl,?_⟩) (by assumption) ?_
   ·intro w' hSw
    go_simp
   simp only [Act.put,List.setIfInBounds_toArray,List.set_cons_zero,List.set_cons_succ]
   refine wpAnyK_one (i:=3) (o:={ dst:=some 15,op:=_,type:=_,pos:=_,after:=_,guard:=_ }) rfl (by kernel_rfl) (by decide) (fun K hK=>?_)
   go_simp
   refine (HBL.out _ (PN.out _ p4)).mono ?_
   rintro e w5 ⟨y,rfl,⟨hy0,hy1⟩,p5⟩
   refine hK.out _ _ (PC.out _ p5) (fun hHeld=>?_)
   clear hK
   refine wpAnyK_take (i:=4) (oi:={ dst:=some 16,op:=_,type:=_,pos:=_,after:=_,guard:=_ }) (v:=.int .u64 (IntKind.u64.wrap y)) rfl (by kernel_rfl) (by kernel_rfl) (by kernel_rfl) (by kernel_rfl) (fun _ _ _ h=>h) (Or.inl ⟨by rfl,?_⟩) (by assumption) ?_
   ·intro w' hSw
    go_simp
   simp only [Act.put,List.setIfInBounds_toArray,List.set_cons_zero,List.set_cons_succ]
   refine wpAnyK_take (i:=5) (oi:={ dst:=some 17,op:=_,type:=_,pos:=_,after:=_,guard:=_ }) (v:=.int .u64 (IntKind.u64.wrap (M.pc+IntKind.u64.wrap y))) rfl (by kernel_rfl) (by kernel_rfl) (by kernel_rfl) (by kernel_rfl) (fun _ _ _ h=>h) (Or.inl ⟨by rfl,?_⟩) (by assumption) ?_
   ·intro w' hSw
    go_simp
   simp only [Act.put,List.setIfInBounds_toArray,List.set_cons_zero,List.set_cons_succ]
   refine wpAnyK_take (i:=6) (oi:={ dst:=some 18,op:=_,type:=_,pos:=_,after:=_,guard:=_ }) (v:=.pointer (some ⟨m,0,none⟩)) rfl (by kernel_rfl) (by kernel_rfl) (by kernel_rfl) (by kernel_rfl) (fun _ _ _ h=>h) (Or.inl ⟨by rfl,?_⟩) (by assumption) ?_
   ·intro w' hSw
    go_simp
   simp only [Act.put,List.setIfInBounds_toArray,List.set_cons_zero,List.set_cons_succ]
   have cf:=(PC.out _ p5).1
   have ff:=froz (PO.out _ p5).mp.row 0
   have D6:=dhid ((PO.out _ p5).setPc (IntKind.u64.wrap (M.pc+IntKind.u64.wrap y)) (U_wrap _))
   refine wpAnyK_end (o:={ dst:=none,op:=_,type:=_,pos:=_,after:=_,guard:=_ }) rfl (by kernel_rfl) (fun K hK=>?_)
   go_simp
   refine hK.out _ _ ?_
   clear hK
   refine wpAny_done (by kernel_rfl) ?_ _
   generalize w5.setCell ⟨m,0,none⟩ (.int .u64 (IntKind.u64.wrap (M.pc+IntKind.u64.wrap y)))=w6 at D6 ⊢
   clear cf ff p5 p4 PO PN PC HBL hHeld
   obtain ⟨M,D6⟩:∃ M:MV,Hid (Dm w0 g a n cap w w.heap.size m M A w6):=⟨_,D6⟩
   have RM:=dhid D6.out.mp.row
   have RR:=dhid D6.out.res
   have OUT:=dhid (fun x0 x1 x2 x3 x4 x5 x6 x7 x8 x9 x10 x11 x12 x13=>D6.out.outP x0 x1 x2 x3 x4 x5 x6 x7 x8 x9 x10 x11 x12 x13)
   have NM:=dhid (show ¬ m=w.heap.size from fun e=>by have:=D6.out.mp.lo;omega)
   have FT:=dhid D6.out.fit
   clear D6
   obtain ⟨a0,a1,a2,a3,a4,a5,a6,a7,a8,a9,a10,a11,a12,a13⟩:=cells14 RM.out
   obtain ⟨s0,s1,s2,s3,s4,s5,s6,s7,s8,s9,s10,s11,s12,s13⟩:=cells14 RR.out
   obtain ⟨y0,y1,y2,y3,y4,y5,y6,y7,y8,y9,y10,y11,y12,y13⟩:=froz14 RR.out
   have nd1:¬ m=w.heap.size:=NM.out
   have nd2:¬ w.heap.size=m:=fun e=>NM.out e.symm
   clear RM NM
   go_wp2_with fail
   exact bodyPost_ret (results_cell_row Tryz.results10 _ _ _ _ _ _ _ rfl (row_put14 RR.out (.int .u64 M.pc) (.slice A.ax M.x.length A.cx) (.int .i64 M.pr) (.slice A.ac M.cs.length A.cc) (.slice A.ar M.ram.length A.cr) (.int .u64 M.d.t) (.int .u64 M.d.cm) (.bool M.d.so) (.slice A.ai M.d.xs.length A.ci) (.slice A.ao M.d.ys.length A.co) (.int .i64 M.d.ir) (.int .u64 M.hd) (.bool M.hl) (.bool M.wt)) Tryz.underlying29 rfl mac_size) rfl ⟨M,A,rfl,dhid FT.out.any,dhid (OUT.out _ _ _ _ _ _ _ _ _ _ _ _ _ _ ).1.msl,dhid (fun _=>(OUT.out _ _ _ _ _ _ _ _ _ _ _ _ _ _ ).1),dhid (fam_from (OUT.out undef undef undef undef undef undef undef undef undef undef undef undef undef undef ).1),dhid (OUT.out _ _ _ _ _ _ _ _ _ _ _ _ _ _ ).2⟩
  ·obtain ⟨bx,cx,ea,ec,cm,cells⟩:=D4.out.atX
   clear cells
   have EC:=dhid ec
   obtain ⟨Pd,hPd⟩:∃ Pd:World→Prop,Pd=fun w'=>Dm w0 g a n cap w w.heap.size m M A w':=⟨_,rfl⟩
   have PO:Hid (∀ w',Pd w'→Dm w0 g a n cap w w.heap.size m M A w'):=by rw [hPd];exact fun w' h=>h
   have PN:Hid (∀ w',Pd w'→Pd w'.drew):=by rw [hPd];exact fun w' h=>h.below (Below.refl _ _).drew
   have p4:Pd w4:=by rw [hPd];exact D4.out
   clear D4
   have HBL:Hid (∀ w',Pd w'→Calls Tryz.prog 21 #[.pointer (some ⟨g,0,none⟩),.int .i64 2] w' fun e w''=>∃ y:Int,e=.returned (.int .i64 y)∧(0≤y∧y < 2)∧Pd w''):=fun w' h=>by
    rw [hPd] at h ⊢
    exact (l1Below_c HD.out 2 (by omega) w' h.cur).mono fun e w'' ⟨y,h1,h2,h3⟩=>⟨y,h1,h2,h.next h3.out⟩
   have PC:Hid (∀ w',Pd w'→w'.cell? ⟨m,1,none⟩=some (.slice (some ⟨bx,0,none⟩) 32 cx)∧Pd w'):=fun w' h=>⟨by obtain ⟨b',c',e1,e2,e3,_⟩:=(PO.out w' h).atX;rw [ea] at e1;cases e1;rw [EC.out] at e2;rw [e2];exact e3,h⟩
   have PF:Hid (∀ w',Pd w'→(∃ v:Int,w'.cell? ⟨bx,0,none⟩=some (.int .u64 v))∧w'.frozen? ⟨bx,0,none⟩=false):=fun w' h=>by
    obtain ⟨b',c',e1,_,_,k⟩:=(PO.out w' h).atX
    rw [ea] at e1;cases e1
    exact ⟨⟨_,(k 0 (by omega)).1⟩,(k 0 (by omega)).2⟩
   have EA:=dhid ea
   clear hPd ea ec cm EC
   go_wp2_with fail
   refine wp_region_K 6 (fun w'=>w'.cell? ⟨m,1,none⟩=some (.slice (some ⟨bx,0,none⟩) 32 cx)∧Pd w') (by kernel_rfl) (PC.out _ (PN.out _ p4)) (fun hHeld=>?_)
   refine wpAnyK_take (i:=0) (oi:={ dst:=some 21,op:=_,type:=_,pos:=_,after:=_,guard:=_ }) (v:=.pointer (some ⟨m,1,none⟩)) rfl (by kernel_rfl) (by kernel_rfl) (by kernel_rfl) (by kernel_rfl) (fun _ _ _ h=>h) (Or.inl ⟨by rfl,?_⟩) (by assumption) ?_
   ·intro w' hSw
    go_simp
   simp only [Act.put,List.setIfInBounds_toArray,List.set_cons_zero,List.set_cons_succ]
   refine wpAnyK_take (i:=1) (oi:={ dst:=some 22,op:=_,type:=_,pos:=_,after:=_,guard:=_ }) (v:=.slice (some ⟨bx,0,none⟩) 32 cx) rfl (by kernel_rfl) (by kernel_rfl) (by kernel_rfl) (by kernel_rfl) (fun _ _ _ h=>h) (Or.inl ⟨by rfl,?_⟩) (by assumption) ?_
   ·intro w' hSw
    go_simp
   simp only [Act.put,List.setIfInBounds_toArray,List.set_cons_zero,List.set_cons_succ]
   refine wpAnyK_take (i:=2) (oi:={ dst:=some 23,op:=_,type:=_,pos:=_,after:=_,guard:=_ }) (v:=.pointer (some ⟨g,0,none⟩)) rfl (by kernel_rfl) (by kernel_rfl) (by kernel_rfl) (by kernel_rfl) (fun _ _ _ h=>h) (Or.inl ⟨by rfl,?_⟩) (by assumption) ?_
   ·intro w' hSw
    go_simp
   simp only [Act.put,List.setIfInBounds_toArray,List.set_cons_zero,List.set_cons_succ]
   refine wpAnyK_one (i:=3) (o:={ dst:=some 24,op:=_,type:=_,pos:=_,after:=_,guard:=_ }) rfl (by kernel_rfl) (by decide) (fun K hK=>?_)
   go_simp
   refine (HBL.out _ (PN.out _ p4)).mono ?_
   rintro e w5 ⟨y,rfl,⟨hy0,hy1⟩,p5⟩
   refine hK.out _ _ (PC.out _ p5) (fun hHeld=>?_)
   clear hK
   refine wpAnyK_take (i:=4) (oi:={ dst:=some 25,op:=_,type:=_,pos:=_,after:=_,guard:=_ }) (v:=.int .u64 (IntKind.u64.wrap y)) rfl (by kernel_rfl) (by kernel_rfl) (by kernel_rfl) (by kernel_rfl) (fun _ _ _ h=>h) (Or.inl ⟨by rfl,?_⟩) (by assumption) ?_
   ·intro w' hSw
    go_simp
   simp only [Act.put,List.setIfInBounds_toArray,List.set_cons_zero,List.set_cons_succ]
   refine wpAnyK_take (i:=5) (oi:={ dst:=some 26,op:=_,type:=_,pos:=_,after:=_,guard:=_ }) (v:=.pointer (some ⟨bx,0,none⟩)) rfl (by kernel_rfl) (by kernel_rfl) (by kernel_rfl) (by kernel_rfl) (fun _ _ _ h=>h) (Or.inl ⟨by rfl,?_⟩) (by assumption) ?_
   ·intro w' hSw
    go_simp
   simp only [Act.put,List.setIfInBounds_toArray,List.set_cons_zero,List.set_cons_succ]
   obtain ⟨⟨v,cv⟩,fv⟩:=PF.out _ p5
   have D6:=dhid ((PO.out _ p5).setX bx EA.out 0 (U_wrap y))
   refine wpAnyK_end (o:={ dst:=none,op:=_,type:=_,pos:=_,after:=_,guard:=_ }) rfl (by kernel_rfl) (fun K hK=>?_)
   go_simp
   refine hK.out _ _ ?_
   clear hK
   refine wpAny_done (by kernel_rfl) ?_ _
   generalize w5.setCell ⟨bx,0,none⟩ (.int .u64 (IntKind.u64.wrap y))=w6 at D6 ⊢
   clear cv fv p5 p4 PO PN PC PF HBL hHeld
   obtain ⟨M,D6⟩:∃ M:MV,Hid (Dm w0 g a n cap w w.heap.size m M A w6):=⟨_,D6⟩
   have RM:=dhid D6.out.mp.row
   have RR:=dhid D6.out.res
   have OUT:=dhid (fun x0 x1 x2 x3 x4 x5 x6 x7 x8 x9 x10 x11 x12 x13=>D6.out.outP x0 x1 x2 x3 x4 x5 x6 x7 x8 x9 x10 x11 x12 x13)
   have NM:=dhid (show ¬ m=w.heap.size from fun e=>by have:=D6.out.mp.lo;omega)
   have FT:=dhid D6.out.fit
   clear D6
   obtain ⟨a0,a1,a2,a3,a4,a5,a6,a7,a8,a9,a10,a11,a12,a13⟩:=cells14 RM.out
   obtain ⟨s0,s1,s2,s3,s4,s5,s6,s7,s8,s9,s10,s11,s12,s13⟩:=cells14 RR.out
   obtain ⟨y0,y1,y2,y3,y4,y5,y6,y7,y8,y9,y10,y11,y12,y13⟩:=froz14 RR.out
   have nd1:¬ m=w.heap.size:=NM.out
   have nd2:¬ w.heap.size=m:=fun e=>NM.out e.symm
   clear RM NM
   go_wp2_with fail
   exact bodyPost_ret (results_cell_row Tryz.results10 _ _ _ _ _ _ _ rfl (row_put14 RR.out (.int .u64 M.pc) (.slice A.ax M.x.length A.cx) (.int .i64 M.pr) (.slice A.ac M.cs.length A.cc) (.slice A.ar M.ram.length A.cr) (.int .u64 M.d.t) (.int .u64 M.d.cm) (.bool M.d.so) (.slice A.ai M.d.xs.length A.ci) (.slice A.ao M.d.ys.length A.co) (.int .i64 M.d.ir) (.int .u64 M.hd) (.bool M.hl) (.bool M.wt)) Tryz.underlying29 rfl mac_size) rfl ⟨M,A,rfl,dhid FT.out.any,dhid (OUT.out _ _ _ _ _ _ _ _ _ _ _ _ _ _ ).1.msl,dhid (fun _=>(OUT.out _ _ _ _ _ _ _ _ _ _ _ _ _ _ ).1),dhid (fam_from (OUT.out undef undef undef undef undef undef undef undef undef undef undef undef undef undef ).1),dhid (OUT.out _ _ _ _ _ _ _ _ _ _ _ _ _ _ ).2⟩
  ·obtain ⟨bx,cx,ea,ec,cm,cells⟩:=D4.out.atX
   clear cells
   have hcap:32≤cx:=by rw [← ec];exact D4.out.capX
   have hc1:¬ cx=1:=by omega
   have hc2:¬ cx - 1=0:=by omega
   have hc3:¬ cx≤1:=by omega
   have RM:Hid ((w4.setCell ⟨m,1,none⟩ (.slice (some ⟨bx,1,none⟩) 31 (cx - 1))).heap[m]?=some (.cells #[.int .u64 M.pc,.slice (some ⟨bx,1,none⟩) 31 (cx - 1),.int .i64 M.pr,.slice A.ac M.cs.length A.cc,.slice A.ar M.ram.length A.cr,.int .u64 M.d.t,.int .u64 M.d.cm,.bool M.d.so,.slice A.ai M.d.xs.length A.ci,.slice A.ao M.d.ys.length A.co,.int .i64 M.d.ir,.int .u64 M.hd,.bool M.hl,.bool M.wt] 29 (0,0))):=heap_setC D4.out.mp.row 1 _
   have RR:Hid ((w4.setCell ⟨m,1,none⟩ (.slice (some ⟨bx,1,none⟩) 31 (cx - 1))).heap[w.heap.size]?=some (.cells (mvc zeroM zeroA) 29 (0,0))):=(Below.heap_setCell _ _ _ _ (by show w.heap.size≠m;have:=D4.out.mp.lo;omega)).trans D4.out.res
   have OUT:=dhid (D4.out.outR 1 (.slice (some ⟨bx,1,none⟩) 31 (cx - 1)) #[.int .u64 M.pc,.slice (some ⟨bx,1,none⟩) 31 (cx - 1),.int .i64 M.pr,.slice A.ac M.cs.length A.cc,.slice A.ar M.ram.length A.cr,.int .u64 M.d.t,.int .u64 M.d.cm,.bool M.d.so,.slice A.ai M.d.xs.length A.ci,.slice A.ao M.d.ys.length A.co,.int .i64 M.d.ir,.int .u64 M.hd,.bool M.hl,.bool M.wt])
   have RZ:=dhid (setRow_heap _ w.heap.size _ #[.int .u64 M.pc,.slice (some ⟨bx,1,none⟩) 31 (cx - 1),.int .i64 M.pr,.slice A.ac M.cs.length A.cc,.slice A.ar M.ram.length A.cr,.int .u64 M.d.t,.int .u64 M.d.cm,.bool M.d.so,.slice A.ai M.d.xs.length A.ci,.slice A.ao M.d.ys.length A.co,.int .i64 M.d.ir,.int .u64 M.hd,.bool M.hl,.bool M.wt] _ _ RR.out)
   have FT:=dhid (cutX_ok D4.out.fit)
   have EQ:Hid (mvc (cutX M) (slX A bx)=#[.int .u64 M.pc,.slice (some ⟨bx,1,none⟩) 31 (cx - 1),.int .i64 M.pr,.slice A.ac M.cs.length A.cc,.slice A.ar M.ram.length A.cr,.int .u64 M.d.t,.int .u64 M.d.cm,.bool M.d.so,.slice A.ai M.d.xs.length A.ci,.slice A.ao M.d.ys.length A.co,.int .i64 M.d.ir,.int .u64 M.hd,.bool M.hl,.bool M.wt]):=by show mvc _ _=_;unfold mvc cutX slX;dsimp only;rw [List.length_tail,D4.out.fit.x,ec]
   have HO:Hid ((#[.int .u64 M.pc,.slice (some ⟨bx,1,none⟩) 31 (cx - 1),.int .i64 M.pr,.slice A.ac M.cs.length A.cc,.slice A.ar M.ram.length A.cr,.int .u64 M.d.t,.int .u64 M.d.cm,.bool M.d.so,.slice A.ai M.d.xs.length A.ci,.slice A.ao M.d.ys.length A.co,.int .i64 M.d.ir,.int .u64 M.hd,.bool M.hl,.bool M.wt]:Array Value).all (·.oneCell')=true):=by show _=_;rw [← EQ.out];exact mvc_oneM _ _
   have cf:w4.cell? ⟨m,1,none⟩=some (.slice A.ax M.x.length A.cx):=row_cell D4.out.mp.row 1
   have ff:=froz D4.out.mp.row 1
   clear D4
   go_wp2_with (first | (refine wpList_load_row rfl 29 (.tmp 3) rfl m rfl 29 #[.int .u64 M.pc,.slice (some ⟨bx,1,none⟩) 31 (cx - 1),.int .i64 M.pr,.slice A.ac M.cs.length A.cc,.slice A.ar M.ram.length A.cr,.int .u64 M.d.t,.int .u64 M.d.cm,.bool M.d.so,.slice A.ai M.d.xs.length A.ci,.slice A.ao M.d.ys.length A.co,.int .i64 M.d.ir,.int .u64 M.hd,.bool M.hl,.bool M.wt] (0,0) _ RM.out Tryz.underlying29 rfl mac_size ?_) | (refine wpList_store_rowTo rfl 29 (.tmp 2) (.tmp 58) rfl rfl w.heap.size #[.int .u64 M.pc,.slice (some ⟨bx,1,none⟩) 31 (cx - 1),.int .i64 M.pr,.slice A.ac M.cs.length A.cc,.slice A.ar M.ram.length A.cr,.int .u64 M.d.t,.int .u64 M.d.cm,.bool M.d.so,.slice A.ai M.d.xs.length A.ci,.slice A.ao M.d.ys.length A.co,.int .i64 M.d.ir,.int .u64 M.hd,.bool M.hl,.bool M.wt] rfl rfl 29 (mvc zeroM zeroA) RR.out mac_size rfl HO.out ?_))
   exact bodyPost_ret (results_cell_row Tryz.results10 _ _ _ _ _ _ _ rfl RZ.out Tryz.underlying29 rfl mac_size) rfl ⟨cutX M,slX A bx,by rw [EQ.out],dhid FT.out.1,dhid (have h:=OUT.out.1.msl;⟨by have:=h.x;rw [ea] at this;exact sl_tail this,h.cs,h.ram,h.xs,h.ys⟩),dhid (fun e=>absurd e (by rw [FT.out.2];decide)),dhid (new_slX (fam_from OUT.out.1) ea),dhid OUT.out.2⟩
  ·obtain ⟨bc,cc,ea,ec,cm,cells⟩:=D4.out.atC
   obtain ⟨c9,f9⟩:=cells 9 (by omega)
   have D5:=dhid ((D4.out.setC bc ea 9 (show U (bits .xor .u64 (M.cs.getD 9 0) 128) from U_bits _ _ _)).below (Below.refl _ _).drew)
   generalize M.cs.getD 9 0=y at *
   clear cells D4 ea ec
   go_wp2_with fail
   refine wp_region_K 8 (fun w'=>w'.cell? ⟨m,3,none⟩=some (.slice (some ⟨bc,0,none⟩) 22 cc)∧w'.cell? ⟨bc,9,none⟩=some (.int .u64 y)∧w'.frozen? ⟨bc,9,none⟩=false) (by kernel_rfl) (by exact ⟨cm,c9,f9⟩) (fun hHeld=>?_)
   refine wpAnyK_take (i:=0) (oi:={ dst:=some 35,op:=_,type:=_,pos:=_,after:=_,guard:=_ }) (v:=.pointer (some ⟨m,3,none⟩)) rfl (by kernel_rfl) (by kernel_rfl) (by kernel_rfl) (by kernel_rfl) (fun _ _ _ h=>h) (Or.inl ⟨by rfl,?_⟩) (by assumption) ?_
   ·intro w' hSw
    go_simp
   simp only [Act.put,List.setIfInBounds_toArray,List.set_cons_zero,List.set_cons_succ]
   refine wpAnyK_take (i:=1) (oi:={ dst:=some 36,op:=_,type:=_,pos:=_,after:=_,guard:=_ }) (v:=.slice (some ⟨bc,0,none⟩) 22 cc) rfl (by kernel_rfl) (by kernel_rfl) (by kernel_rfl) (by kernel_rfl) (fun _ _ _ h=>h) (Or.inl ⟨by rfl,?_⟩) (by assumption) ?_
   ·intro w' hSw
    go_simp
   simp only [Act.put,List.setIfInBounds_toArray,List.set_cons_zero,List.set_cons_succ]
   refine wpAnyK_take (i:=2) (oi:={ dst:=some 37,op:=_,type:=_,pos:=_,after:=_,guard:=_ }) (v:=.pointer (some ⟨m,3,none⟩)) rfl (by kernel_rfl) (by kernel_rfl) (by kernel_rfl) (by kernel_rfl) (fun _ _ _ h=>h) (Or.inl ⟨by rfl,?_⟩) (by assumption) ?_
   ·intro w' hSw
    go_simp
   simp only [Act.put,List.setIfInBounds_toArray,List.set_cons_zero,List.set_cons_succ]
   refine wpAnyK_take (i:=3) (oi:={ dst:=some 38,op:=_,type:=_,pos:=_,after:=_,guard:=_ }) (v:=.slice (some ⟨bc,0,none⟩) 22 cc) rfl (by kernel_rfl) (by kernel_rfl) (by kernel_rfl) (by kernel_rfl) (fun _ _ _ h=>h) (Or.inl ⟨by rfl,?_⟩) (by assumption) ?_
   ·intro w' hSw
    go_simp
   simp only [Act.put,List.setIfInBounds_toArray,List.set_cons_zero,List.set_cons_succ]
   refine wpAnyK_take (i:=4) (oi:={ dst:=some 39,op:=_,type:=_,pos:=_,after:=_,guard:=_ }) (v:=.pointer (some ⟨bc,9,none⟩)) rfl (by kernel_rfl) (by kernel_rfl) (by kernel_rfl) (by kernel_rfl) (fun _ _ _ h=>h) (Or.inl ⟨by rfl,?_⟩) (by assumption) ?_
   ·intro w' hSw
    go_simp
   simp only [Act.put,List.setIfInBounds_toArray,List.set_cons_zero,List.set_cons_succ]
   refine wpAnyK_take (i:=5) (oi:={ dst:=some 40,op:=_,type:=_,pos:=_,after:=_,guard:=_ }) (v:=.int .u64 y) rfl (by kernel_rfl) (by kernel_rfl) (by kernel_rfl) (by kernel_rfl) (fun _ _ _ h=>h) (Or.inl ⟨by rfl,?_⟩) (by assumption) ?_
   ·intro w' hSw
    go_simp
   simp only [Act.put,List.setIfInBounds_toArray,List.set_cons_zero,List.set_cons_succ]
   refine wpAnyK_take (i:=6) (oi:={ dst:=some 41,op:=_,type:=_,pos:=_,after:=_,guard:=_ }) (v:=.int .u64 (bits .xor .u64 y 128)) rfl (by kernel_rfl) (by kernel_rfl) (by kernel_rfl) (by kernel_rfl) (fun _ _ _ h=>h) (Or.inl ⟨by rfl,?_⟩) (by assumption) ?_
   ·intro w' hSw
    go_simp
   simp only [Act.put,List.setIfInBounds_toArray,List.set_cons_zero,List.set_cons_succ]
   refine wpAnyK_take (i:=7) (oi:={ dst:=some 42,op:=_,type:=_,pos:=_,after:=_,guard:=_ }) (v:=.pointer (some ⟨bc,9,none⟩)) rfl (by kernel_rfl) (by kernel_rfl) (by kernel_rfl) (by kernel_rfl) (fun _ _ _ h=>h) (Or.inl ⟨by rfl,?_⟩) (by assumption) ?_
   ·intro w' hSw
    go_simp
   simp only [Act.put,List.setIfInBounds_toArray,List.set_cons_zero,List.set_cons_succ]
   refine wpAnyK_end (o:={ dst:=none,op:=_,type:=_,pos:=_,after:=_,guard:=_ }) rfl (by kernel_rfl) (fun K hK=>?_)
   go_simp
   refine hK.out _ _ ?_
   clear hK
   refine wpAny_done (by kernel_rfl) ?_ _
   generalize (w4.setCell ⟨bc,9,none⟩ (.int .u64 (bits .xor .u64 y 128))).drew=w6 at D5 ⊢
   clear c9 f9 cm hHeld
   obtain ⟨M,D5⟩:∃ M:MV,Hid (Dm w0 g a n cap w w.heap.size m M A w6):=⟨_,D5⟩
   have RM:=dhid D5.out.mp.row
   have RR:=dhid D5.out.res
   have OUT:=dhid (fun x0 x1 x2 x3 x4 x5 x6 x7 x8 x9 x10 x11 x12 x13=>D5.out.outP x0 x1 x2 x3 x4 x5 x6 x7 x8 x9 x10 x11 x12 x13)
   have NM:=dhid (show ¬ m=w.heap.size from fun e=>by have:=D5.out.mp.lo;omega)
   have FT:=dhid D5.out.fit
   clear D5
   obtain ⟨a0,a1,a2,a3,a4,a5,a6,a7,a8,a9,a10,a11,a12,a13⟩:=cells14 RM.out
   obtain ⟨s0,s1,s2,s3,s4,s5,s6,s7,s8,s9,s10,s11,s12,s13⟩:=cells14 RR.out
   obtain ⟨y0,y1,y2,y3,y4,y5,y6,y7,y8,y9,y10,y11,y12,y13⟩:=froz14 RR.out
   have nd1:¬ m=w.heap.size:=NM.out
   have nd2:¬ w.heap.size=m:=fun e=>NM.out e.symm
   clear RM NM
   go_wp2_with fail
   exact bodyPost_ret (results_cell_row Tryz.results10 _ _ _ _ _ _ _ rfl (row_put14 RR.out (.int .u64 M.pc) (.slice A.ax M.x.length A.cx) (.int .i64 M.pr) (.slice A.ac M.cs.length A.cc) (.slice A.ar M.ram.length A.cr) (.int .u64 M.d.t) (.int .u64 M.d.cm) (.bool M.d.so) (.slice A.ai M.d.xs.length A.ci) (.slice A.ao M.d.ys.length A.co) (.int .i64 M.d.ir) (.int .u64 M.hd) (.bool M.hl) (.bool M.wt)) Tryz.underlying29 rfl mac_size) rfl ⟨M,A,rfl,dhid FT.out.any,dhid (OUT.out _ _ _ _ _ _ _ _ _ _ _ _ _ _ ).1.msl,dhid (fun _=>(OUT.out _ _ _ _ _ _ _ _ _ _ _ _ _ _ ).1),dhid (fam_from (OUT.out undef undef undef undef undef undef undef undef undef undef undef undef undef undef ).1),dhid (OUT.out _ _ _ _ _ _ _ _ _ _ _ _ _ _ ).2⟩
  ·have RM:Hid ((w4.setCell ⟨m,2,none⟩ (.int .i64 2)).heap[m]?=some (.cells #[.int .u64 M.pc,.slice A.ax M.x.length A.cx,.int .i64 2,.slice A.ac M.cs.length A.cc,.slice A.ar M.ram.length A.cr,.int .u64 M.d.t,.int .u64 M.d.cm,.bool M.d.so,.slice A.ai M.d.xs.length A.ci,.slice A.ao M.d.ys.length A.co,.int .i64 M.d.ir,.int .u64 M.hd,.bool M.hl,.bool M.wt] 29 (0,0))):=heap_setC D4.out.mp.row 2 _
   have RR:Hid ((w4.setCell ⟨m,2,none⟩ (.int .i64 2)).heap[w.heap.size]?=some (.cells (mvc zeroM zeroA) 29 (0,0))):=(Below.heap_setCell _ _ _ _ (by show w.heap.size≠m;have:=D4.out.mp.lo;omega)).trans D4.out.res
   have OUT:=dhid (D4.out.outR 2 (.int .i64 2) #[.int .u64 M.pc,.slice A.ax M.x.length A.cx,.int .i64 2,.slice A.ac M.cs.length A.cc,.slice A.ar M.ram.length A.cr,.int .u64 M.d.t,.int .u64 M.d.cm,.bool M.d.so,.slice A.ai M.d.xs.length A.ci,.slice A.ao M.d.ys.length A.co,.int .i64 M.d.ir,.int .u64 M.hd,.bool M.hl,.bool M.wt])
   have RZ:=dhid (setRow_heap _ w.heap.size _ #[.int .u64 M.pc,.slice A.ax M.x.length A.cx,.int .i64 2,.slice A.ac M.cs.length A.cc,.slice A.ar M.ram.length A.cr,.int .u64 M.d.t,.int .u64 M.d.cm,.bool M.d.so,.slice A.ai M.d.xs.length A.ci,.slice A.ao M.d.ys.length A.co,.int .i64 M.d.ir,.int .u64 M.hd,.bool M.hl,.bool M.wt] _ _ RR.out)
   have FT:=dhid (badPr_ok D4.out.fit)
   have EQ:Hid (mvc (badPr M) (A)=#[.int .u64 M.pc,.slice A.ax M.x.length A.cx,.int .i64 2,.slice A.ac M.cs.length A.cc,.slice A.ar M.ram.length A.cr,.int .u64 M.d.t,.int .u64 M.d.cm,.bool M.d.so,.slice A.ai M.d.xs.length A.ci,.slice A.ao M.d.ys.length A.co,.int .i64 M.d.ir,.int .u64 M.hd,.bool M.hl,.bool M.wt]):=rfl
   have HO:Hid ((#[.int .u64 M.pc,.slice A.ax M.x.length A.cx,.int .i64 2,.slice A.ac M.cs.length A.cc,.slice A.ar M.ram.length A.cr,.int .u64 M.d.t,.int .u64 M.d.cm,.bool M.d.so,.slice A.ai M.d.xs.length A.ci,.slice A.ao M.d.ys.length A.co,.int .i64 M.d.ir,.int .u64 M.hd,.bool M.hl,.bool M.wt]:Array Value).all (·.oneCell')=true):=by show _=_;rw [← EQ.out];exact mvc_oneM _ _
   have cf:w4.cell? ⟨m,2,none⟩=some (.int .i64 M.pr):=row_cell D4.out.mp.row 2
   have ff:=froz D4.out.mp.row 2
   clear D4
   go_wp2_with (first | (refine wpList_load_row rfl 29 (.tmp 3) rfl m rfl 29 #[.int .u64 M.pc,.slice A.ax M.x.length A.cx,.int .i64 2,.slice A.ac M.cs.length A.cc,.slice A.ar M.ram.length A.cr,.int .u64 M.d.t,.int .u64 M.d.cm,.bool M.d.so,.slice A.ai M.d.xs.length A.ci,.slice A.ao M.d.ys.length A.co,.int .i64 M.d.ir,.int .u64 M.hd,.bool M.hl,.bool M.wt] (0,0) _ RM.out Tryz.underlying29 rfl mac_size ?_) | (refine wpList_store_rowTo rfl 29 (.tmp 2) (.tmp 58) rfl rfl w.heap.size #[.int .u64 M.pc,.slice A.ax M.x.length A.cx,.int .i64 2,.slice A.ac M.cs.length A.cc,.slice A.ar M.ram.length A.cr,.int .u64 M.d.t,.int .u64 M.d.cm,.bool M.d.so,.slice A.ai M.d.xs.length A.ci,.slice A.ao M.d.ys.length A.co,.int .i64 M.d.ir,.int .u64 M.hd,.bool M.hl,.bool M.wt] rfl rfl 29 (mvc zeroM zeroA) RR.out mac_size rfl HO.out ?_))
   exact bodyPost_ret (results_cell_row Tryz.results10 _ _ _ _ _ _ _ rfl RZ.out Tryz.underlying29 rfl mac_size) rfl ⟨badPr M,A,by rw [EQ.out],dhid FT.out.1,dhid (have h:=OUT.out.1.msl;⟨h.x,h.cs,h.ram,h.xs,h.ys⟩),dhid (fun e=>absurd e (by rw [FT.out.2];decide)),dhid (fam_from OUT.out.1),dhid OUT.out.2⟩
  ·go_wp2_with fail
   refine (l1Below_c HD.out 2 (by omega) _ D4.out.cur).mono ?_
   rintro e w5 ⟨y,rfl,⟨hy0,hy1⟩,hs5⟩
   have D5:=dhid (D4.out.next hs5.out)
   have D6:=dhid (D5.out.setHd y ⟨hy0,by omega⟩)
   have RM:=dhid D6.out.mp.row
   have RR:=dhid D6.out.res
   have OUT:=dhid (D6.out.outM (mvc (hdM M y) A))
   have RZ:=dhid (setRow_heap _ w.heap.size _ (mvc (hdM M y) A) _ _ RR.out)
   have HO:=dhid (mvc_oneM (hdM M y) A)
   have FT:=dhid D6.out.fit
   have cf:w5.cell? ⟨m,11,none⟩=some (.int .u64 M.hd):=row_cell D5.out.mp.row 11
   have ff:=froz D5.out.mp.row 11
   clear hs5 D4 D5 D6
   go_wp2_with (first | (refine wpList_load_row rfl 29 (.tmp 3) rfl m rfl 29 (mvc (hdM M y) A) (0,0) _ RM.out Tryz.underlying29 rfl mac_size ?_) | (refine wpList_store_rowTo rfl 29 (.tmp 2) (.tmp 58) rfl rfl w.heap.size (mvc (hdM M y) A) rfl rfl 29 (mvc zeroM zeroA) RR.out mac_size rfl HO.out ?_))
   exact bodyPost_ret (results_cell_row Tryz.results10 _ _ _ _ _ _ _ rfl RZ.out Tryz.underlying29 rfl mac_size) rfl ⟨hdM M y,A,rfl,dhid FT.out.any,dhid OUT.out.1.msl,dhid (fun _=>OUT.out.1),dhid (fam_from OUT.out.1),dhid OUT.out.2⟩
  ·obtain ⟨br,cr,ea,ec,cm,hcr⟩:=D4.out.atR
   obtain ⟨nr,hnr⟩:∃ nr,nr=M.ram.length:=⟨_,rfl⟩
   have hn1:1≤nr:=by rw [hnr];rcases D4.out.fit.ram with e | e<;>omega
   rw [← hnr] at cm hcr
   have hn2:4096≤nr:=by rw [hnr];rcases D4.out.fit.ram with e | e<;>omega
   have hc1:¬ cr=1:=by omega
   have hc2:¬ cr - 1=0:=by omega
   have hc3:¬ cr≤1:=by omega
   have hc4:¬ nr < 1:=by omega
   have HN:=dhid hnr
   clear hnr
   have RM:Hid ((w4.setCell ⟨m,4,none⟩ (.slice (some ⟨br,1,none⟩) (nr - 1) (cr - 1))).heap[m]?=some (.cells #[.int .u64 M.pc,.slice A.ax M.x.length A.cx,.int .i64 M.pr,.slice A.ac M.cs.length A.cc,.slice (some ⟨br,1,none⟩) (nr - 1) (cr - 1),.int .u64 M.d.t,.int .u64 M.d.cm,.bool M.d.so,.slice A.ai M.d.xs.length A.ci,.slice A.ao M.d.ys.length A.co,.int .i64 M.d.ir,.int .u64 M.hd,.bool M.hl,.bool M.wt] 29 (0,0))):=heap_setC D4.out.mp.row 4 _
   have RR:Hid ((w4.setCell ⟨m,4,none⟩ (.slice (some ⟨br,1,none⟩) (nr - 1) (cr - 1))).heap[w.heap.size]?=some (.cells (mvc zeroM zeroA) 29 (0,0))):=(Below.heap_setCell _ _ _ _ (by show w.heap.size≠m;have:=D4.out.mp.lo;omega)).trans D4.out.res
   have OUT:=dhid (D4.out.outR 4 (.slice (some ⟨br,1,none⟩) (nr - 1) (cr - 1)) #[.int .u64 M.pc,.slice A.ax M.x.length A.cx,.int .i64 M.pr,.slice A.ac M.cs.length A.cc,.slice (some ⟨br,1,none⟩) (nr - 1) (cr - 1),.int .u64 M.d.t,.int .u64 M.d.cm,.bool M.d.so,.slice A.ai M.d.xs.length A.ci,.slice A.ao M.d.ys.length A.co,.int .i64 M.d.ir,.int .u64 M.hd,.bool M.hl,.bool M.wt])
   have RZ:=dhid (setRow_heap _ w.heap.size _ #[.int .u64 M.pc,.slice A.ax M.x.length A.cx,.int .i64 M.pr,.slice A.ac M.cs.length A.cc,.slice (some ⟨br,1,none⟩) (nr - 1) (cr - 1),.int .u64 M.d.t,.int .u64 M.d.cm,.bool M.d.so,.slice A.ai M.d.xs.length A.ci,.slice A.ao M.d.ys.length A.co,.int .i64 M.d.ir,.int .u64 M.hd,.bool M.hl,.bool M.wt] _ _ RR.out)
   have FT:=dhid (cutR_ok D4.out.fit)
   have EQ:Hid (mvc (cutR M) (slR A br)=#[.int .u64 M.pc,.slice A.ax M.x.length A.cx,.int .i64 M.pr,.slice A.ac M.cs.length A.cc,.slice (some ⟨br,1,none⟩) (nr - 1) (cr - 1),.int .u64 M.d.t,.int .u64 M.d.cm,.bool M.d.so,.slice A.ai M.d.xs.length A.ci,.slice A.ao M.d.ys.length A.co,.int .i64 M.d.ir,.int .u64 M.hd,.bool M.hl,.bool M.wt]):=by show mvc _ _=_;unfold mvc cutR slR;dsimp only;rw [List.length_tail,ec,HN.out]
   have HO:Hid ((#[.int .u64 M.pc,.slice A.ax M.x.length A.cx,.int .i64 M.pr,.slice A.ac M.cs.length A.cc,.slice (some ⟨br,1,none⟩) (nr - 1) (cr - 1),.int .u64 M.d.t,.int .u64 M.d.cm,.bool M.d.so,.slice A.ai M.d.xs.length A.ci,.slice A.ao M.d.ys.length A.co,.int .i64 M.d.ir,.int .u64 M.hd,.bool M.hl,.bool M.wt]:Array Value).all (·.oneCell')=true):=by show _=_;rw [← EQ.out];exact mvc_oneM _ _
   have cf:w4.cell? ⟨m,4,none⟩=some (.slice A.ar M.ram.length A.cr):=row_cell D4.out.mp.row 4
   have ff:=froz D4.out.mp.row 4
   clear D4
   go_wp2_with (first | (refine wpList_load_row rfl 29 (.tmp 3) rfl m rfl 29 #[.int .u64 M.pc,.slice A.ax M.x.length A.cx,.int .i64 M.pr,.slice A.ac M.cs.length A.cc,.slice (some ⟨br,1,none⟩) (nr - 1) (cr - 1),.int .u64 M.d.t,.int .u64 M.d.cm,.bool M.d.so,.slice A.ai M.d.xs.length A.ci,.slice A.ao M.d.ys.length A.co,.int .i64 M.d.ir,.int .u64 M.hd,.bool M.hl,.bool M.wt] (0,0) _ RM.out Tryz.underlying29 rfl mac_size ?_) | (refine wpList_store_rowTo rfl 29 (.tmp 2) (.tmp 58) rfl rfl w.heap.size #[.int .u64 M.pc,.slice A.ax M.x.length A.cx,.int .i64 M.pr,.slice A.ac M.cs.length A.cc,.slice (some ⟨br,1,none⟩) (nr - 1) (cr - 1),.int .u64 M.d.t,.int .u64 M.d.cm,.bool M.d.so,.slice A.ai M.d.xs.length A.ci,.slice A.ao M.d.ys.length A.co,.int .i64 M.d.ir,.int .u64 M.hd,.bool M.hl,.bool M.wt] rfl rfl 29 (mvc zeroM zeroA) RR.out mac_size rfl HO.out ?_))
   exact bodyPost_ret (results_cell_row Tryz.results10 _ _ _ _ _ _ _ rfl RZ.out Tryz.underlying29 rfl mac_size) rfl ⟨cutR M,slR A br,by rw [EQ.out],dhid FT.out.1,dhid (have h:=OUT.out.1.msl;⟨h.x,h.cs,by have:=h.ram;rw [ea] at this;exact sl_tail this,h.xs,h.ys⟩),dhid (fun e=>absurd e (by rw [FT.out.2];decide)),dhid (new_slR (fam_from OUT.out.1) ea),dhid OUT.out.2⟩

end Go.Proofs.YtbajeckeeekhnaaGreat
