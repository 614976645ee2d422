/- Own lemmas. -/
import Derived.Test.YtfekjlcnnjhofaaGreatDoorAut
import Derived.Test.YtfekjlcnnjhofaaGreatDoorK03
set_option maxRecDepth 100000
set_option maxHeartbeats 3200000
namespace Go.Proofs.YtfekjlcnnjhofaaGreatDoor
open Go.RowKit Tryz
open Go renaming World->C5
open List renaming getElem?_eq_getElem->A8,mem_append->A9
open Nat renaming le_refl->A5
open World renaming size_alloc->A6
set_option linter.unusedVariables false
variable {w:C5} {r b:Nat} {L:TypeId} {T o:Array Value} {a:List FRow}
theorem nM {r:Array Oper} {rest:List Oper} {o:Oper} {a:Act} {Q:Exit->Act->C5->Prop} (p:o.guard=none) (s x:Operand) (I:o.op=.call {callee:=.builtin .append,args:=#[s,x],argTypes:=#[25,25]}) (base g:Nat) (hs:a.eval s=.slice (some ⟨g,0,none⟩) 0 0) (d:w.ownsRow base 24 1 (.slice (some ⟨g,0,none⟩) 0 0) 0 []) (ad:Option Addr) (m c:Nat) (zs:List Int) (hx:a.eval x=.slice ad m c) (hz:zs.length=m) (hm:m<=1048576) (q:Sl .u64 w ad zs) (f:base<=w.heap.size) (h:∀ l n t,t.ownsRow base 24 1 (.slice l m n) m (zs.map (Value.int .u64))->w.grownBy t (some g)->wpList prog r Q rest (a.put o.dst (.slice l m n)) t):wpList prog r Q (o::rest) a w:=by
 obtain ⟨J,H,B,C,D⟩:=info_parts Bv;cases ad with
 | none =>
   have z:m=0:=by
    rcases Nat.eq_zero_or_pos m with G|G;·exact G
    ·obtain ⟨b,F,e,_⟩:=q 0 ab;cases e
   subst z;have E:zs=[]:=List.length_eq_zero_iff.1 hz;subst E;refine wpList_plain p λK O=>?_;have S:=run_append_room_src (P:=prog) w 25 25 o.type 24 J underlying25 H g 0 0 0 (.slice none 0 c) 0 [] (Src.ofNil w underlying25 c) ab (λj i=>by simp at i) (λj i=>by simp at i);unfold Oper.wp execOp;simp only [I,resolve,invoke,builtin,Sem.run_bind,Sem.run_pure,Result.andThen_ok,List.map_toArray,List.map_cons,List.map_nil,hs,hx,S];exact O _ _ (h _ _ w d ⟨rfl,rfl,rfl,A5 _,λ_ _ _=>rfl⟩)
 | some A =>
   have k:∀ j u,(zs.map (Value.int .u64))[j]?=some u->w.cell? (A.add j)=some u:=by
    intro j u v;have i:j<zs.length:=by
     rcases Nat.lt_or_ge j zs.length with h|h;·exact h
     ·rw [List.getElem?_eq_none et] at v;cases v
    obtain ⟨b,F,e,_,R⟩:=q j i;cases e;rw [zt,R];rw [List.getElem?_map,A8 i] at v;rw [List.getD_eq_getElem?_getD,A8 i];exact v
   refine wpList_append_own _ p s x 25 I base 24 J (.u 0) 1 8 underlying25 H B C D rfl bc _ 0 [] hs d A m c (zs.map (Value.int .u64)) hx (by rw [List.length_map,hz];omega) k (ints_oneCell _ _) fb ab f ?_;intro U t y N W;simp only [Nat.zero_add,List.nil_append] at y;have T:∃ l n,U=.slice l m n:=by
    rcases y.2 with ⟨e,M⟩|⟨V,cap,L,e,_⟩;·exact ⟨none,0,by rw [e,M]⟩
    ·exact ⟨_,_,e⟩
   obtain ⟨l,n,rfl⟩:=T;exact h l n t y N
theorem oR (w:C5) (base:Nat) (hb:base<=w.heap.size) (o:Obj) (a:o=.cells #[] 24 (0,0)):(w.alloc o).ownsRow base 24 1 (.slice (some ⟨w.heap.size,0,none⟩) 0 0) 0 []:=by subst a;exact World.ownsRow_lit w #[] 0 hb fb rfl
structure My (w:C5) (r b:Nat) (T:TypeId) (rs cs:Array Value) (L:List FRow) (wr:C5):Prop where
 row:wr.heap[b]?=some (.cells cs T (0,0))
 res:wr.heap[r]?=some (.cells rs T (0,0))
 fam:bj (w.heap.size+1+1) wr.heap.size wr L
 below:Bw w wr
 hb:w.heap.size<=b/\b<w.heap.size+1+1
 hr:w.heap.size<=r/\r<w.heap.size+1+1
 ne:r≠b
theorem My.put {wr:C5} (h:My w r b L T o a wr) (i:Nat) (v:Value):My w r b L T (o.setIfInBounds i v) a (wr.setCell ⟨b,i,none⟩ v):=by have c:=h.hb;have d:=h.hr;have cs:=h.ne;exact ⟨bH h.row i v,fT h.res ⟨b,i,none⟩ v cs,(h.fam.set ⟨b,i,none⟩ v (.inl cb)).low (A5 _) ep,h.below.setCell (p:=⟨b,i,none⟩) cb v,c,d,cs⟩
theorem My.lt {wr:C5} (h:My w r b L T o a wr):w.heap.size+1+1<=wr.heap.size:=by have cs:=(Array.getElem?_eq_some_iff.1 h.row).1;have c:=(Array.getElem?_eq_some_iff.1 h.res).1;have d:=h.hb;have e:=h.hr;have f:=h.ne;omega
theorem My.add {wr wx:C5} {rs:Obj} (h:My w r b L T o a wr) (q:FRow) {base g:Nat} (j:wx.ownsRow base q.t 1 q.v q.n q.xs) (cs:wr.heap.size=base) (d:(wr.alloc rs).grownBy wx (some g)) (f:g=wr.heap.size):My w r b L T o (a++[q]) wx:=by subst f;subst cs;have c:Bw wr wx:=Below.grown ((Below.refl _ _).alloc (A5 _) rs) d di (λk i=>by simp at i;omega);have e:=h.lt;exact ⟨aD c h.row,aD c h.res,(h.fam.below c).snoc q _ wx.heap.size j (A5 _) e (A5 _) c.size,aa h.below c,h.hb,h.hr,h.ne⟩
theorem My.add2 {wr wx:C5} (h:My w r b L T o a wr) (d q2:FRow) (c:bj wr.heap.size wx.heap.size wx [d,q2]) (hb:Bw wr wx):My w r b L T o (a++[d,q2]) wx:=by
 have g:=h.lt;have hF:=h.fam.below hb;have i:=hb.size;refine ⟨aD hb h.row,aD hb h.res,⟨λq cs=>?_,λq cs k e=>?_,List.pairwise_append.2 ⟨hF.ne,c.ne,λq cs t f k e e2=>?_⟩⟩,aa h.below hb,h.hb,h.hr,h.ne⟩
 ·rcases A9.1 cs with cs|cs;·exact hF.own q cs
  ·exact cQ (c.own q cs) ab
 ·rcases A9.1 cs with cs|cs;·have:=hF.hi q cs k e;omega
  ·exact c.hi q cs k e
 ·have:=hF.hi q cs k e;have:=((c.own t f).lt k e2).1;omega
theorem Ft (M:MV) (A:MA) (w:C5) (hl:iR M) (hs:oe w M A):Calls prog 19 #[.agg #[.u M.pc,.slice A.ax M.x.length A.cx,.i M.pr,.slice A.ac M.cs.length A.cc,.slice A.ar M.ram.length A.cr,.u M.d.t,.u M.d.cm,.bool M.d.so,.slice A.ai M.d.xs.length A.ci,.slice A.ao M.d.ys.length A.co,.i M.d.ir,.u M.hd,.bool M.hl,.bool M.wt]] w λe t=>∃ C:MA,e=.returned (.agg (ak M C))/\bj w.heap.size t.heap.size t (aF M C)/\Bw w t:=by
 have B:Hid (∀ W,Bw w W->oe W M A):=λW hb=>hs.below hb
 have z:=aq hl
 have H4:Hid (∀ t,Bw w t->Calls prog 43 #[.agg #[.u M.d.t,.u M.d.cm,.bool M.d.so,.slice A.ai M.d.xs.length A.ci,.slice A.ao M.d.ys.length A.co,.i M.d.ir]] t λe D=>∃ (b1:Option Addr) (d1:Nat) (b2:Option Addr) (d2:Nat),e=.returned (.agg #[.u M.d.t,.u M.d.cm,.bool M.d.so,.slice b1 M.d.xs.length d1,.slice b2 M.d.ys.length d2,.i M.d.ir])/\bj t.heap.size D.heap.size D (eX b1 M.d.xs.length d1 M.d.xs b2 M.d.ys.length d2 M.d.ys)/\Bw t D):=λt hb=>qk _ _ _ _ _ _ _ _ _ _ M.d.xs M.d.ys t rfl rfl hl.xs hl.ys (hs.xs.below hb) (hs.ys.below hb)
 clear hl hs
 go_enter func19,ntmps19
 obtain ⟨r0,r1⟩:=jR (w:=w) (o1:=.cells #[.u M.pc,.slice A.ax M.x.length A.cx,.i M.pr,.slice A.ac M.cs.length A.cc,.slice A.ar M.ram.length A.cr,.u M.d.t,.u M.d.cm,.bool M.d.so,.slice A.ai M.d.xs.length A.ci,.slice A.ao M.d.ys.length A.co,.i M.d.ir,.u M.hd,.bool M.hl,.bool M.wt] 29) (o2:=.cells #[.u 0,.slice none 0 0,.i 0,.slice none 0 0,.slice none 0 0,.u 0,.u 0,.bool false,.slice none 0 0,.slice none 0 0,.i 0,.u 0,.bool false,.bool false] 29) (Below.refl _ _)
 have M0:Hid (My w (w.heap.size+1) w.heap.size 29 #[.u 0,.slice none 0 0,.i 0,.slice none 0 0,.slice none 0 0,.u 0,.u 0,.bool false,.slice none 0 0,.slice none 0 0,.i 0,.u 0,.bool false,.bool false] #[.u M.pc,.slice A.ax M.x.length A.cx,.i M.pr,.slice A.ac M.cs.length A.cc,.slice A.ar M.ram.length A.cr,.u M.d.t,.u M.d.cm,.bool M.d.so,.slice A.ai M.d.xs.length A.ci,.slice A.ao M.d.ys.length A.co,.i M.d.ir,.u M.hd,.bool M.hl,.bool M.wt] [] ((w.alloc (.cells #[.u M.pc,.slice A.ax M.x.length A.cx,.i M.pr,.slice A.ac M.cs.length A.cc,.slice A.ar M.ram.length A.cr,.u M.d.t,.u M.d.cm,.bool M.d.so,.slice A.ai M.d.xs.length A.ci,.slice A.ao M.d.ys.length A.co,.i M.d.ir,.u M.hd,.bool M.hl,.bool M.wt] 29)).alloc (.cells #[.u 0,.slice none 0 0,.i 0,.slice none 0 0,.slice none 0 0,.u 0,.u 0,.bool false,.slice none 0 0,.slice none 0 0,.i 0,.u 0,.bool false,.bool false] 29))):=⟨r0,r1,bj.nil _ _ _,(bal _ _).alloc di _,ab,ab,ab⟩
 clear r0 r1
 have hE:=oR ((w.alloc (.cells #[.u M.pc,.slice A.ax M.x.length A.cx,.i M.pr,.slice A.ac M.cs.length A.cc,.slice A.ar M.ram.length A.cr,.u M.d.t,.u M.d.cm,.bool M.d.so,.slice A.ai M.d.xs.length A.ci,.slice A.ao M.d.ys.length A.co,.i M.d.ir,.u M.hd,.bool M.hl,.bool M.wt] 29)).alloc (.cells #[.u 0,.slice none 0 0,.i 0,.slice none 0 0,.slice none 0 0,.u 0,.u 0,.bool false,.slice none 0 0,.slice none 0 0,.i 0,.u 0,.bool false,.bool false] 29)) ((w.alloc (.cells #[.u M.pc,.slice A.ax M.x.length A.cx,.i M.pr,.slice A.ac M.cs.length A.cc,.slice A.ar M.ram.length A.cr,.u M.d.t,.u M.d.cm,.bool M.d.so,.slice A.ai M.d.xs.length A.ci,.slice A.ao M.d.ys.length A.co,.i M.d.ir,.u M.hd,.bool M.hl,.bool M.wt] 29)).alloc (.cells #[.u 0,.slice none 0 0,.i 0,.slice none 0 0,.slice none 0 0,.u 0,.u 0,.bool false,.slice none 0 0,.slice none 0 0,.i 0,.u 0,.bool false,.bool false] 29)).heap.size (A5 _) (.cells #[] 24 (0,0)) rfl
 rw [A6,A6] at hE
 go_wp2_with (first
  | (at_builtin;refine nM rfl (.tmp 3) (.tmp 5) rfl _ _ rfl hE A.ax M.x.length A.cx M.x rfl rfl z.out.x (B.out _ (M0.out.below.alloc M0.out.below.size _)).x di ?_;intro g j w1 ow1 gr1;have M1:=aq (M0.out.add (aG g M.x.length j M.x) ow1 di gr1 di);clear ow1 gr1;obtain ⟨T,U,V,X,Y,Z,p6,p7,p8,p9,l,m,p,q⟩:=aX M1.out.row;obtain ⟨E,F,G,H,I,J,K,L,N,O,b,c,d,f⟩:=fg M1.out.row;have M2:Hid (My w (w.heap.size+1) w.heap.size 29 #[.u 0,.slice none 0 0,.i 0,.slice none 0 0,.slice none 0 0,.u 0,.u 0,.bool false,.slice none 0 0,.slice none 0 0,.i 0,.u 0,.bool false,.bool false] #[.u M.pc,.slice g M.x.length j,.i M.pr,.slice A.ac M.cs.length A.cc,.slice A.ar M.ram.length A.cr,.u M.d.t,.u M.d.cm,.bool M.d.so,.slice A.ai M.d.xs.length A.ci,.slice A.ao M.d.ys.length A.co,.i M.d.ir,.u M.hd,.bool M.hl,.bool M.wt] [aG g M.x.length j M.x] (w1.setCell ⟨w.heap.size,1,none⟩ (.slice g M.x.length j))):=M1.out.put 1 _;have hE2:=oR (w1.setCell ⟨w.heap.size,1,none⟩ (.slice g M.x.length j)) w1.heap.size ep (.cells #[] 24 (0,0)) rfl;rw [aO] at hE2;have n3:=λo=>(aX (ap M2.out.row o)).2.2.2.1)
  | (at_builtin;refine nM rfl (.tmp 8) (.tmp 10) rfl _ _ rfl hE2 A.ac M.cs.length A.cc M.cs rfl rfl z.out.cs (B.out _ (M2.out.below.alloc M2.out.below.size _)).cs (by rw [A6,aO];omega) ?_;intro r s w2 ow2 gr2;have M3:=aq (M2.out.add (aG r M.cs.length s M.cs) ow2 (by rw [aO]) gr2 (by rw [aO]));clear ow2 gr2 n3;clear T E U F V G X H Y I Z J p6 K p7 L p8 N p9 O l b m c p d q f;obtain ⟨T,U,V,X,Y,Z,p6,p7,p8,p9,l,m,p,q⟩:=aX M3.out.row;obtain ⟨E,F,G,H,I,J,K,L,N,O,b,c,d,f⟩:=fg M3.out.row;have M4:Hid (My w (w.heap.size+1) w.heap.size 29 #[.u 0,.slice none 0 0,.i 0,.slice none 0 0,.slice none 0 0,.u 0,.u 0,.bool false,.slice none 0 0,.slice none 0 0,.i 0,.u 0,.bool false,.bool false] #[.u M.pc,.slice g M.x.length j,.i M.pr,.slice r M.cs.length s,.slice A.ar M.ram.length A.cr,.u M.d.t,.u M.d.cm,.bool M.d.so,.slice A.ai M.d.xs.length A.ci,.slice A.ao M.d.ys.length A.co,.i M.d.ir,.u M.hd,.bool M.hl,.bool M.wt] [aG g M.x.length j M.x,aG r M.cs.length s M.cs] (w2.setCell ⟨w.heap.size,3,none⟩ (.slice r M.cs.length s))):=M3.out.put 3 _;have hE3:=jl (w2.setCell ⟨w.heap.size,3,none⟩ (.slice r M.cs.length s)) w2.heap.size ep (.cells #[] 5 (0,0)) rfl;rw [aO] at hE3;have n4:=λo=>(aX (ap M4.out.row o)).2.2.2.2.1)
  | (at_builtin;refine it rfl (.tmp 13) (.tmp 15) rfl _ _ rfl hE3 A.ar M.ram.length A.cr M.ram rfl rfl z.out.ram (B.out _ (M4.out.below.alloc M4.out.below.size _)).ram (by rw [A6,aO];omega) ?_;intro u y w3 ow3 gr3;have M5:=aq (M4.out.add (aE u M.ram.length y M.ram) ow3 (by rw [aO]) gr3 (by rw [aO]));clear ow3 gr3 n4;clear T E U F V G X H Y I Z J p6 K p7 L p8 N p9 O l b m c p d q f;obtain ⟨T,U,V,X,Y,Z,p6,p7,p8,p9,l,m,p,q⟩:=aX M5.out.row;obtain ⟨E,F,G,H,I,J,K,L,N,O,b,c,d,f⟩:=fg M5.out.row;have M6:Hid (My w (w.heap.size+1) w.heap.size 29 #[.u 0,.slice none 0 0,.i 0,.slice none 0 0,.slice none 0 0,.u 0,.u 0,.bool false,.slice none 0 0,.slice none 0 0,.i 0,.u 0,.bool false,.bool false] #[.u M.pc,.slice g M.x.length j,.i M.pr,.slice r M.cs.length s,.slice u M.ram.length y,.u M.d.t,.u M.d.cm,.bool M.d.so,.slice A.ai M.d.xs.length A.ci,.slice A.ao M.d.ys.length A.co,.i M.d.ir,.u M.hd,.bool M.hl,.bool M.wt] [aG g M.x.length j M.x,aG r M.cs.length s M.cs,aE u M.ram.length y M.ram] (w3.setCell ⟨w.heap.size,4,none⟩ (.slice u M.ram.length y))):=M5.out.put 4 _;obtain ⟨-,-,-,-,-,z5,z6,z7,z8,z9,z10,-,-,-⟩:=aX M6.out.row))
 refine (H4.out _ M6.out.below).mono ?_
 rintro e w4 ⟨P,R,Q,S,rfl,fm4,hb4⟩
 have M7:=aq (M6.out.add2 (aE P M.d.xs.length R M.d.xs) (aE Q M.d.ys.length S M.d.ys) fm4 hb4)
 clear fm4 hb4 z5 z6 z7 z8 z9 z10
 clear T E U F V G X H Y I Z J p6 K p7 L p8 N p9 O l b m c p d q f
 obtain ⟨T,U,V,X,Y,Z,p6,p7,p8,p9,l,m,p,q⟩:=aX M7.out.row
 obtain ⟨E,F,G,H,I,J,K,L,N,O,b,c,d,f⟩:=fg M7.out.row
 obtain ⟨r0,r1,r2,r3,r4,r5,r6,r7,r8,r9,r10,r11,r12,r13⟩:=aX M7.out.res
 obtain ⟨y0,y1,y2,y3,y4,y5,y6,y7,y8,y9,y10,y11,y12,y13⟩:=fg M7.out.res
 go_wp2_with fail
 have M8:=((((((M7.out.put 5 (.u M.d.t)).put 6 (.u M.d.cm)).put 7 (.bool M.d.so)).put 8 (.slice P M.d.xs.length R)).put 9 (.slice Q M.d.ys.length S)).put 10 (.i M.d.ir))
 have T1:=rQ M8.res (.u M.pc) (.slice g M.x.length j) (.i M.pr) (.slice r M.cs.length s) (.slice u M.ram.length y) (.u M.d.t) (.u M.d.cm) (.bool M.d.so) (.slice P M.d.xs.length R) (.slice Q M.d.ys.length S) (.i M.d.ir) (.u M.hd) (.bool M.hl) (.bool M.wt)
 exact bodyPost_ret (results_cell_row results19 _ _ _ _ _ _ _ rfl T1 underlying29 rfl oh) rfl ⟨⟨g,j,r,s,u,y,P,R,Q,S⟩,rfl,(M8.fam.put14 (w.heap.size+1) (.inl ab) (.u M.pc) (.slice g M.x.length j) (.i M.pr) (.slice r M.cs.length s) (.slice u M.ram.length y) (.u M.d.t) (.u M.d.cm) (.bool M.d.so) (.slice P M.d.xs.length R) (.slice Q M.d.ys.length S) (.i M.d.ir) (.u M.hd) (.bool M.hl) (.bool M.wt)).low ab ko,og M8.below ab (.u M.pc) (.slice g M.x.length j) (.i M.pr) (.slice r M.cs.length s) (.slice u M.ram.length y) (.u M.d.t) (.u M.d.cm) (.bool M.d.so) (.slice P M.d.xs.length R) (.slice Q M.d.ys.length S) (.i M.d.ir) (.u M.hd) (.bool M.hl) (.bool M.wt)⟩
