/- Own lemmas. -/
import Derived.Test.YtbajeckeeekhnaaGreatK02
import Derived.Test.YtbajeckeeekhnaaGreatK03
import Derived.Deep.RegionWith
namespace Go.Proofs.YtbajeckeeekhnaaGreat
open Go.RowKit
set_option linter.unusedVariables false

theorem wpList_app64 {ops:Array Oper} {rest:List Oper} {o:Oper} {a:Act} {Q:Exit→Act→World→Prop} {w:World} (hgd:o.guard=none) (s x:Operand)
 (ho:o.op=.call { callee:=.builtin .append,args:=#[s,x],argTypes:=#[25,25] }) (base g:Nat) (hs:a.eval s=.slice (some ⟨g,0,none⟩) 0 0) (hown:w.ownsRow base 24 1 (.slice (some ⟨g,0,none⟩) 0 0) 0 [])
 (ad:Option Addr) (m c:Nat) (zs:List Int) (hx:a.eval x=.slice ad m c) (hz:zs.length=m) (hm:m≤1048576) (hsl:Sl .u64 w ad zs) (hbase:base≤w.heap.size)
 (h:∀ a' c' w',w'.ownsRow base 24 1 (.slice a' m c') m (zs.map (Value.int .u64))→w.grownBy w' (some g)→wpList Tryz.prog ops Q rest (a.put o.dst (.slice a' m c')) w'):wpList Tryz.prog ops Q (o :: rest) a w:=by
 obtain ⟨i0,hi,hz0,hz1,hz2⟩:=info_parts infoW
 cases ad with
 | none =>
   have hm0:m=0:=by
    rcases Nat.eq_zero_or_pos m with h0 | h0
    ·exact h0
    ·obtain ⟨b,off,e,_⟩:=hsl 0 (by omega)
     cases e
   subst hm0
   have hzn:zs=[]:=List.length_eq_zero_iff.1 hz
   subst hzn
   refine wpList_plain hgd fun K hK=>?_
   have hr:=run_append_room_src (P:=Tryz.prog) w 25 25 o.type 24 i0 Tryz.underlying25 hi g 0 0 0 (.slice none 0 c) 0 [] (Src.ofNil w Tryz.underlying25 c) (by omega) (fun j hj=>by simp at hj) (fun j hj=>by simp at hj)
   unfold Oper.wp execOp
   simp only [ho,resolve,invoke,builtin,Sem.run_bind,Sem.run_pure,Result.andThen_ok,List.map_toArray,List.map_cons,List.map_nil,hs,hx,hr]
   exact hK _ _ (h _ _ w hown ⟨rfl,rfl,rfl,Nat.le_refl _,fun _ _ _=>rfl⟩)
 | some A =>
   have hnews:∀ j u,(zs.map (Value.int .u64))[j]?=some u→w.cell? (A.add j)=some u:=by
    intro j u hu
    have hj:j < zs.length:=by
     rcases Nat.lt_or_ge j zs.length with h | h
     ·exact h
     ·rw [List.getElem?_eq_none (by simpa using h)] at hu;cases hu
    obtain ⟨b,off,e,_,hc⟩:=hsl j hj
    cases e
    rw [adds,hc]
    rw [List.getElem?_map,List.getElem?_eq_getElem hj] at hu
    rw [List.getD_eq_getElem?_getD,List.getElem?_eq_getElem hj]
    exact hu
   refine wpList_append_own _ hgd s x 25 ho base 24 i0 (.int .u64 0) 1 8 Tryz.underlying25 hi hz0 hz1 hz2 rfl (by decide) _ 0 [] hs hown A m c (zs.map (Value.int .u64)) hx (by rw [List.length_map,hz];omega) hnews (ints_oneCell _ _) (by unfold maxLen;omega) (by omega) hbase ?_
   intro v' w' h1 h2 h3
   simp only [Nat.zero_add,List.nil_append] at h1
   have hv:∃ a' c',v'=.slice a' m c':=by
    rcases h1.2 with ⟨e,e0⟩ | ⟨g',cap,cur,e,_⟩
    ·exact ⟨none,0,by rw [e,e0]⟩
    ·exact ⟨_,_,e⟩
   obtain ⟨a',c',rfl⟩:=hv
   exact h a' c' w' h1 h2

theorem own_empty64 (w:World) (base:Nat) (hb:base≤w.heap.size) (o:Obj) (ho:o=.cells #[] 24 (0,0)):(w.alloc o).ownsRow base 24 1 (.slice (some ⟨w.heap.size,0,none⟩) 0 0) 0 []:=by
 subst ho
 exact World.ownsRow_lit w #[] 0 hb (by unfold maxLen;omega) rfl

structure My (w:World) (r b:Nat) (T:TypeId) (rs cs:Array Value) (L:List FRow) (wr:World):Prop where
 row:wr.heap[b]?=some (.cells cs T (0,0))
 res:wr.heap[r]?=some (.cells rs T (0,0))
 fam:Fam (w.heap.size+1+1) wr.heap.size wr L
 below:Below w.heap.size w wr
 hb:w.heap.size≤b∧b < w.heap.size+1+1
 hr:w.heap.size≤r∧r < w.heap.size+1+1
 ne:r≠b

theorem My.put {w wr:World} {r b:Nat} {T:TypeId} {rs cs:Array Value} {L:List FRow} (h:My w r b T rs cs L wr) (i:Nat) (v:Value):My w r b T rs (cs.setIfInBounds i v) L (wr.setCell ⟨b,i,none⟩ v):=by
 have h1:=h.hb
 have h2:=h.hr
 have h3:=h.ne
 exact ⟨row_set h.row i v,row_far h.res ⟨b,i,none⟩ v h3,(h.fam.set ⟨b,i,none⟩ v (.inl (by dsimp only;omega))).low (Nat.le_refl _) (by rw [size_set];exact Nat.le_refl _),h.below.setCell (p:=⟨b,i,none⟩) (by dsimp only;omega) v,h1,h2,h3⟩

theorem My.lt {w wr:World} {r b:Nat} {T:TypeId} {rs cs:Array Value} {L:List FRow} (h:My w r b T rs cs L wr):w.heap.size+1+1≤wr.heap.size:=by
 have h1:=(Array.getElem?_eq_some_iff.1 h.row).1
 have h2:=(Array.getElem?_eq_some_iff.1 h.res).1
 have h3:=h.hb
 have h4:=h.hr
 have h5:=h.ne
 omega

theorem My.add {w wr wx:World} {r b:Nat} {T:TypeId} {rs cs:Array Value} {L:List FRow} {o:Obj} (h:My w r b T rs cs L wr) (q:FRow) {base g:Nat} (ho:wx.ownsRow base q.t 1 q.v q.n q.xs) (hbase:wr.heap.size=base) (gr:(wr.alloc o).grownBy wx (some g)) (hg:g=wr.heap.size):My w r b T rs cs (L ++ [q]) wx:=by
 subst hg
 subst hbase
 have hb:Below wr.heap.size wr wx:=Below.grown ((Below.refl _ _).alloc (Nat.le_refl _) o) gr (by simp) (fun k hk=>by simp at hk;omega)
 have h4:=h.lt
 exact ⟨dstays hb h.row,dstays hb h.res,(h.fam.below hb).snoc q _ wx.heap.size ho (Nat.le_refl _) h4 (Nat.le_refl _) hb.size,below_trans h.below hb,h.hb,h.hr,h.ne⟩

theorem My.add2 {w wr wx:World} {r b:Nat} {T:TypeId} {rs cs:Array Value} {L:List FRow} (h:My w r b T rs cs L wr) (q1 q2:FRow) (hf:Fam wr.heap.size wx.heap.size wx [q1,q2]) (hb:Below wr.heap.size wr wx):My w r b T rs cs (L ++ [q1,q2]) wx:=by
 have h4:=h.lt
 have hF:=h.fam.below hb
 have hs:=hb.size
 refine ⟨dstays hb h.row,dstays hb h.res,⟨fun q hq=>?_,fun q hq k e=>?_,List.pairwise_append.2 ⟨hF.ne,hf.ne,fun q hq t ht k e e2=>?_⟩⟩,below_trans h.below hb,h.hb,h.hr,h.ne⟩
 ·rcases List.mem_append.1 hq with hq | hq
  ·exact hF.own q hq
  ·exact own_low (hf.own q hq) (by omega)
 ·rcases List.mem_append.1 hq with hq | hq
  ·have:=hF.hi q hq k e
   omega
  ·exact hf.hi q hq k e
 ·have:=hF.hi q hq k e
  have:=((hf.own t ht).lt k e2).1
  omega

set_option maxRecDepth 100000 in
set_option maxHeartbeats 3200000 in
theorem l9Copy_any (M:MV) (A:MA) (w:World) (hl:MLen M) (hs:MSl w M A) :
 Calls Tryz.prog 28 #[.agg #[.int .u64 M.pc,.slice A.ax M.x.length A.cx,.int .i64 M.pr,.slice A.ac M.cs.length A.cc,.slice A.ar M.ram.length A.cr,.int .u64 M.d.t,.int .u64 M.d.cm,.bool M.d.so,.slice A.ai M.d.xs.length A.ci,.slice A.ao M.d.ys.length A.co,.int .i64 M.d.ir,.int .u64 M.hd,.bool M.hl,.bool M.wt]] w fun e w'=>∃ C:MA,e=.returned (.agg (mvc M C))∧Fam w.heap.size w'.heap.size w' (mvF M C)∧Below w.heap.size w w':=by
 have HSL:Hid (∀ W,Below w.heap.size w W→MSl W M A):=fun W hb=>hs.below hb
 have HLN:=dhid hl
 have H4:Hid (∀ w',Below w.heap.size w w'→Calls Tryz.prog 46 #[.agg #[.int .u64 M.d.t,.int .u64 M.d.cm,.bool M.d.so,.slice A.ai M.d.xs.length A.ci,.slice A.ao M.d.ys.length A.co,.int .i64 M.d.ir]] w' fun e w''=>∃ (b1:Option Addr) (d1:Nat) (b2:Option Addr) (d2:Nat),e=.returned (.agg #[.int .u64 M.d.t,.int .u64 M.d.cm,.bool M.d.so,.slice b1 M.d.xs.length d1,.slice b2 M.d.ys.length d2,.int .i64 M.d.ir])∧Fam w'.heap.size w''.heap.size w'' (devF b1 M.d.xs.length d1 M.d.xs b2 M.d.ys.length d2 M.d.ys)∧Below w'.heap.size w' w''):=fun w' hb=>l8Copy_any _ _ _ _ _ _ _ _ _ _ M.d.xs M.d.ys w' rfl rfl hl.xs hl.ys (hs.xs.below hb) (hs.ys.below hb)
 clear hl hs
 go_enter Tryz.func28,Tryz.ntmps28
 obtain ⟨r0,r1⟩:=rows2 (w:=w) (o1:=.cells #[.int .u64 M.pc,.slice A.ax M.x.length A.cx,.int .i64 M.pr,.slice A.ac M.cs.length A.cc,.slice A.ar M.ram.length A.cr,.int .u64 M.d.t,.int .u64 M.d.cm,.bool M.d.so,.slice A.ai M.d.xs.length A.ci,.slice A.ao M.d.ys.length A.co,.int .i64 M.d.ir,.int .u64 M.hd,.bool M.hl,.bool M.wt] 29) (o2:=.cells #[.int .u64 0,.slice none 0 0,.int .i64 0,.slice none 0 0,.slice none 0 0,.int .u64 0,.int .u64 0,.bool false,.slice none 0 0,.slice none 0 0,.int .i64 0,.int .u64 0,.bool false,.bool false] 29) (Below.refl _ _)
 have M0:Hid (My w (w.heap.size+1) w.heap.size 29 #[.int .u64 0,.slice none 0 0,.int .i64 0,.slice none 0 0,.slice none 0 0,.int .u64 0,.int .u64 0,.bool false,.slice none 0 0,.slice none 0 0,.int .i64 0,.int .u64 0,.bool false,.bool false] #[.int .u64 M.pc,.slice A.ax M.x.length A.cx,.int .i64 M.pr,.slice A.ac M.cs.length A.cc,.slice A.ar M.ram.length A.cr,.int .u64 M.d.t,.int .u64 M.d.cm,.bool M.d.so,.slice A.ai M.d.xs.length A.ci,.slice A.ao M.d.ys.length A.co,.int .i64 M.d.ir,.int .u64 M.hd,.bool M.hl,.bool M.wt] [] ((w.alloc (.cells #[.int .u64 M.pc,.slice A.ax M.x.length A.cx,.int .i64 M.pr,.slice A.ac M.cs.length A.cc,.slice A.ar M.ram.length A.cr,.int .u64 M.d.t,.int .u64 M.d.cm,.bool M.d.so,.slice A.ai M.d.xs.length A.ci,.slice A.ao M.d.ys.length A.co,.int .i64 M.d.ir,.int .u64 M.hd,.bool M.hl,.bool M.wt] 29)).alloc (.cells #[.int .u64 0,.slice none 0 0,.int .i64 0,.slice none 0 0,.slice none 0 0,.int .u64 0,.int .u64 0,.bool false,.slice none 0 0,.slice none 0 0,.int .i64 0,.int .u64 0,.bool false,.bool false] 29))):=⟨r0,r1,Fam.nil _ _ _,((Below.refl _ _).alloc (Nat.le_refl _) _).alloc (by simp) _,by omega,by omega,by omega⟩
 clear r0 r1
 have hE:=own_empty64 ((w.alloc (.cells #[.int .u64 M.pc,.slice A.ax M.x.length A.cx,.int .i64 M.pr,.slice A.ac M.cs.length A.cc,.slice A.ar M.ram.length A.cr,.int .u64 M.d.t,.int .u64 M.d.cm,.bool M.d.so,.slice A.ai M.d.xs.length A.ci,.slice A.ao M.d.ys.length A.co,.int .i64 M.d.ir,.int .u64 M.hd,.bool M.hl,.bool M.wt] 29)).alloc (.cells #[.int .u64 0,.slice none 0 0,.int .i64 0,.slice none 0 0,.slice none 0 0,.int .u64 0,.int .u64 0,.bool false,.slice none 0 0,.slice none 0 0,.int .i64 0,.int .u64 0,.bool false,.bool false] 29)) ((w.alloc (.cells #[.int .u64 M.pc,.slice A.ax M.x.length A.cx,.int .i64 M.pr,.slice A.ac M.cs.length A.cc,.slice A.ar M.ram.length A.cr,.int .u64 M.d.t,.int .u64 M.d.cm,.bool M.d.so,.slice A.ai M.d.xs.length A.ci,.slice A.ao M.d.ys.length A.co,.int .i64 M.d.ir,.int .u64 M.hd,.bool M.hl,.bool M.wt] 29)).alloc (.cells #[.int .u64 0,.slice none 0 0,.int .i64 0,.slice none 0 0,.slice none 0 0,.int .u64 0,.int .u64 0,.bool false,.slice none 0 0,.slice none 0 0,.int .i64 0,.int .u64 0,.bool false,.bool false] 29)).heap.size (Nat.le_refl _) (.cells #[] 24 (0,0)) rfl
 rw [World.size_alloc,World.size_alloc] at hE
 go_wp2_with (first
  | (at_builtin;refine wpList_app64 rfl (.tmp 3) (.tmp 5) rfl _ _ rfl hE A.ax M.x.length A.cx M.x rfl rfl HLN.out.x (HSL.out _ (M0.out.below.alloc M0.out.below.size _)).x (by simp) ?_;intro kx lx w1 ow1 gr1;have M1:=dhid (M0.out.add (wRow kx M.x.length lx M.x) ow1 (by simp) gr1 (by simp));clear ow1 gr1;obtain ⟨p0,p1,p2,p3,p4,p5,p6,p7,p8,p9,p10,p11,p12,p13⟩:=cells14 M1.out.row;obtain ⟨f0,f1,f2,f3,f4,f5,f6,f7,f8,f9,f10,f11,f12,f13⟩:=froz14 M1.out.row;have M2:Hid (My w (w.heap.size+1) w.heap.size 29 #[.int .u64 0,.slice none 0 0,.int .i64 0,.slice none 0 0,.slice none 0 0,.int .u64 0,.int .u64 0,.bool false,.slice none 0 0,.slice none 0 0,.int .i64 0,.int .u64 0,.bool false,.bool false] #[.int .u64 M.pc,.slice kx M.x.length lx,.int .i64 M.pr,.slice A.ac M.cs.length A.cc,.slice A.ar M.ram.length A.cr,.int .u64 M.d.t,.int .u64 M.d.cm,.bool M.d.so,.slice A.ai M.d.xs.length A.ci,.slice A.ao M.d.ys.length A.co,.int .i64 M.d.ir,.int .u64 M.hd,.bool M.hl,.bool M.wt] [wRow kx M.x.length lx M.x] (w1.setCell ⟨w.heap.size,1,none⟩ (.slice kx M.x.length lx))):=M1.out.put 1 _;have hE2:=own_empty64 (w1.setCell ⟨w.heap.size,1,none⟩ (.slice kx M.x.length lx)) w1.heap.size (by rw [size_set];exact Nat.le_refl _) (.cells #[] 24 (0,0)) rfl;rw [size_set] at hE2;have n3:=fun o=>(cells14 (row_al8 M2.out.row o)).2.2.2.1)
  | (at_builtin;refine wpList_app64 rfl (.tmp 8) (.tmp 10) rfl _ _ rfl hE2 A.ac M.cs.length A.cc M.cs rfl rfl HLN.out.cs (HSL.out _ (M2.out.below.alloc M2.out.below.size _)).cs (by rw [World.size_alloc,size_set];omega) ?_;intro kc lc w2 ow2 gr2;have M3:=dhid (M2.out.add (wRow kc M.cs.length lc M.cs) ow2 (by rw [size_set]) gr2 (by rw [size_set]));clear ow2 gr2 n3;clear p0 f0 p1 f1 p2 f2 p3 f3 p4 f4 p5 f5 p6 f6 p7 f7 p8 f8 p9 f9 p10 f10 p11 f11 p12 f12 p13 f13;obtain ⟨p0,p1,p2,p3,p4,p5,p6,p7,p8,p9,p10,p11,p12,p13⟩:=cells14 M3.out.row;obtain ⟨f0,f1,f2,f3,f4,f5,f6,f7,f8,f9,f10,f11,f12,f13⟩:=froz14 M3.out.row;have M4:Hid (My w (w.heap.size+1) w.heap.size 29 #[.int .u64 0,.slice none 0 0,.int .i64 0,.slice none 0 0,.slice none 0 0,.int .u64 0,.int .u64 0,.bool false,.slice none 0 0,.slice none 0 0,.int .i64 0,.int .u64 0,.bool false,.bool false] #[.int .u64 M.pc,.slice kx M.x.length lx,.int .i64 M.pr,.slice kc M.cs.length lc,.slice A.ar M.ram.length A.cr,.int .u64 M.d.t,.int .u64 M.d.cm,.bool M.d.so,.slice A.ai M.d.xs.length A.ci,.slice A.ao M.d.ys.length A.co,.int .i64 M.d.ir,.int .u64 M.hd,.bool M.hl,.bool M.wt] [wRow kx M.x.length lx M.x,wRow kc M.cs.length lc M.cs] (w2.setCell ⟨w.heap.size,3,none⟩ (.slice kc M.cs.length lc))):=M3.out.put 3 _;have hE3:=own_empty8 (w2.setCell ⟨w.heap.size,3,none⟩ (.slice kc M.cs.length lc)) w2.heap.size (by rw [size_set];exact Nat.le_refl _) (.cells #[] 5 (0,0)) rfl;rw [size_set] at hE3;have n4:=fun o=>(cells14 (row_al8 M4.out.row o)).2.2.2.2.1)
  | (at_builtin;refine wpList_app8 rfl (.tmp 13) (.tmp 15) rfl _ _ rfl hE3 A.ar M.ram.length A.cr M.ram rfl rfl HLN.out.ram (HSL.out _ (M4.out.below.alloc M4.out.below.size _)).ram (by rw [World.size_alloc,size_set];omega) ?_;intro kr lr w3 ow3 gr3;have M5:=dhid (M4.out.add (bRow kr M.ram.length lr M.ram) ow3 (by rw [size_set]) gr3 (by rw [size_set]));clear ow3 gr3 n4;clear p0 f0 p1 f1 p2 f2 p3 f3 p4 f4 p5 f5 p6 f6 p7 f7 p8 f8 p9 f9 p10 f10 p11 f11 p12 f12 p13 f13;obtain ⟨p0,p1,p2,p3,p4,p5,p6,p7,p8,p9,p10,p11,p12,p13⟩:=cells14 M5.out.row;obtain ⟨f0,f1,f2,f3,f4,f5,f6,f7,f8,f9,f10,f11,f12,f13⟩:=froz14 M5.out.row;have M6:Hid (My w (w.heap.size+1) w.heap.size 29 #[.int .u64 0,.slice none 0 0,.int .i64 0,.slice none 0 0,.slice none 0 0,.int .u64 0,.int .u64 0,.bool false,.slice none 0 0,.slice none 0 0,.int .i64 0,.int .u64 0,.bool false,.bool false] #[.int .u64 M.pc,.slice kx M.x.length lx,.int .i64 M.pr,.slice kc M.cs.length lc,.slice kr M.ram.length lr,.int .u64 M.d.t,.int .u64 M.d.cm,.bool M.d.so,.slice A.ai M.d.xs.length A.ci,.slice A.ao M.d.ys.length A.co,.int .i64 M.d.ir,.int .u64 M.hd,.bool M.hl,.bool M.wt] [wRow kx M.x.length lx M.x,wRow kc M.cs.length lc M.cs,bRow kr M.ram.length lr M.ram] (w3.setCell ⟨w.heap.size,4,none⟩ (.slice kr M.ram.length lr))):=M5.out.put 4 _;obtain ⟨-,-,-,-,-,z5,z6,z7,z8,z9,z10,-,-,-⟩:=cells14 M6.out.row))
 refine (H4.out _ M6.out.below).mono ?_
 rintro e w4 ⟨ki,li,ko,lo,rfl,fm4,hb4⟩
 have M7:=dhid (M6.out.add2 (bRow ki M.d.xs.length li M.d.xs) (bRow ko M.d.ys.length lo M.d.ys) fm4 hb4)
 clear fm4 hb4 z5 z6 z7 z8 z9 z10
 clear p0 f0 p1 f1 p2 f2 p3 f3 p4 f4 p5 f5 p6 f6 p7 f7 p8 f8 p9 f9 p10 f10 p11 f11 p12 f12 p13 f13
 obtain ⟨p0,p1,p2,p3,p4,p5,p6,p7,p8,p9,p10,p11,p12,p13⟩:=cells14 M7.out.row
 obtain ⟨f0,f1,f2,f3,f4,f5,f6,f7,f8,f9,f10,f11,f12,f13⟩:=froz14 M7.out.row
 obtain ⟨r0,r1,r2,r3,r4,r5,r6,r7,r8,r9,r10,r11,r12,r13⟩:=cells14 M7.out.res
 obtain ⟨y0,y1,y2,y3,y4,y5,y6,y7,y8,y9,y10,y11,y12,y13⟩:=froz14 M7.out.res
 go_wp2_with fail
 have M8:=((((((M7.out.put 5 (.int .u64 M.d.t)).put 6 (.int .u64 M.d.cm)).put 7 (.bool M.d.so)).put 8 (.slice ki M.d.xs.length li)).put 9 (.slice ko M.d.ys.length lo)).put 10 (.int .i64 M.d.ir))
 have T1:=row_put14 M8.res (.int .u64 M.pc) (.slice kx M.x.length lx) (.int .i64 M.pr) (.slice kc M.cs.length lc) (.slice kr M.ram.length lr) (.int .u64 M.d.t) (.int .u64 M.d.cm) (.bool M.d.so) (.slice ki M.d.xs.length li) (.slice ko M.d.ys.length lo) (.int .i64 M.d.ir) (.int .u64 M.hd) (.bool M.hl) (.bool M.wt)
 exact bodyPost_ret (results_cell_row Tryz.results28 _ _ _ _ _ _ _ rfl T1 Tryz.underlying29 rfl mac_size) rfl ⟨⟨kx,lx,kc,lc,kr,lr,ki,li,ko,lo⟩,rfl,(M8.fam.put14 (w.heap.size+1) (.inl (by omega)) (.int .u64 M.pc) (.slice kx M.x.length lx) (.int .i64 M.pr) (.slice kc M.cs.length lc) (.slice kr M.ram.length lr) (.int .u64 M.d.t) (.int .u64 M.d.cm) (.bool M.d.so) (.slice ki M.d.xs.length li) (.slice ko M.d.ys.length lo) (.int .i64 M.d.ir) (.int .u64 M.hd) (.bool M.hl) (.bool M.wt)).low (by omega) (by simp only [size_set];exact Nat.le_refl _),below_put14 M8.below (by omega) (.int .u64 M.pc) (.slice kx M.x.length lx) (.int .i64 M.pr) (.slice kc M.cs.length lc) (.slice kr M.ram.length lr) (.int .u64 M.d.t) (.int .u64 M.d.cm) (.bool M.d.so) (.slice ki M.d.xs.length li) (.slice ko M.d.ys.length lo) (.int .i64 M.d.ir) (.int .u64 M.hd) (.bool M.hl) (.bool M.wt)⟩

end Go.Proofs.YtbajeckeeekhnaaGreat
