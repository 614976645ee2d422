/- Own lemmas. -/
import Derived.Test.YtfagphfjfhpmjaaGreatDoorAut
import Derived.Test.YtfagphfjfhpmjaaGreatDoorK03
import Derived.Test.YtfagphfjfhpmjaaGreatDoorK06
import Derived.Deep.RegionWith
set_option maxRecDepth 100000
set_option maxHeartbeats 40000000
namespace Go.Proofs.YtfagphfjfhpmjaaGreatDoor
open Go.RowKit Tryz
open IntKind renaming u64->Uz
set_option linter.unusedVariables false
variable {s x:Nat} {l w:World} {b:List Int} {p:TypeId} {r a:Array Value} {k A:MA} {B m:Int} {D:List FRow} {L:Type} {M:MV} (E:DV) (T c:MV) (v:MA) (d:List Int) (g:Bool) (o y:Int) (R:Option Addr) (f j n:Nat) (z:World) (C:Bool) (F K:Int)
theorem nH {r:Array Oper} {rest:List Oper} {o:Oper} {a:Act} {Q:Exit->Act->World->Prop} (p:o.guard=none) (s x:Operand) (I:o.op=.call {callee:=.builtin .append,args:=#[s,x],argTypes:=#[23,23]}) (base g:Nat) (hs:a.eval s=.slice (some ⟨g,0,none⟩) 0 0) (d:l.ownsRow base 22 1 (.slice (some ⟨g,0,none⟩) 0 0) 0 []) (ad:Option Addr) (m c:Nat) (zs:List Int) (hx:a.eval x=.slice ad m c) (hz:zs.length=m) (hm:m<=1048576) (q:Sl .u64 l ad zs) (f:base<=l.heap.size) (h:∀ w n t,t.ownsRow base 22 1 (.slice w m n) m (zs.map (Value.int .u64))->l.grownBy t (some g)->wpList prog r Q rest (a.put o.dst (.slice w m n)) t):wpList prog r Q (o::rest) a l:=by
 obtain ⟨J,H,B,C,D⟩:=info_parts Bh;cases ad with
 | none =>
   have z:m=0:=by
    rcases Nat.eq_zero_or_pos m with G|G;·exact G
    ·obtain ⟨b,F,e,_⟩:=q 0 ab;cases e
   subst z;have E:zs=[]:=List.length_eq_zero_iff.1 hz;subst E;refine wpList_plain p λK O=>?_;have S:=run_append_room_src (P:=prog) l 23 23 o.type 22 J underlying23 H g 0 0 0 (.slice none 0 c) 0 [] (Src.ofNil l underlying23 c) ab (λj i=>by simp at i) (λj i=>by simp at i);unfold Oper.wp execOp;simp only [I,resolve,invoke,builtin,Sem.run_bind,Sem.run_pure,Result.andThen_ok,List.map_toArray,List.map_cons,List.map_nil,hs,hx,S];exact O _ _ (h _ _ l d ⟨rfl,rfl,rfl,Nat.le_refl _,λ_ _ _=>rfl⟩)
 | some A =>
   have k:∀ j u,(zs.map (Value.int .u64))[j]?=some u->l.cell? (A.add j)=some u:=by
    intro j u v;have i:j<zs.length:=by
     rcases Nat.lt_or_ge j zs.length with h|h;·exact h
     ·rw [List.getElem?_eq_none el] at v;cases v
    obtain ⟨b,F,e,_,R⟩:=q j i;cases e;rw [zp,R];rw [List.getElem?_map,List.getElem?_eq_getElem i] at v;rw [List.getD_eq_getElem?_getD,List.getElem?_eq_getElem i];exact v
   refine wpList_append_own _ p s x 23 I base 22 J (.u 0) 1 8 underlying23 H B C D rfl bc _ 0 [] hs d A m c (zs.map (Value.int .u64)) hx (by rw [List.length_map,hz];omega) k (ints_oneCell _ _) et ab f ?_;intro U t y N W;simp only [Nat.zero_add,List.nil_append] at y;have T:∃ w n,U=.slice w m n:=by
    rcases y.2 with ⟨e,M⟩|⟨V,cap,L,e,_⟩;·exact ⟨none,0,by rw [e,M]⟩
    ·exact ⟨_,_,e⟩
   obtain ⟨w,n,rfl⟩:=T;exact h w n t y N
theorem oM (base:Nat) (hb:base<=z.heap.size) (o:Obj) (a:o=.cells #[] 22 (0,0)):(z.alloc o).ownsRow base 22 1 (.slice (some ⟨z.heap.size,0,none⟩) 0 0) 0 []:=by subst a;exact World.ownsRow_lit z #[] 0 hb et rfl
structure My (w:World) (r b:Nat) (T:TypeId) (rs cs:Array Value) (L:List FRow) (wr:World):Prop where
 row:wr.heap[b]?=some (.cells cs T (0,0))
 res:wr.heap[r]?=some (.cells rs T (0,0))
 fam:bA (w.heap.size+1+1) wr.heap.size wr L
 below:Bw w wr
 hb:w.heap.size<=b/\b<w.heap.size+1+1
 hr:w.heap.size<=r/\r<w.heap.size+1+1
 ne:r≠b
theorem My.put {wr:World} {T:TypeId} (h:My l s x T r a D wr) (i:Nat) (v:Value):My l s x T r (a.setIfInBounds i v) D (wr.setCell ⟨x,i,none⟩ v):=by have c:=h.hb;have d:=h.hr;have cs:=h.ne;exact ⟨bI h.row i v,gH h.res ⟨x,i,none⟩ v cs,(h.fam.set ⟨x,i,none⟩ v (.inl di)).low (Nat.le_refl _) eo,h.below.setCell (p:=⟨x,i,none⟩) di v,c,d,cs⟩
theorem My.lt {wr:World} (h:My l s x p r a D wr):l.heap.size+1+1<=wr.heap.size:=by have cs:=(Array.getElem?_eq_some_iff.1 h.row).1;have c:=(Array.getElem?_eq_some_iff.1 h.res).1;have d:=h.hb;have e:=h.hr;have f:=h.ne;omega
theorem My.add {wr wx:World} {o:Obj} (h:My l s x p r a D wr) (q:FRow) {base g:Nat} (j:wx.ownsRow base q.t 1 q.v q.n q.xs) (cs:wr.heap.size=base) (d:(wr.alloc o).grownBy wx (some g)) (f:g=wr.heap.size):My l s x p r a (D++[q]) wx:=by subst f;subst cs;have c:Bw wr wx:=Below.grown ((Below.refl _ _).alloc (Nat.le_refl _) o) d cp (λk i=>by simp at i;omega);have e:=h.lt;exact ⟨bq c h.row,bq c h.res,(h.fam.below c).snoc q _ wx.heap.size j (Nat.le_refl _) e (Nat.le_refl _) c.size,aa h.below c,h.hb,h.hr,h.ne⟩
theorem My.add2 {wr wx:World} (h:My l s x p r a D wr) (d q2:FRow) (c:bA wr.heap.size wx.heap.size wx [d,q2]) (hb:Bw wr wx):My l s x p r a (D++[d,q2]) wx:=by
 have g:=h.lt;have hF:=h.fam.below hb;have i:=hb.size;refine ⟨bq hb h.row,bq hb h.res,⟨λq cs=>?_,λq cs k e=>?_,List.pairwise_append.2 ⟨hF.ne,c.ne,λq cs t f k e e2=>?_⟩⟩,aa h.below hb,h.hb,h.hr,h.ne⟩
 ·rcases List.mem_append.1 cs with cs|cs;·exact hF.own q cs
  ·exact cG (c.own q cs) ab
 ·rcases List.mem_append.1 cs with cs|cs;·have:=hF.hi q cs k e;omega
  ·exact c.hi q cs k e
 ·have:=hF.hi q cs k e;have:=((c.own t f).lt k e2).1;omega
theorem Ff (hl:jR T) (hs:nR z T v): Calls prog 43 #[.agg #[.u T.pc,.slice v.ax T.x.length v.cx,.i T.pr,.slice v.ac T.cs.length v.cc,.slice v.ar T.ram.length v.cr,.u T.d.t,.u T.d.cm,.bool T.d.so,.slice v.ai T.d.xs.length v.ci,.slice v.ao T.d.ys.length v.co,.i T.d.ir,.u T.hd,.bool T.hl,.bool T.wt]] z λe t=>∃ C:MA,e=.returned (.agg (aj T C))/\bA z.heap.size t.heap.size t (aG T C)/\Bw z t:=by
 have B:Hid (∀ W,Bw z W->nR W T v):=λW hb=>hs.below hb
 have w:=aE hl
 have H4:Hid (∀ t,Bw z t->Calls prog 88 #[.agg #[.u T.d.t,.u T.d.cm,.bool T.d.so,.slice v.ai T.d.xs.length v.ci,.slice v.ao T.d.ys.length v.co,.i T.d.ir]] t λe D=>∃ (b1:Option Addr) (d1:Nat) (b2:Option Addr) (d2:Nat),e=.returned (.agg #[.u T.d.t,.u T.d.cm,.bool T.d.so,.slice b1 T.d.xs.length d1,.slice b2 T.d.ys.length d2,.i T.d.ir])/\bA t.heap.size D.heap.size D (fW b1 T.d.xs.length d1 T.d.xs b2 T.d.ys.length d2 T.d.ys)/\Bw t D):=λt hb=>DX _ _ _ _ _ _ _ _ _ _ T.d.xs T.d.ys t rfl rfl hl.xs hl.ys (hs.xs.below hb) (hs.ys.below hb)
 clear hl hs
 go_enter func43,ntmps43
 obtain ⟨r0,r1⟩:=vf (w:=z) (o1:=.cells #[.u T.pc,.slice v.ax T.x.length v.cx,.i T.pr,.slice v.ac T.cs.length v.cc,.slice v.ar T.ram.length v.cr,.u T.d.t,.u T.d.cm,.bool T.d.so,.slice v.ai T.d.xs.length v.ci,.slice v.ao T.d.ys.length v.co,.i T.d.ir,.u T.hd,.bool T.hl,.bool T.wt] 32) (o2:=.cells #[.u 0,.slice none 0 0,.i 0,.slice none 0 0,.slice none 0 0,.u 0,.u 0,.bool false,.slice none 0 0,.slice none 0 0,.i 0,.u 0,.bool false,.bool false] 32) (Below.refl _ _)
 have M0:Hid (My z (z.heap.size+1) z.heap.size 32 #[.u 0,.slice none 0 0,.i 0,.slice none 0 0,.slice none 0 0,.u 0,.u 0,.bool false,.slice none 0 0,.slice none 0 0,.i 0,.u 0,.bool false,.bool false] #[.u T.pc,.slice v.ax T.x.length v.cx,.i T.pr,.slice v.ac T.cs.length v.cc,.slice v.ar T.ram.length v.cr,.u T.d.t,.u T.d.cm,.bool T.d.so,.slice v.ai T.d.xs.length v.ci,.slice v.ao T.d.ys.length v.co,.i T.d.ir,.u T.hd,.bool T.hl,.bool T.wt] [] ((z.alloc (.cells #[.u T.pc,.slice v.ax T.x.length v.cx,.i T.pr,.slice v.ac T.cs.length v.cc,.slice v.ar T.ram.length v.cr,.u T.d.t,.u T.d.cm,.bool T.d.so,.slice v.ai T.d.xs.length v.ci,.slice v.ao T.d.ys.length v.co,.i T.d.ir,.u T.hd,.bool T.hl,.bool T.wt] 32)).alloc (.cells #[.u 0,.slice none 0 0,.i 0,.slice none 0 0,.slice none 0 0,.u 0,.u 0,.bool false,.slice none 0 0,.slice none 0 0,.i 0,.u 0,.bool false,.bool false] 32))):=⟨r0,r1,bA.nil _ _ _,(bal _ _).alloc cp _,ab,ab,ab⟩
 clear r0 r1
 have hE:=oM ((z.alloc (.cells #[.u T.pc,.slice v.ax T.x.length v.cx,.i T.pr,.slice v.ac T.cs.length v.cc,.slice v.ar T.ram.length v.cr,.u T.d.t,.u T.d.cm,.bool T.d.so,.slice v.ai T.d.xs.length v.ci,.slice v.ao T.d.ys.length v.co,.i T.d.ir,.u T.hd,.bool T.hl,.bool T.wt] 32)).alloc (.cells #[.u 0,.slice none 0 0,.i 0,.slice none 0 0,.slice none 0 0,.u 0,.u 0,.bool false,.slice none 0 0,.slice none 0 0,.i 0,.u 0,.bool false,.bool false] 32)) ((z.alloc (.cells #[.u T.pc,.slice v.ax T.x.length v.cx,.i T.pr,.slice v.ac T.cs.length v.cc,.slice v.ar T.ram.length v.cr,.u T.d.t,.u T.d.cm,.bool T.d.so,.slice v.ai T.d.xs.length v.ci,.slice v.ao T.d.ys.length v.co,.i T.d.ir,.u T.hd,.bool T.hl,.bool T.wt] 32)).alloc (.cells #[.u 0,.slice none 0 0,.i 0,.slice none 0 0,.slice none 0 0,.u 0,.u 0,.bool false,.slice none 0 0,.slice none 0 0,.i 0,.u 0,.bool false,.bool false] 32)).heap.size (Nat.le_refl _) (.cells #[] 22 (0,0)) rfl
 rw [World.size_alloc,World.size_alloc] at hE
 go_wp2_with (first
  | (at_builtin;refine nH rfl (.tmp 3) (.tmp 5) rfl _ _ rfl hE v.ax T.x.length v.cx T.x rfl rfl w.out.x (B.out _ (M0.out.below.alloc M0.out.below.size _)).x cp ?_;intro g j w1 ow1 gr1;have M1:=aE (M0.out.add (aJ g T.x.length j T.x) ow1 cp gr1 cp);clear ow1 gr1;obtain ⟨M,U,V,X,Y,Z,p6,p7,p8,p9,l,m,p,q⟩:=aZ M1.out.row;obtain ⟨E,F,G,H,I,J,K,L,N,O,b,c,d,f⟩:=fi M1.out.row;have M2:Hid (My z (z.heap.size+1) z.heap.size 32 #[.u 0,.slice none 0 0,.i 0,.slice none 0 0,.slice none 0 0,.u 0,.u 0,.bool false,.slice none 0 0,.slice none 0 0,.i 0,.u 0,.bool false,.bool false] #[.u T.pc,.slice g T.x.length j,.i T.pr,.slice v.ac T.cs.length v.cc,.slice v.ar T.ram.length v.cr,.u T.d.t,.u T.d.cm,.bool T.d.so,.slice v.ai T.d.xs.length v.ci,.slice v.ao T.d.ys.length v.co,.i T.d.ir,.u T.hd,.bool T.hl,.bool T.wt] [aJ g T.x.length j T.x] (w1.setCell ⟨z.heap.size,1,none⟩ (.slice g T.x.length j))):=M1.out.put 1 _;have hE2:=oM (w1.setCell ⟨z.heap.size,1,none⟩ (.slice g T.x.length j)) w1.heap.size eo (.cells #[] 22 (0,0)) rfl;rw [aT] at hE2;have n3:=λo=>(aZ (de M2.out.row o)).2.2.2.1)
  | (at_builtin;refine nH rfl (.tmp 8) (.tmp 10) rfl _ _ rfl hE2 v.ac T.cs.length v.cc T.cs rfl rfl w.out.cs (B.out _ (M2.out.below.alloc M2.out.below.size _)).cs (by rw [World.size_alloc,aT];omega) ?_;intro r s w2 ow2 gr2;have M3:=aE (M2.out.add (aJ r T.cs.length s T.cs) ow2 (by rw [aT]) gr2 (by rw [aT]));clear ow2 gr2 n3;clear M E U F V G X H Y I Z J p6 K p7 L p8 N p9 O l b m c p d q f;obtain ⟨M,U,V,X,Y,Z,p6,p7,p8,p9,l,m,p,q⟩:=aZ M3.out.row;obtain ⟨E,F,G,H,I,J,K,L,N,O,b,c,d,f⟩:=fi M3.out.row;have M4:Hid (My z (z.heap.size+1) z.heap.size 32 #[.u 0,.slice none 0 0,.i 0,.slice none 0 0,.slice none 0 0,.u 0,.u 0,.bool false,.slice none 0 0,.slice none 0 0,.i 0,.u 0,.bool false,.bool false] #[.u T.pc,.slice g T.x.length j,.i T.pr,.slice r T.cs.length s,.slice v.ar T.ram.length v.cr,.u T.d.t,.u T.d.cm,.bool T.d.so,.slice v.ai T.d.xs.length v.ci,.slice v.ao T.d.ys.length v.co,.i T.d.ir,.u T.hd,.bool T.hl,.bool T.wt] [aJ g T.x.length j T.x,aJ r T.cs.length s T.cs] (w2.setCell ⟨z.heap.size,3,none⟩ (.slice r T.cs.length s))):=M3.out.put 3 _;have hE3:=iZ (w2.setCell ⟨z.heap.size,3,none⟩ (.slice r T.cs.length s)) w2.heap.size eo (.cells #[] 5 (0,0)) rfl;rw [aT] at hE3;have n4:=λo=>(aZ (de M4.out.row o)).2.2.2.2.1)
  | (at_builtin;refine ic rfl (.tmp 13) (.tmp 15) rfl _ _ rfl hE3 v.ar T.ram.length v.cr T.ram rfl rfl w.out.ram (B.out _ (M4.out.below.alloc M4.out.below.size _)).ram (by rw [World.size_alloc,aT];omega) ?_;intro u y w3 ow3 gr3;have M5:=aE (M4.out.add (aD u T.ram.length y T.ram) ow3 (by rw [aT]) gr3 (by rw [aT]));clear ow3 gr3 n4;clear M E U F V G X H Y I Z J p6 K p7 L p8 N p9 O l b m c p d q f;obtain ⟨M,U,V,X,Y,Z,p6,p7,p8,p9,l,m,p,q⟩:=aZ M5.out.row;obtain ⟨E,F,G,H,I,J,K,L,N,O,b,c,d,f⟩:=fi M5.out.row;have M6:Hid (My z (z.heap.size+1) z.heap.size 32 #[.u 0,.slice none 0 0,.i 0,.slice none 0 0,.slice none 0 0,.u 0,.u 0,.bool false,.slice none 0 0,.slice none 0 0,.i 0,.u 0,.bool false,.bool false] #[.u T.pc,.slice g T.x.length j,.i T.pr,.slice r T.cs.length s,.slice u T.ram.length y,.u T.d.t,.u T.d.cm,.bool T.d.so,.slice v.ai T.d.xs.length v.ci,.slice v.ao T.d.ys.length v.co,.i T.d.ir,.u T.hd,.bool T.hl,.bool T.wt] [aJ g T.x.length j T.x,aJ r T.cs.length s T.cs,aD u T.ram.length y T.ram] (w3.setCell ⟨z.heap.size,4,none⟩ (.slice u T.ram.length y))):=M5.out.put 4 _;obtain ⟨-,-,-,-,-,z5,z6,z7,z8,z9,z10,-,-,-⟩:=aZ M6.out.row))
 refine (H4.out _ M6.out.below).mono ?_
 rintro e w4 ⟨P,R,Q,S,rfl,fm4,hb4⟩
 have M7:=aE (M6.out.add2 (aD P T.d.xs.length R T.d.xs) (aD Q T.d.ys.length S T.d.ys) fm4 hb4)
 clear fm4 hb4 z5 z6 z7 z8 z9 z10
 clear M E U F V G X H Y I Z J p6 K p7 L p8 N p9 O l b m c p d q f
 obtain ⟨M,U,V,X,Y,Z,p6,p7,p8,p9,l,m,p,q⟩:=aZ M7.out.row
 obtain ⟨E,F,G,H,I,J,K,L,N,O,b,c,d,f⟩:=fi M7.out.row
 obtain ⟨r0,r1,r2,r3,r4,r5,r6,r7,r8,r9,r10,r11,r12,r13⟩:=aZ M7.out.res
 obtain ⟨y0,y1,y2,y3,y4,y5,y6,y7,y8,y9,y10,y11,y12,y13⟩:=fi M7.out.res
 go_wp2_with fail
 have M8:=((((((M7.out.put 5 (.u T.d.t)).put 6 (.u T.d.cm)).put 7 (.bool T.d.so)).put 8 (.slice P T.d.xs.length R)).put 9 (.slice Q T.d.ys.length S)).put 10 (.i T.d.ir))
 have T1:=rO M8.res (.u T.pc) (.slice g T.x.length j) (.i T.pr) (.slice r T.cs.length s) (.slice u T.ram.length y) (.u T.d.t) (.u T.d.cm) (.bool T.d.so) (.slice P T.d.xs.length R) (.slice Q T.d.ys.length S) (.i T.d.ir) (.u T.hd) (.bool T.hl) (.bool T.wt)
 exact bodyPost_ret (results_cell_row results43 _ _ _ _ _ _ _ rfl T1 underlying32 rfl oa) rfl ⟨⟨g,j,r,s,u,y,P,R,Q,S⟩,rfl,(M8.fam.put14 (z.heap.size+1) (.inl ab) (.u T.pc) (.slice g T.x.length j) (.i T.pr) (.slice r T.cs.length s) (.slice u T.ram.length y) (.u T.d.t) (.u T.d.cm) (.bool T.d.so) (.slice P T.d.xs.length R) (.slice Q T.d.ys.length S) (.i T.d.ir) (.u T.hd) (.bool T.hl) (.bool T.wt)).low ab pp,n9 M8.below ab (.u T.pc) (.slice g T.x.length j) (.i T.pr) (.slice r T.cs.length s) (.slice u T.ram.length y) (.u T.d.t) (.u T.d.cm) (.bool T.d.so) (.slice P T.d.xs.length R) (.slice Q T.d.ys.length S) (.i T.d.ir) (.u T.hd) (.bool T.hl) (.bool T.wt)⟩
end Go.Proofs.YtfagphfjfhpmjaaGreatDoor
