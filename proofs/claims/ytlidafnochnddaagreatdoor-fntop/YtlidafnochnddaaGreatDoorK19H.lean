/- Own lemmas. -/
import Derived.Test.YtlidafnochnddaaGreatDoorAut
import Derived.Test.YtlidafnochnddaaGreatDoorK15H
set_option maxRecDepth 100000
set_option maxHeartbeats 3200000
namespace Go.Proofs.YtlidafnochnddaaGreatDoor
open Go.RowKit Tryz
open List renaming mem_append_right->A0,mem_append_left->A5,mem_cons->A6,pairwise_append->F0,mem_append->F3
open Nat renaming le_refl->G3
set_option linter.unusedVariables false
variable {w:World} {c:Nat} (a:Option Addr)
theorem xx (n c:Nat) (w:World):(binOp .eql 31 (.slice a n c) (.slice none 0 0)).run prog w=.ok (.bool a.isNone) w:=by simp only [binOp];simp [run_equal_slice_nil w 31 32 a n c underlying31]
theorem oa (n c:Nat) (zs:List Int) (w:World) (hz:zs.length=n) (hn:n<=1048576) (f:Sl .u64 w a zs): Calls prog 109 #[.slice a n c] w λe q=>∃ (m:Option Addr) (o:Nat),e=.returned (.slice m n o)/\q.ownsRow w.heap.size 32 1 (.slice m n o) n (zs.map (Value.int .u64))/\Bw w q:=by
 cases a with
 | none =>
   have A:zs=[]:=by
    cases zs with
    | nil=>rfl
    | cons z zs=>obtain ⟨b,C,e,_⟩:=f 0 bh;cases e
   subst A
   simp only [List.length_nil] at hz
   subst hz
   clear f hn
   have d:=xx none 0 c
   simp only [Option.isNone] at d
   go_enter func109,ntmps109
   go_wp2_with fail
   go_ret
   exact ⟨none,0,rfl,⟨rfl,.inl ⟨rfl,rfl⟩⟩,Below.refl _ _⟩
 | some p =>
   have B:=AT w w.heap.size (G3 _) (.cells #[] 32 (0,0)) rfl
   have s:Hid (Sl .u64 (w.alloc (.cells #[] 32 (0,0))) (some p) zs):=f.below (bal _ _)
   have l:Hid (zs.length=n/\n<=1048576):=⟨hz,hn⟩
   clear f hz hn
   have d:=xx (some p) n c
   simp only [Option.isNone] at d
   go_enter func109,ntmps109
   go_wp2_with (first
    | (at_builtin;refine yT rfl (.tmp 5) (.tmp 6) rfl w.heap.size _ rfl B (some p) n c zs rfl l.out.1 l.out.2 s.out bh ?_;intro u y D j g;have r:=ah (QZ g rfl);have t:=ah j;clear j g))
   go_ret
   exact ⟨u,y,rfl,t.out,r.out⟩
theorem My.addC {wr wx:World} {b:Nat} {T:TypeId} {rs cs:Array Value} {L:List FRow} (h:My w c b T rs cs L wr) (q:FRow) (r:wx.ownsRow wr.heap.size q.t 1 q.v q.n q.xs) (hb:Bw wr wx):My w c b T rs cs (L++[q]) wx:=by have a:=h.lt;exact ⟨aA hb h.row,aA hb h.res,(h.fam.below hb).snoc q _ wx.heap.size r (G3 _) a (G3 _) hb.size,ae h.below hb,h.hb,h.hr,h.ne⟩
theorem bi.mid {B E f:Nat} {L1 L2:List FRow} {q:FRow} (h:bi c f w (L1++L2)) (m:bi B E w [q]) (o:E<=c) (j:B<=c) (p:E<=f):bi B f w (L1++q::L2):=by
 have l:q ∈ [q]:=List.mem_singleton.2 rfl;have b:=F0.1 h.ne;have n:∀ s ∈ L1++L2,∀ k,s.v.ownBlock=some k->c<=k:=λs a k e=>((h.own s a).lt k e).1;have i:∀ k,q.v.ownBlock=some k->k<E:=λk e=>m.hi q l k e;refine ⟨λs a=>?_,λs a k e=>?_,F0.2 ⟨b.1,List.pairwise_cons.2 ⟨λs a k e d=>?_,b.2.1⟩,λs a t g k e d=>?_⟩⟩
 ·rcases F3.1 a with a|a;·exact cS (h.own s (A5 _ a)) j
  ·rcases A6.1 a with rfl|a;·exact m.own s l
   ·exact cS (h.own s (A0 _ a)) j
 ·rcases F3.1 a with a|a;·exact h.hi s (A5 _ a) k e
  ·rcases A6.1 a with rfl|a;·have:=i k e;omega
   ·exact h.hi s (A0 _ a) k e
 ·have:=i k e;have:=n s (A0 _ a) k d;omega
 ·rcases A6.1 g with rfl|g;·have:=i k d;have:=n s (A5 _ a) k e;omega
  ·exact b.2.2 s a t g k e d
def sO (M:MV) (R:List Int):MV:=⟨M.pc,M.x,M.pr,M.cs,R,M.d,M.hd,M.hl,M.wt⟩
theorem l6 (M:MV) (A:MA) (R:List Int) (c:Option Addr) (u d B:Nat) (w:World) (hl:iW M) (V:D7 w M A) (hR:bi B w.heap.size w [aI c u d R]) (hB:B<=w.heap.size) (U:R.length=u):Calls prog 81 #[.agg #[.u M.pc,.slice A.ax M.x.length A.cx,.i M.pr,.slice A.ac M.cs.length A.cc,.slice A.ar M.ram.length A.cr,.u M.d.t,.u M.d.cm,.bool M.d.so,.slice A.ai M.d.xs.length A.ci,.slice A.ao M.d.ys.length A.co,.i M.d.ir,.u M.hd,.bool M.hl,.bool M.wt],.slice c u d] w λe b=>∃ C:MA,C.ar=c/\C.cr=d/\e=.returned (.agg (aJ (sO M R) C))/\bi B b.heap.size b (aU (sO M R) C)/\(∀ q ∈ aU (sO M R) C,∀ k,q.v.ownBlock=some k->w.heap.size<=k\/(Value.slice c u d).ownBlock=some k)/\Bw w b:=by
 have HX:Hid (∀ b,Bw w b->Calls prog 109 #[.slice A.ax M.x.length A.cx] b λe f=>∃ (O:Option Addr) (P:Nat),e=.returned (.slice O M.x.length P)/\f.ownsRow b.heap.size 32 1 (.slice O M.x.length P) M.x.length (M.x.map (Value.int .u64))/\Bw b f):=λb L=>oa _ _ _ M.x b rfl hl.x (V.x.below L);have HC:Hid (∀ b,Bw w b->Calls prog 109 #[.slice A.ac M.cs.length A.cc] b λe f=>∃ (O:Option Addr) (P:Nat),e=.returned (.slice O M.cs.length P)/\f.ownsRow b.heap.size 32 1 (.slice O M.cs.length P) M.cs.length (M.cs.map (Value.int .u64))/\Bw b f):=λb L=>oa _ _ _ M.cs b rfl hl.cs (V.cs.below L);have HD:Hid (∀ b,Bw w b->Calls prog 110 #[.agg #[.u M.d.t,.u M.d.cm,.bool M.d.so,.slice A.ai M.d.xs.length A.ci,.slice A.ao M.d.ys.length A.co,.i M.d.ir]] b λe f=>∃ (b1:Option Addr) (d1:Nat) (b2:Option Addr) (d2:Nat),e=.returned (.agg #[.u M.d.t,.u M.d.cm,.bool M.d.so,.slice b1 M.d.xs.length d1,.slice b2 M.d.ys.length d2,.i M.d.ir])/\bi b.heap.size f.heap.size f (oK b1 M.d.xs.length d1 M.d.xs b2 M.d.ys.length d2 M.d.ys)/\Bw b f):=λb L=>kH _ _ _ _ _ _ _ _ _ _ M.d.xs M.d.ys b rfl rfl hl.xs hl.ys (V.xs.below L) (V.ys.below L);have HR:=ah hR;have HB:=ah hB;have HN:=ah U;clear hl V hR hB U;go_enter func81,ntmps81;obtain ⟨r0,r1⟩:=tR (w:=w) (o1:=.cells #[.u M.pc,.slice A.ax M.x.length A.cx,.i M.pr,.slice A.ac M.cs.length A.cc,.slice A.ar M.ram.length A.cr,.u M.d.t,.u M.d.cm,.bool M.d.so,.slice A.ai M.d.xs.length A.ci,.slice A.ao M.d.ys.length A.co,.i M.d.ir,.u M.hd,.bool M.hl,.bool M.wt] 36) (o2:=.cells #[.u 0,.slice none 0 0,.i 0,.slice none 0 0,.slice none 0 0,.u 0,.u 0,.bool false,.slice none 0 0,.slice none 0 0,.i 0,.u 0,.bool false,.bool false] 36) (Below.refl _ _);have M0:Hid (My w (w.heap.size+1) w.heap.size 36 #[.u 0,.slice none 0 0,.i 0,.slice none 0 0,.slice none 0 0,.u 0,.u 0,.bool false,.slice none 0 0,.slice none 0 0,.i 0,.u 0,.bool false,.bool false] #[.u M.pc,.slice A.ax M.x.length A.cx,.i M.pr,.slice A.ac M.cs.length A.cc,.slice A.ar M.ram.length A.cr,.u M.d.t,.u M.d.cm,.bool M.d.so,.slice A.ai M.d.xs.length A.ci,.slice A.ao M.d.ys.length A.co,.i M.d.ir,.u M.hd,.bool M.hl,.bool M.wt] [] ((w.alloc (.cells #[.u M.pc,.slice A.ax M.x.length A.cx,.i M.pr,.slice A.ac M.cs.length A.cc,.slice A.ar M.ram.length A.cr,.u M.d.t,.u M.d.cm,.bool M.d.so,.slice A.ai M.d.xs.length A.ci,.slice A.ao M.d.ys.length A.co,.i M.d.ir,.u M.hd,.bool M.hl,.bool M.wt] 36)).alloc (.cells #[.u 0,.slice none 0 0,.i 0,.slice none 0 0,.slice none 0 0,.u 0,.u 0,.bool false,.slice none 0 0,.slice none 0 0,.i 0,.u 0,.bool false,.bool false] 36))):=⟨r0,r1,bi.nil _ _ _,(bal _ _).alloc bh _,aa,aa,aa⟩;clear r0 r1;go_wp2_with fail;refine (HX.out _ M0.out.below).mono ?_;rintro e w1 ⟨j,l,rfl,W,S⟩;have M1:=ah (M0.out.addC (aK j M.x.length l M.x) W S);clear W S;obtain ⟨p0,p1,p2,p3,p4,p5,p6,p7,p8,p9,y,z,D,E⟩:=br M1.out.row;obtain ⟨Z,f1,f2,f3,f4,f5,f6,f7,f8,f9,p,r,s,t⟩:=fd M1.out.row;have M2:Hid (My w (w.heap.size+1) w.heap.size 36 #[.u 0,.slice none 0 0,.i 0,.slice none 0 0,.slice none 0 0,.u 0,.u 0,.bool false,.slice none 0 0,.slice none 0 0,.i 0,.u 0,.bool false,.bool false] #[.u M.pc,.slice j M.x.length l,.i M.pr,.slice A.ac M.cs.length A.cc,.slice A.ar M.ram.length A.cr,.u M.d.t,.u M.d.cm,.bool M.d.so,.slice A.ai M.d.xs.length A.ci,.slice A.ao M.d.ys.length A.co,.i M.d.ir,.u M.hd,.bool M.hl,.bool M.wt] [aK j M.x.length l M.x] (w1.setCell ⟨w.heap.size,1,none⟩ (.slice j M.x.length l))):=M1.out.put 1 _;have n3:=(br M2.out.row).2.2.2.1;go_wp2_with fail;refine (HC.out _ M2.out.below).mono ?_;rintro e w2 ⟨m,o,rfl,X,T⟩;have M3:=ah (M2.out.addC (aK m M.cs.length o M.cs) X T);clear X T n3;clear p0 p1 p2 p3 p4 p5 p6 p7 p8 p9 y z D E Z f1 f2 f3 f4 f5 f6 f7 f8 f9 p r s t;obtain ⟨p0,p1,p2,p3,p4,p5,p6,p7,p8,p9,y,z,D,E⟩:=br M3.out.row;obtain ⟨Z,f1,f2,f3,f4,f5,f6,f7,f8,f9,p,r,s,t⟩:=fd M3.out.row;have M4:Hid (My w (w.heap.size+1) w.heap.size 36 #[.u 0,.slice none 0 0,.i 0,.slice none 0 0,.slice none 0 0,.u 0,.u 0,.bool false,.slice none 0 0,.slice none 0 0,.i 0,.u 0,.bool false,.bool false] #[.u M.pc,.slice j M.x.length l,.i M.pr,.slice m M.cs.length o,.slice A.ar M.ram.length A.cr,.u M.d.t,.u M.d.cm,.bool M.d.so,.slice A.ai M.d.xs.length A.ci,.slice A.ao M.d.ys.length A.co,.i M.d.ir,.u M.hd,.bool M.hl,.bool M.wt] [aK j M.x.length l M.x,aK m M.cs.length o M.cs] (w2.setCell ⟨w.heap.size,3,none⟩ (.slice m M.cs.length o))):=M3.out.put 3 _;have Y:Hid (My w (w.heap.size+1) w.heap.size 36 #[.u 0,.slice none 0 0,.i 0,.slice none 0 0,.slice none 0 0,.u 0,.u 0,.bool false,.slice none 0 0,.slice none 0 0,.i 0,.u 0,.bool false,.bool false] #[.u M.pc,.slice j M.x.length l,.i M.pr,.slice m M.cs.length o,.slice c u d,.u M.d.t,.u M.d.cm,.bool M.d.so,.slice A.ai M.d.xs.length A.ci,.slice A.ao M.d.ys.length A.co,.i M.d.ir,.u M.hd,.bool M.hl,.bool M.wt] [aK j M.x.length l M.x,aK m M.cs.length o M.cs] ((w2.setCell ⟨w.heap.size,3,none⟩ (.slice m M.cs.length o)).setCell ⟨w.heap.size,4,none⟩ (.slice c u d))):=M4.out.put 4 _;obtain ⟨-,-,-,-,v4,-,-,-,-,-,-,-,-,-⟩:=br M4.out.row;obtain ⟨-,-,-,-,u4,-,-,-,-,-,-,-,-,-⟩:=fd M4.out.row;obtain ⟨-,-,-,-,-,z5,z6,z7,z8,z9,z10,-,-,-⟩:=br Y.out.row;go_wp2_with fail;refine (HD.out _ Y.out.below).mono ?_;rintro e w4 ⟨F,H,G,I,rfl,Q,J⟩;have K:=ah (Y.out.add2 (aI F M.d.xs.length H M.d.xs) (aI G M.d.ys.length I M.d.ys) Q J);have BR:=ah (ae Y.out.below J);clear Q J z5 z6 z7 z8 z9 z10 v4 u4;clear p0 p1 p2 p3 p4 p5 p6 p7 p8 p9 y z D E Z f1 f2 f3 f4 f5 f6 f7 f8 f9 p r s t;obtain ⟨p0,p1,p2,p3,p4,p5,p6,p7,p8,p9,y,z,D,E⟩:=br K.out.row;obtain ⟨Z,f1,f2,f3,f4,f5,f6,f7,f8,f9,p,r,s,t⟩:=fd K.out.row;obtain ⟨r0,r1,r2,r3,r4,r5,r6,r7,r8,r9,r10,r11,r12,r13⟩:=br K.out.res;obtain ⟨y0,y1,y2,y3,y4,y5,y6,y7,y8,y9,y10,y11,y12,y13⟩:=fd K.out.res;go_wp2_with fail;have M8:=((((((K.out.put 5 (.u M.d.t)).put 6 (.u M.d.cm)).put 7 (.bool M.d.so)).put 8 (.slice F M.d.xs.length H)).put 9 (.slice G M.d.ys.length I)).put 10 (.i M.d.ir));have T1:=wJ M8.res (.u M.pc) (.slice j M.x.length l) (.i M.pr) (.slice m M.cs.length o) (.slice c u d) (.u M.d.t) (.u M.d.cm) (.bool M.d.so) (.slice F M.d.xs.length H) (.slice G M.d.ys.length I) (.i M.d.ir) (.u M.hd) (.bool M.hl) (.bool M.wt);have N:=M8.fam.put14 (w.heap.size+1) (.inl aa) (.u M.pc) (.slice j M.x.length l) (.i M.pr) (.slice m M.cs.length o) (.slice c u d) (.u M.d.t) (.u M.d.cm) (.bool M.d.so) (.slice F M.d.xs.length H) (.slice G M.d.ys.length I) (.i M.d.ir) (.u M.hd) (.bool M.hl) (.bool M.wt);have B1:=rI M8.below (g:=w.heap.size+1) aa (.u M.pc) (.slice j M.x.length l) (.i M.pr) (.slice m M.cs.length o) (.slice c u d) (.u M.d.t) (.u M.d.cm) (.bool M.d.so) (.slice F M.d.xs.length H) (.slice G M.d.ys.length I) (.i M.d.ir) (.u M.hd) (.bool M.hl) (.bool M.wt);have hn:=HN.out;refine bodyPost_ret (results_cell_row results81 _ _ _ _ _ _ _ rfl T1 underlying36 rfl ei) rfl ⟨⟨j,l,m,o,c,d,F,H,G,I⟩,rfl,rfl,by rw [<- hn];rfl,by rw [<- hn] at HR;exact bi.mid (L1:=[aK j M.x.length l M.x,aK m M.cs.length o M.cs]) (L2:=[aI F M.d.xs.length H M.d.xs,aI G M.d.ys.length I M.d.ys]) (q:=aI c R.length d R) (N.low (G3 _) (by simp only [cy];exact G3 _)) (HR.out.below B1) aa (by have:=HB.out;omega) (by simp only [cy];have:=K.out.lt;omega),λq hq k e=>?_,B1⟩;simp only [aU,sO,A6,List.not_mem_nil,or_false] at hq;rcases hq with rfl | rfl | rfl | rfl | rfl;·exact .inl (by have:=((N.own (aK j M.x.length l M.x) bh).lt k e).1;omega)
 ·exact .inl (by have:=((N.own (aK m M.cs.length o M.cs) bh).lt k e).1;omega)
 ·exact .inr (by rw [<- hn];exact e)
 ·exact .inl (by have:=((N.own (aI F M.d.xs.length H M.d.xs) bh).lt k e).1;omega)
 ·exact .inl (by have:=((N.own (aI G M.d.ys.length I M.d.ys) bh).lt k e).1;omega)
