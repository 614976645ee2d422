/- Own lemmas. -/
import Derived.Test.YtfekjlcnnjhofaaGreatDoorAut
import Derived.Test.YtfekjlcnnjhofaaGreatDoorK06
import Derived.Test.YtfekjlcnnjhofaaGreatDoorK12H
set_option maxRecDepth 100000
set_option maxHeartbeats 3200000
namespace Go.Proofs.YtfekjlcnnjhofaaGreatDoor
open Go.RowKit Tryz
open List renaming mem_append_right->A5,mem_append_left->A6,mem_cons->A8,pairwise_append->A9,mem_append->C5
open Nat renaming le_refl->C6
set_option linter.unusedVariables false
variable {w:World} {c:Nat} (a:Option Addr)
theorem yX (n c:Nat) (w:World):(binOp .eql 25 (.slice a n c) (.slice none 0 0)).run prog w=.ok (.bool a.isNone) w:=by simp only [binOp];simp [run_equal_slice_nil w 25 24 a n c underlying25]
theorem pe (n c:Nat) (zs:List Int) (w:World) (hz:zs.length=n) (hn:n<=1048576) (f:Sl .u64 w a zs): Calls prog 39 #[.slice a n c] w λe q=>∃ (m:Option Addr) (o:Nat),e=.returned (.slice m n o)/\q.ownsRow w.heap.size 24 1 (.slice m n o) n (zs.map (Value.int .u64))/\Bw w q:=by
 cases a with
 | none =>
   have A:zs=[]:=by
    cases zs with
    | nil=>rfl
    | cons z zs=>obtain ⟨b,C,e,_⟩:=f 0 di;cases e
   subst A
   simp only [List.length_nil] at hz
   subst hz
   clear f hn
   have d:=yX none 0 c
   simp only [Option.isNone] at d
   go_enter func39,ntmps39
   go_wp2_with fail
   go_ret
   exact ⟨none,0,rfl,⟨rfl,.inl ⟨rfl,rfl⟩⟩,Below.refl _ _⟩
 | some p =>
   have B:=oR w w.heap.size (C6 _) (.cells #[] 24 (0,0)) rfl
   have s:Hid (Sl .u64 (w.alloc (.cells #[] 24 (0,0))) (some p) zs):=f.below (bal _ _)
   have l:Hid (zs.length=n/\n<=1048576):=⟨hz,hn⟩
   clear f hz hn
   have d:=yX (some p) n c
   simp only [Option.isNone] at d
   go_enter func39,ntmps39
   go_wp2_with (first
    | (at_builtin;refine nM rfl (.tmp 5) (.tmp 6) rfl w.heap.size _ rfl B (some p) n c zs rfl l.out.1 l.out.2 s.out di ?_;intro u y D j g;have r:=aq (Sx g rfl);have t:=aq j;clear j g))
   go_ret
   exact ⟨u,y,rfl,t.out,r.out⟩
theorem My.addC {wr wx:World} {b:Nat} {T:TypeId} {rs cs:Array Value} {L:List FRow} (h:My w c b T rs cs L wr) (q:FRow) (r:wx.ownsRow wr.heap.size q.t 1 q.v q.n q.xs) (hb:Bw wr wx):My w c b T rs cs (L++[q]) wx:=by have a:=h.lt;exact ⟨aD hb h.row,aD hb h.res,(h.fam.below hb).snoc q _ wx.heap.size r (C6 _) a (C6 _) hb.size,aa h.below hb,h.hb,h.hr,h.ne⟩
theorem bj.mid {B E d:Nat} {L1 L2:List FRow} {q:FRow} (h:bj c d w (L1++L2)) (l:bj B E w [q]) (n:E<=c) (i:B<=c) (o:E<=d):bj B d w (L1++q::L2):=by
 have j:q ∈ [q]:=List.mem_singleton.2 rfl;have b:=A9.1 h.ne;have m:∀ s ∈ L1++L2,∀ k,s.v.ownBlock=some k->c<=k:=λs a k e=>((h.own s a).lt k e).1;have g:∀ k,q.v.ownBlock=some k->k<E:=λk e=>l.hi q j k e;refine ⟨λs a=>?_,λs a k e=>?_,A9.2 ⟨b.1,List.pairwise_cons.2 ⟨λs a k e e2=>?_,b.2.1⟩,λs a t f k e e2=>?_⟩⟩
 ·rcases C5.1 a with a|a;·exact cQ (h.own s (A6 _ a)) i
  ·rcases A8.1 a with rfl|a;·exact l.own s j
   ·exact cQ (h.own s (A5 _ a)) i
 ·rcases C5.1 a with a|a;·exact h.hi s (A6 _ a) k e
  ·rcases A8.1 a with rfl|a;·have:=g k e;omega
   ·exact h.hi s (A5 _ a) k e
 ·have:=g k e;have:=m s (A5 _ a) k e2;omega
 ·rcases A8.1 f with rfl|f;·have:=g k e2;have:=m s (A6 _ a) k e;omega
  ·exact b.2.2 s a t f k e e2
def uo (M:MV) (R:List Int):MV:=⟨M.pc,M.x,M.pr,M.cs,R,M.d,M.hd,M.hl,M.wt⟩
theorem ng (M:MV) (A:MA) (R:List Int) (c:Option Addr) (u d B:Nat) (w:World) (hl:iR M) (hs:oe w M A) (hR:bj B w.heap.size w [aE c u d R]) (hB:B<=w.heap.size) (U:R.length=u):Calls prog 16 #[.agg #[.u M.pc,.slice A.ax M.x.length A.cx,.i M.pr,.slice A.ac M.cs.length A.cc,.slice A.ar M.ram.length A.cr,.u M.d.t,.u M.d.cm,.bool M.d.so,.slice A.ai M.d.xs.length A.ci,.slice A.ao M.d.ys.length A.co,.i M.d.ir,.u M.hd,.bool M.hl,.bool M.wt],.slice c u d] w λe b=>∃ C:MA,C.ar=c/\C.cr=d/\e=.returned (.agg (ak (uo M R) C))/\bj B b.heap.size b (aF (uo M R) C)/\(∀ q ∈ aF (uo M R) C,∀ k,q.v.ownBlock=some k->w.heap.size<=k\/(Value.slice c u d).ownBlock=some k)/\Bw w b:=by
 have HX:Hid (∀ b,Bw w b->Calls prog 39 #[.slice A.ax M.x.length A.cx] b λe f=>∃ (O:Option Addr) (P:Nat),e=.returned (.slice O M.x.length P)/\f.ownsRow b.heap.size 24 1 (.slice O M.x.length P) M.x.length (M.x.map (Value.int .u64))/\Bw b f):=λb L=>pe _ _ _ M.x b rfl hl.x (hs.x.below L);have HC:Hid (∀ b,Bw w b->Calls prog 39 #[.slice A.ac M.cs.length A.cc] b λe f=>∃ (O:Option Addr) (P:Nat),e=.returned (.slice O M.cs.length P)/\f.ownsRow b.heap.size 24 1 (.slice O M.cs.length P) M.cs.length (M.cs.map (Value.int .u64))/\Bw b f):=λb L=>pe _ _ _ M.cs b rfl hl.cs (hs.cs.below L);have HD:Hid (∀ b,Bw w b->Calls prog 40 #[.agg #[.u M.d.t,.u M.d.cm,.bool M.d.so,.slice A.ai M.d.xs.length A.ci,.slice A.ao M.d.ys.length A.co,.i M.d.ir]] b λe f=>∃ (b1:Option Addr) (d1:Nat) (b2:Option Addr) (d2:Nat),e=.returned (.agg #[.u M.d.t,.u M.d.cm,.bool M.d.so,.slice b1 M.d.xs.length d1,.slice b2 M.d.ys.length d2,.i M.d.ir])/\bj b.heap.size f.heap.size f (eX b1 M.d.xs.length d1 M.d.xs b2 M.d.ys.length d2 M.d.ys)/\Bw b f):=λb L=>lJ _ _ _ _ _ _ _ _ _ _ M.d.xs M.d.ys b rfl rfl hl.xs hl.ys (hs.xs.below L) (hs.ys.below L);have HR:=aq hR;have HB:=aq hB;have HN:=aq U;clear hl hs hR hB U;go_enter func16,ntmps16;obtain ⟨r0,r1⟩:=jR (w:=w) (o1:=.cells #[.u M.pc,.slice A.ax M.x.length A.cx,.i M.pr,.slice A.ac M.cs.length A.cc,.slice A.ar M.ram.length A.cr,.u M.d.t,.u M.d.cm,.bool M.d.so,.slice A.ai M.d.xs.length A.ci,.slice A.ao M.d.ys.length A.co,.i M.d.ir,.u M.hd,.bool M.hl,.bool M.wt] 29) (o2:=.cells #[.u 0,.slice none 0 0,.i 0,.slice none 0 0,.slice none 0 0,.u 0,.u 0,.bool false,.slice none 0 0,.slice none 0 0,.i 0,.u 0,.bool false,.bool false] 29) (Below.refl _ _);have M0:Hid (My w (w.heap.size+1) w.heap.size 29 #[.u 0,.slice none 0 0,.i 0,.slice none 0 0,.slice none 0 0,.u 0,.u 0,.bool false,.slice none 0 0,.slice none 0 0,.i 0,.u 0,.bool false,.bool false] #[.u M.pc,.slice A.ax M.x.length A.cx,.i M.pr,.slice A.ac M.cs.length A.cc,.slice A.ar M.ram.length A.cr,.u M.d.t,.u M.d.cm,.bool M.d.so,.slice A.ai M.d.xs.length A.ci,.slice A.ao M.d.ys.length A.co,.i M.d.ir,.u M.hd,.bool M.hl,.bool M.wt] [] ((w.alloc (.cells #[.u M.pc,.slice A.ax M.x.length A.cx,.i M.pr,.slice A.ac M.cs.length A.cc,.slice A.ar M.ram.length A.cr,.u M.d.t,.u M.d.cm,.bool M.d.so,.slice A.ai M.d.xs.length A.ci,.slice A.ao M.d.ys.length A.co,.i M.d.ir,.u M.hd,.bool M.hl,.bool M.wt] 29)).alloc (.cells #[.u 0,.slice none 0 0,.i 0,.slice none 0 0,.slice none 0 0,.u 0,.u 0,.bool false,.slice none 0 0,.slice none 0 0,.i 0,.u 0,.bool false,.bool false] 29))):=⟨r0,r1,bj.nil _ _ _,(bal _ _).alloc di _,ab,ab,ab⟩;clear r0 r1;go_wp2_with fail;refine (HX.out _ M0.out.below).mono ?_;rintro e w1 ⟨j,l,rfl,V,S⟩;have M1:=aq (M0.out.addC (aG j M.x.length l M.x) V S);clear V S;obtain ⟨p0,p1,p2,p3,p4,p5,p6,p7,p8,p9,y,z,D,E⟩:=aX M1.out.row;obtain ⟨Y,Z,f2,f3,f4,f5,f6,f7,f8,f9,p,r,s,t⟩:=fg M1.out.row;have M2:Hid (My w (w.heap.size+1) w.heap.size 29 #[.u 0,.slice none 0 0,.i 0,.slice none 0 0,.slice none 0 0,.u 0,.u 0,.bool false,.slice none 0 0,.slice none 0 0,.i 0,.u 0,.bool false,.bool false] #[.u M.pc,.slice j M.x.length l,.i M.pr,.slice A.ac M.cs.length A.cc,.slice A.ar M.ram.length A.cr,.u M.d.t,.u M.d.cm,.bool M.d.so,.slice A.ai M.d.xs.length A.ci,.slice A.ao M.d.ys.length A.co,.i M.d.ir,.u M.hd,.bool M.hl,.bool M.wt] [aG j M.x.length l M.x] (w1.setCell ⟨w.heap.size,1,none⟩ (.slice j M.x.length l))):=M1.out.put 1 _;have n3:=(aX M2.out.row).2.2.2.1;go_wp2_with fail;refine (HC.out _ M2.out.below).mono ?_;rintro e w2 ⟨m,o,rfl,W,T⟩;have M3:=aq (M2.out.addC (aG m M.cs.length o M.cs) W T);clear W T n3;clear p0 p1 p2 p3 p4 p5 p6 p7 p8 p9 y z D E Y Z f2 f3 f4 f5 f6 f7 f8 f9 p r s t;obtain ⟨p0,p1,p2,p3,p4,p5,p6,p7,p8,p9,y,z,D,E⟩:=aX M3.out.row;obtain ⟨Y,Z,f2,f3,f4,f5,f6,f7,f8,f9,p,r,s,t⟩:=fg M3.out.row;have M4:Hid (My w (w.heap.size+1) w.heap.size 29 #[.u 0,.slice none 0 0,.i 0,.slice none 0 0,.slice none 0 0,.u 0,.u 0,.bool false,.slice none 0 0,.slice none 0 0,.i 0,.u 0,.bool false,.bool false] #[.u M.pc,.slice j M.x.length l,.i M.pr,.slice m M.cs.length o,.slice A.ar M.ram.length A.cr,.u M.d.t,.u M.d.cm,.bool M.d.so,.slice A.ai M.d.xs.length A.ci,.slice A.ao M.d.ys.length A.co,.i M.d.ir,.u M.hd,.bool M.hl,.bool M.wt] [aG j M.x.length l M.x,aG m M.cs.length o M.cs] (w2.setCell ⟨w.heap.size,3,none⟩ (.slice m M.cs.length o))):=M3.out.put 3 _;have X:Hid (My w (w.heap.size+1) w.heap.size 29 #[.u 0,.slice none 0 0,.i 0,.slice none 0 0,.slice none 0 0,.u 0,.u 0,.bool false,.slice none 0 0,.slice none 0 0,.i 0,.u 0,.bool false,.bool false] #[.u M.pc,.slice j M.x.length l,.i M.pr,.slice m M.cs.length o,.slice c u d,.u M.d.t,.u M.d.cm,.bool M.d.so,.slice A.ai M.d.xs.length A.ci,.slice A.ao M.d.ys.length A.co,.i M.d.ir,.u M.hd,.bool M.hl,.bool M.wt] [aG j M.x.length l M.x,aG m M.cs.length o M.cs] ((w2.setCell ⟨w.heap.size,3,none⟩ (.slice m M.cs.length o)).setCell ⟨w.heap.size,4,none⟩ (.slice c u d))):=M4.out.put 4 _;obtain ⟨-,-,-,-,v4,-,-,-,-,-,-,-,-,-⟩:=aX M4.out.row;obtain ⟨-,-,-,-,u4,-,-,-,-,-,-,-,-,-⟩:=fg M4.out.row;obtain ⟨-,-,-,-,-,z5,z6,z7,z8,z9,z10,-,-,-⟩:=aX X.out.row;go_wp2_with fail;refine (HD.out _ X.out.below).mono ?_;rintro e w4 ⟨F,H,G,I,rfl,Q,J⟩;have K:=aq (X.out.add2 (aE F M.d.xs.length H M.d.xs) (aE G M.d.ys.length I M.d.ys) Q J);have BR:=aq (aa X.out.below J);clear Q J z5 z6 z7 z8 z9 z10 v4 u4;clear p0 p1 p2 p3 p4 p5 p6 p7 p8 p9 y z D E Y Z f2 f3 f4 f5 f6 f7 f8 f9 p r s t;obtain ⟨p0,p1,p2,p3,p4,p5,p6,p7,p8,p9,y,z,D,E⟩:=aX K.out.row;obtain ⟨Y,Z,f2,f3,f4,f5,f6,f7,f8,f9,p,r,s,t⟩:=fg K.out.row;obtain ⟨r0,r1,r2,r3,r4,r5,r6,r7,r8,r9,r10,r11,r12,r13⟩:=aX K.out.res;obtain ⟨y0,y1,y2,y3,y4,y5,y6,y7,y8,y9,y10,y11,y12,y13⟩:=fg K.out.res;go_wp2_with fail;have M8:=((((((K.out.put 5 (.u M.d.t)).put 6 (.u M.d.cm)).put 7 (.bool M.d.so)).put 8 (.slice F M.d.xs.length H)).put 9 (.slice G M.d.ys.length I)).put 10 (.i M.d.ir));have T1:=rQ M8.res (.u M.pc) (.slice j M.x.length l) (.i M.pr) (.slice m M.cs.length o) (.slice c u d) (.u M.d.t) (.u M.d.cm) (.bool M.d.so) (.slice F M.d.xs.length H) (.slice G M.d.ys.length I) (.i M.d.ir) (.u M.hd) (.bool M.hl) (.bool M.wt);have N:=M8.fam.put14 (w.heap.size+1) (.inl ab) (.u M.pc) (.slice j M.x.length l) (.i M.pr) (.slice m M.cs.length o) (.slice c u d) (.u M.d.t) (.u M.d.cm) (.bool M.d.so) (.slice F M.d.xs.length H) (.slice G M.d.ys.length I) (.i M.d.ir) (.u M.hd) (.bool M.hl) (.bool M.wt);have B1:=og M8.below (g:=w.heap.size+1) ab (.u M.pc) (.slice j M.x.length l) (.i M.pr) (.slice m M.cs.length o) (.slice c u d) (.u M.d.t) (.u M.d.cm) (.bool M.d.so) (.slice F M.d.xs.length H) (.slice G M.d.ys.length I) (.i M.d.ir) (.u M.hd) (.bool M.hl) (.bool M.wt);have hn:=HN.out;refine bodyPost_ret (results_cell_row results16 _ _ _ _ _ _ _ rfl T1 underlying29 rfl oh) rfl ⟨⟨j,l,m,o,c,d,F,H,G,I⟩,rfl,rfl,by rw [<- hn];rfl,by rw [<- hn] at HR;exact bj.mid (L1:=[aG j M.x.length l M.x,aG m M.cs.length o M.cs]) (L2:=[aE F M.d.xs.length H M.d.xs,aE G M.d.ys.length I M.d.ys]) (q:=aE c R.length d R) (N.low (C6 _) ko) (HR.out.below B1) ab (by have:=HB.out;omega) (by simp only [aO];have:=K.out.lt;omega),λq hq k e=>?_,B1⟩;simp only [aF,uo,A8,List.not_mem_nil,or_false] at hq;rcases hq with rfl | rfl | rfl | rfl | rfl;·exact .inl (by have:=((N.own (aG j M.x.length l M.x) di).lt k e).1;omega)
 ·exact .inl (by have:=((N.own (aG m M.cs.length o M.cs) di).lt k e).1;omega)
 ·exact .inr (by rw [<- hn];exact e)
 ·exact .inl (by have:=((N.own (aE F M.d.xs.length H M.d.xs) di).lt k e).1;omega)
 ·exact .inl (by have:=((N.own (aE G M.d.ys.length I M.d.ys) di).lt k e).1;omega)
