/- Own lemmas. -/
import Derived.Test.YtjifdmoehfbihaaGreatDoorAut
import Derived.Test.YtjifdmoehfbihaaGreatDoorK15
set_option maxRecDepth 100000
set_option maxHeartbeats 6400000
namespace Go.Proofs.YtjifdmoehfbihaaGreatDoor
open Go.RowKit Tryz
set_option linter.unusedVariables false
theorem Mp.fld {B r:Nat} {M M':MV} {A:MA} {w:World} (h:Mp B r M A w) (i:Nat) (v:Value) (b:aq M' A=(aq M A).setIfInBounds i v) (a:aI M' A=aI M A):Mp B r M' A (w.setCell ⟨r,i,none⟩ v)/\Kx r (aI M A) (aI M' A) w (w.setCell ⟨r,i,none⟩ v):=by refine ⟨⟨?_,by rw [a];exact Mp.fam_set h.fam h.ne i v,by rw [a];exact h.ne,h.lo⟩,by rw [a];exact Kx.set w i v⟩;rw [b];exact bD h.row i v
theorem FH {r:Nat} {L L':List FRow} {q:FRow} (j:q ∈ L) {b:Nat} (e:q.v.ownBlock=some b) (hs:∀ q ∈ L',∃ c ∈ L,c.v=q.v) (w:World) (i:Nat) (v:Value):Kx r L L' w (w.setCell ⟨b,i,none⟩ v):=
 ⟨rfl,rfl,rfl,ef,λk _ _ h=>Below.heap_setCell w ⟨b,i,none⟩ v k (λe2=>h q j (by rw [e];exact congrArg some e2.symm)),λl a k d _=>by obtain ⟨c,g,f⟩:=hs l a;exact ⟨c,g,by rw [f];exact d⟩⟩
structure Kr where
 b:Nat
 cs:Array Value
 t:TypeId
 tg:List (Nat × Nat)
structure Hx (B r:Nat) (L:List Kr) (M0:MV) (A0:MA) (w0:World) (M:MV) (A:MA) (W:World):Prop where
 mp:Mp B r M A W
 kx:Kx r (aI M0 A0) (aI M A) w0 W
 rows:∀ x ∈ L,W.heap[x.b]?=some (.cells x.cs x.t (0,0))/\x.b≠r/\∀ q ∈ aI M A,q.v.ownBlock≠some x.b
section
variable {B r : Nat} {L : List Kr} {M0 M M' : MV} {A0 A A' : MA} {w0 W W' : World}
theorem Hx.step (h:Hx B r L M0 A0 w0 M A W) (p:Mp B r M' A' W') (k:Kx r (aI M A) (aI M' A') W W'):Hx B r L M0 A0 w0 M' A' W' :=
 ⟨p,h.kx.trans k,λx j=>by
  obtain ⟨b,c,d⟩:=h.rows x j
  have a:=(Array.getElem?_eq_some_iff.1 b).1
  exact ⟨(k.block x.b a c d).trans b,c,λq i e=>by obtain ⟨l,g,f⟩:=k.own q i x.b e a;exact d l g f⟩⟩
theorem Hx.below (h:Hx B r L M0 A0 w0 M A W) (k:Bw W W'):Hx B r L M0 A0 w0 M A W':=h.step (h.mp.below k) (Kx.of_below k)
def UI (r:Nat) (M:MV) (A:MA) (L:List Kr):List Rw:=⟨r,aq M A,[]⟩::L.map (λx=>⟨x.b,x.cs,x.tg⟩)
theorem Hx.eng {P:Program} {fn:Func} {dr:Bool} {Rs:Ending->World->Prop}:nE P (Hx B r L M0 A0 w0 M A) (Hx B r L M0 A0 w0 M A) (UI r M A L) dr (bodyPost P fn Rs):=
 ⟨λ_ h=>h,λW h x a=>by
  rcases List.mem_cons.1 a with rfl|a
  ·exact ⟨_,_,h.mp.row⟩
  ·obtain ⟨y,b,rfl⟩:=List.mem_map.1 a
   exact ⟨_,_,(h.rows y b).1⟩,λ_ W h=>h.below (Below.refl _ _).drew,ct⟩
theorem Hx.engL {P:Program} {fn:Func} {dr:Bool} {Rs:Ending->World->Prop} {L':List Kr} (a:∀ x ∈ L,x ∈ L'):nE P (Hx B r L M0 A0 w0 M A) (Hx B r L' M0 A0 w0 M A) (UI r M A L) dr (bodyPost P fn Rs):=
 ⟨λ_ h=>⟨h.mp,h.kx,λx b=>h.rows x (a x b)⟩,(Hx.eng (P:=P) (fn:=fn) (dr:=dr) (Rs:=Rs)).rows,λ_ W h=>h.below (Below.refl _ _).drew,ct⟩
def Hs (r:Nat) (L:List Kr) (cs:Array Value) (W:World):Prop:=W.heap[r]?=some (.cells cs 32 (0,0))/\∀ x ∈ L,W.heap[x.b]?=some (.cells x.cs x.t (0,0))
theorem Hx.hs (h:Hx B r L M0 A0 w0 M A W):Hs r L (aq M A) W:=⟨h.mp.row,λx a=>(h.rows x a).1⟩
def U3 (r:Nat) (cs:Array Value) (L:List Kr):List Rw:=⟨r,cs,[]⟩::L.map (λx=>⟨x.b,x.cs,x.tg⟩)
theorem Hs.eng {P:Program} {fn:Func} {dr:Bool} {Rs:Ending->World->Prop} {cs:Array Value} (hs:∀ W,Hx B r L M0 A0 w0 M A W->Hs r L cs W):nE P (Hs r L cs) (Hx B r L M0 A0 w0 M A) (U3 r cs L) dr (bodyPost P fn Rs):=
 ⟨hs,λW h x a=>by
  rcases List.mem_cons.1 a with rfl|a
  ·exact ⟨_,_,h.1⟩
  ·obtain ⟨y,b,rfl⟩:=List.mem_map.1 a
   exact ⟨_,_,h.2 y b⟩,λ_ W h=>h.below (Below.refl _ _).drew,ct⟩
theorem Hx.fld (h:Hx B r L M0 A0 w0 M A W) (i:Nat) (v:Value) (a:aq M' A=(aq M A).setIfInBounds i v) (b:aI M' A=aI M A):Hx B r L M0 A0 w0 M' A (W.setCell ⟨r,i,none⟩ v):=h.step (h.mp.fld i v a b).1 (h.mp.fld i v a b).2
theorem Hx.setX (h:Hx B r L M0 A0 w0 M A W) (b:Nat) (hb:A.ax=some ⟨b,0,none⟩) (i:Nat) (v:Int):Hx B r L M0 A0 w0 (xM M (M.x.set i v)) A (W.setCell ⟨b,i,none⟩ (.u v)):=
 h.step (h.mp.setX b hb i v).1 (FH (L:=aI M A) (q:=aJ A.ax M.x.length A.cx M.x) dm (by show (Value.slice A.ax M.x.length A.cx).ownBlock=_;rw [hb];rfl) (jj (M:=M) (M':=xM M (M.x.set i v)) (show (M.x.set i v).length=M.x.length by simp) rfl rfl rfl rfl) W i _)
theorem Hx.setC (h:Hx B r L M0 A0 w0 M A W) (b:Nat) (hb:A.ac=some ⟨b,0,none⟩) (i:Nat) (v:Int):Hx B r L M0 A0 w0 (cM M (M.cs.set i v)) A (W.setCell ⟨b,i,none⟩ (.u v)):=
 h.step (h.mp.setC b hb i v).1 (FH (L:=aI M A) (q:=aJ A.ac M.cs.length A.cc M.cs) dm (by show (Value.slice A.ac M.cs.length A.cc).ownBlock=_;rw [hb];rfl) (jj (M:=M) (M':=cM M (M.cs.set i v)) rfl (show (M.cs.set i v).length=M.cs.length by simp) rfl rfl rfl) W i _)
theorem Hx.var (h:Hx B r L M0 A0 w0 M A W) (hb:Bw W W') (x:Kr) (hx:W'.heap[x.b]?=some (.cells x.cs x.t (0,0))) (hn:W.heap.size<=x.b):Hx B r (L++[x]) M0 A0 w0 M A W':=by
 have b:=h.below hb;refine ⟨b.mp,b.kx,λy a=>?_⟩;rcases List.mem_append.1 a with a | a;·exact b.rows y a
 ·rw [List.mem_singleton] at a;subst a;refine ⟨hx,by have:=h.mp.lt;omega,λq c e=>?_⟩;have:=((h.mp.fam.own q c).lt y.b e).2;omega
end
theorem xL (w:World):g6 w []:=trivial
structure Vs (w:World) (L:List Kr) (W:World):Prop where
 rows:∀ x ∈ L,W.heap[x.b]?=some (.cells x.cs x.t (0,0))
 below:Bw w W
section
variable {P : Program} {fn : Func} {Rs : Ending -> World -> Prop} {w W W' : World} {L : List Kr} {B E B' E' : Nat} {Q R : List FRow}
theorem Vs.to (h:Vs w L W) (hb:Bw W W'):Vs w L W':=⟨λx a=>bA hb (h.rows x a),aa h.below hb⟩
theorem Vs.at (h:Vs w L W):Vs W L W:=⟨h.rows,Below.refl _ _⟩
theorem Vs.eng:nE P (Vs w L) (Vs w L) (L.map λx=>⟨x.b,x.cs,x.tg⟩) true (bodyPost P fn Rs):=
 ⟨λ_ h=>h,λW h r a=>by obtain ⟨y,b,rfl⟩:=List.mem_map.1 a;exact ⟨_,_,h.rows y b⟩,λ_ W h=>h.to (Below.refl _ _).drew,ct⟩
theorem oN (W:World) (old cs:Array Value) (t:TypeId):Bw W ((W.alloc (.cells old t)).setRow W.heap.size cs):=bm (bal _ _) (Nat.le_refl _) _
theorem Vs.new {cs:Array Value} (h:Vs w L W) (old:Array Value) (t:TypeId):Vs w (L++[⟨W.heap.size,cs,t,[]⟩]) ((W.alloc (.cells old t)).setRow W.heap.size cs):=by
 have b:=oN W old cs t;refine ⟨λx a=>?_,aa h.below b⟩;rcases List.mem_append.1 a with a | a;·exact bA b (h.rows x a)
 ·rw [List.mem_singleton.1 a];exact setRow_heap _ _ _ _ _ _ (heap_alloc_new _ _)
end
def Qe (w:World) (r:Nat):World:=(w.setCell ⟨r,11,none⟩ (.u 0)).setCell ⟨r,12,none⟩ (.bool false)
theorem Mp.freeq {B r:Nat} {M:MV} {A:MA} {w:World} (h:Mp B r M A w):Mp B r (lm M) A (Qe w r)/\Kx r (aI M A) (aI (lm M) A) w (Qe w r):=by refine ⟨⟨?_,Mp.fam_set (Mp.fam_set h.fam h.ne 11 _) h.ne 12 _,h.ne,h.lo⟩,(Kx.set w 11 _).trans (Kx.set _ 12 _)⟩;have a:=h.row;unfold aq at a;exact bD (bD a 11 (.u 0)) 12 (.bool false)
def wQ (A:MA) (a:Option Addr) (c:Nat):MA:=⟨A.ax,A.cx,A.ac,A.cc,a,c,A.ai,A.ci,A.ao,A.co⟩
theorem Mp.ram {B r:Nat} {M:MV} {A:MA} {w w':World} (h:Mp B r M A w) (hb:Bw w w') (R:List Int) (a:Option Addr) (c:Nat) (m:w'.ownsRow w.heap.size 5 1 (.slice a R.length c) R.length (R.map (Value.int .u8))):Mp B r (bL M R) (wQ A a c) (w'.setCell ⟨r,4,none⟩ (.slice a R.length c))/\Kx r (aI M A) (aI (bL M R) (wQ A a c)) w (w'.setCell ⟨r,4,none⟩ (.slice a R.length c)):=by
 have g:=h.lt;have s:B<=w.heap.size:=by have:=h.lo;omega
 have t:=h.fam.below hb;have p:bx B w.heap.size w' ([aJ A.ax M.x.length A.cx M.x,aJ A.ac M.cs.length A.cc M.cs]++[aF A.ai M.d.xs.length A.ci M.d.xs,aF A.ao M.d.ys.length A.co M.d.ys]):=t.sub (by unfold aI;simp);have hF:bx B w'.heap.size w' (aI (bL M R) (wQ A a c)):=p.ins (q:=aF a R.length c R) m s (Nat.le_refl _) hb.size;have b:∀ q ∈ aI (bL M R) (wQ A a c),∀ k,q.v.ownBlock=some k->k<w.heap.size->∃ i ∈ aI M A,i.v.ownBlock=some k:=by
  intro q f k e l;simp only [aI,bL,wQ,List.mem_cons,List.not_mem_nil,or_false] at f;rcases f with rfl|rfl|rfl|rfl|rfl;·exact ⟨aJ A.ax M.x.length A.cx M.x,dm,e⟩
  ·exact ⟨aJ A.ac M.cs.length A.cc M.cs,dm,e⟩
  ·have:=(m.lt k e).1;omega
  ·exact ⟨aF A.ai M.d.xs.length A.ci M.d.xs,dm,e⟩
  ·exact ⟨aF A.ao M.d.ys.length A.co M.d.ys,dm,e⟩
 have d:∀ q ∈ aI (bL M R) (wQ A a c),q.v.ownBlock≠some r:=λq f e=>by obtain ⟨i,o,n⟩:=b q f r e g;exact h.ne i o n
 have j:=bA hb h.row;unfold aq at j;have u:Kx r (aI M A) (aI (bL M R) (wQ A a c)) w w':=⟨hb.os,hb.tape,hb.output,hb.size,λk l _ _=>hb.block k l,b⟩;exact ⟨⟨bD j 4 (.slice a R.length c),Mp.fam_set hF d 4 _,d,h.lo⟩,u.trans (Kx.set w' 4 _)⟩
theorem N8 (M:MV) (A:MA) (B r:Nat) (addr size Q:Int) (D:DV) (is:Bool) (w:World) (hm:Mp B r M A w) (P:∀ d,Mp B r M A d->Calls prog 285 #[.agg #[.u M.d.t,.u M.d.cm,.bool M.d.so,.slice A.ai M.d.xs.length A.ci,.slice A.ao M.d.ys.length A.co,.i M.d.ir],.u addr,.i size] d λe m=>∃ (f:Option Addr) (j:Nat) (g:Option Addr) (l:Nat),e=.returned (.tuple #[.u Q,.agg #[.u D.t,.u D.cm,.bool D.so,.slice f D.xs.length j,.slice g D.ys.length l,.i D.ir],.bool is])/\bx d.heap.size m.heap.size m (fO f D.xs.length j D.xs g D.ys.length l D.ys)/\Bw d m):Calls prog 253 #[.p r 5,.u addr,.i size] w λe d=>e=.returned (.tuple #[.u Q,.bool is])/\∃ A',Mp B r (if is=true then cP M D else M) A' d/\Kx r (aI M A) (aI (if is=true then cP M D else M) A') w d:=by
 have p:=aD hm;have R:=aD P;obtain ⟨T,U,V,W,X,J,K,L,N,O,t,E,F,G⟩:=aR hm.row;clear hm P;go_enter func253,ntmps253;go_wp2_with fail;refine (R.out _ p.out).mono ?_;rintro e I ⟨f,j,g,l,rfl,u,c⟩;have y:=aD (aa c ((Below.refl _ _).alloc (Nat.le_refl _) (.cells #[.u D.t,.u D.cm,.bool D.so,.slice f D.xs.length j,.slice g D.ys.length l,.i D.ir] 30 (0,0))));have S:Hid (fq w (I.alloc (.cells #[.u D.t,.u D.cm,.bool D.so,.slice f D.xs.length j,.slice g D.ys.length l,.i D.ir] 30 (0,0))) A.ai A.ci M.d.xs A.ao A.co M.d.ys f j D.xs g l D.ys):=fq.below (.inr (.inr (.inr u))) (bal _ _);have b:=bA c p.out.row;unfold aq at b;have H:¬ r=I.heap.size:=by have h1:=p.out.lt;have h2:=c.size;omega
 have Z:¬ I.heap.size=r:=λh=>H h.symm;clear T U V W X J K L N O t E F G;have J:=λo=>(aR (cS b o)).2.2.2.2.2.1;have K:=λo=>(aR (cS b o)).2.2.2.2.2.2.1;have L:=λo=>(aR (cS b o)).2.2.2.2.2.2.2.1;have N:=λo=>(aR (cS b o)).2.2.2.2.2.2.2.2.1;have O:=λo=>(aR (cS b o)).2.2.2.2.2.2.2.2.2.1;have t:=λo=>(aR (cS b o)).2.2.2.2.2.2.2.2.2.2.1;have f5:=λo=>(eO (cS b o)).2.2.2.2.2.1;have f6:=λo=>(eO (cS b o)).2.2.2.2.2.2.1;have f7:=λo=>(eO (cS b o)).2.2.2.2.2.2.2.1;have f8:=λo=>(eO (cS b o)).2.2.2.2.2.2.2.2.1;have f9:=λo=>(eO (cS b o)).2.2.2.2.2.2.2.2.2.1;have Y:=λo=>(eO (cS b o)).2.2.2.2.2.2.2.2.2.2.1;clear c u b;cases is with
 | false =>go_wp2_with fail;refine bodyPost_ret (results_tmp2 rfl _ _ _) rfl ?_;exact ⟨rfl,A,p.out.below y.out,Kx.of_below y.out⟩
 | true =>obtain ⟨s,q⟩:=p.out.dev y.out D S.out;have C:=aD s;have z:=aD q;clear s q;go_wp2_with fail;refine bodyPost_ret (results_tmp2 rfl _ _ _) rfl ?_;exact ⟨rfl,ke A f j g l,C.out,z.out⟩
theorem N9 (M:MV) (A:MA) (B r:Nat) (addr size x:Int) (D:DV) (is:Bool) (w:World) (hm:Mp B r M A w) (P:∀ d,Mp B r M A d->Calls prog 288 #[.agg #[.u M.d.t,.u M.d.cm,.bool M.d.so,.slice A.ai M.d.xs.length A.ci,.slice A.ao M.d.ys.length A.co,.i M.d.ir],.u addr,.i size,.u x] d λe m=>∃ (f:Option Addr) (j:Nat) (g:Option Addr) (l:Nat),e=.returned (.tuple #[.agg #[.u D.t,.u D.cm,.bool D.so,.slice f D.xs.length j,.slice g D.ys.length l,.i D.ir],.bool is])/\bx d.heap.size m.heap.size m (fO f D.xs.length j D.xs g D.ys.length l D.ys)/\Bw d m):Calls prog 283 #[.p r 5,.u addr,.i size,.u x] w λe d=>e=.returned (.bool is)/\∃ A',Mp B r (if is=true then cP M D else M) A' d/\Kx r (aI M A) (aI (if is=true then cP M D else M) A') w d:=by
 have p:=aD hm;have Q:=aD P;obtain ⟨S,T,U,V,W,J,K,L,N,O,t,E,F,G⟩:=aR hm.row;clear hm P;go_enter func283,ntmps283;go_wp2_with fail;refine (Q.out _ p.out).mono ?_;rintro e I ⟨f,j,g,l,rfl,u,c⟩;have y:=aD (aa c ((Below.refl _ _).alloc (Nat.le_refl _) (.cells #[.u D.t,.u D.cm,.bool D.so,.slice f D.xs.length j,.slice g D.ys.length l,.i D.ir] 30 (0,0))));have R:Hid (fq w (I.alloc (.cells #[.u D.t,.u D.cm,.bool D.so,.slice f D.xs.length j,.slice g D.ys.length l,.i D.ir] 30 (0,0))) A.ai A.ci M.d.xs A.ao A.co M.d.ys f j D.xs g l D.ys):=fq.below (.inr (.inr (.inr u))) (bal _ _);have b:=bA c p.out.row;unfold aq at b;have H:¬ r=I.heap.size:=by have h1:=p.out.lt;have h2:=c.size;omega
 have Y:¬ I.heap.size=r:=λh=>H h.symm;clear S T U V W J K L N O t E F G;have J:=λo=>(aR (cS b o)).2.2.2.2.2.1;have K:=λo=>(aR (cS b o)).2.2.2.2.2.2.1;have L:=λo=>(aR (cS b o)).2.2.2.2.2.2.2.1;have N:=λo=>(aR (cS b o)).2.2.2.2.2.2.2.2.1;have O:=λo=>(aR (cS b o)).2.2.2.2.2.2.2.2.2.1;have t:=λo=>(aR (cS b o)).2.2.2.2.2.2.2.2.2.2.1;have Z:=λo=>(eO (cS b o)).2.2.2.2.2.1;have f6:=λo=>(eO (cS b o)).2.2.2.2.2.2.1;have f7:=λo=>(eO (cS b o)).2.2.2.2.2.2.2.1;have f8:=λo=>(eO (cS b o)).2.2.2.2.2.2.2.2.1;have f9:=λo=>(eO (cS b o)).2.2.2.2.2.2.2.2.2.1;have X:=λo=>(eO (cS b o)).2.2.2.2.2.2.2.2.2.2.1;clear c u b;cases is with
 | false =>go_wp2_with fail;go_ret;exact ⟨rfl,A,p.out.below y.out,Kx.of_below y.out⟩
 | true =>obtain ⟨s,q⟩:=p.out.dev y.out D R.out;have C:=aD s;have z:=aD q;clear s q;go_wp2_with fail;go_ret;exact ⟨rfl,ke A f j g l,C.out,z.out⟩
theorem Ku (M:MV) (A:MA) (B r:Nat) (pa:Int) (hit:Bool) (w:World) (hm:Mp B r M A w) (c:(M.hl&&(IntKind.u64.wrap (pa.tdiv 8)==IntKind.u64.wrap (M.hd.tdiv 8)))=hit):Calls prog 284 #[.p r 0,.u pa] w λe j=>e=.returned (.tuple #[])/\Mp B r (if hit=true then lm M else M) A j/\Kx r (aI M A) (aI (if hit=true then lm M else M) A) w j:=by
 have f:=aD hm;obtain ⟨y,z,C,D,E,F,G,H,I,J,m,o,g,p⟩:=aR hm.row;obtain ⟨K,L,N,O,P,Q,R,S,T,U,q,s,t,u⟩:=eO hm.row;clear hm;obtain ⟨l,d⟩:∃ b,b=M.hl:=⟨_,rfl⟩;rw [<- d] at g c;clear d;cases l with
 | false =>rw [Bool.false_and] at c;subst c;go_enter func284,ntmps284;go_wp2_with fail;refine bodyPost_end (results_none rfl _ _ _) rfl ?_;exact ⟨rfl,f.out,Kx.refl _ _ _⟩
 | true =>
   rw [Bool.true_and] at c;cases hit with
   | false =>go_enter func284,ntmps284;go_wp2_with fail;refine bodyPost_end (results_none rfl _ _ _) rfl ?_;exact ⟨rfl,f.out,Kx.refl _ _ _⟩
   | true =>go_enter func284,ntmps284;go_wp2_with fail;refine bodyPost_end (results_none rfl _ _ _) rfl ?_;exact ⟨rfl,f.out.freeq.1,f.out.freeq.2⟩
theorem Q6 (M:MV) (A:MA) (B r:Nat) (pa size x:Int) (R:List Int) (D:DV) (l is:Bool) (d s:MV->MV) (w:World) (hm:Mp B r M A w) (hS:∀ c,Mp B r M A c->Calls prog 194 #[.slice A.ar M.ram.length A.cr,.u pa,.i size,.u x] c λe b=>∃ (I:Option Addr) (J:Nat),e=.returned (.tuple #[.slice I R.length J,.bool l])/\b.ownsRow c.heap.size 5 1 (.slice I R.length J) R.length (R.map (Value.int .u8))/\Bw c b) (hV:∀ c,Mp B r M A c->Calls prog 283 #[.p r 5,.u pa,.i size,.u x] c λe b=>e=.returned (.bool is)/\∃ A',Mp B r (if is=true then cP M D else M) A' b/\Kx r (aI M A) (aI (if is=true then cP M D else M) A') c b) (hT:∀ (X:MV) (A':MA) c,Mp B r X A' c->(X=bL M R\/X=cP M D)->Calls prog 254 #[.p r 0] c λe b=>e=.returned (.tuple #[])/\Mp B r (d X) A' b/\Kx r (aI X A') (aI (d X) A') c b) (hG:∀ (X:MV) (A':MA) c,Mp B r X A' c->(X=d (bL M R)\/X=d (cP M D))->Calls prog 284 #[.p r 0,.u pa] c λe b=>e=.returned (.tuple #[])/\Mp B r (s X) A' b/\Kx r (aI X A') (aI (s X) A') c b):Calls prog 252 #[.p r 0,.u pa,.i size,.u x] w λe c=>e=.returned (.bool (l||is))/\∃ A',Mp B r (if l=true then s (d (bL M R)) else if is=true then s (d (cP M D)) else M) A' c/\Kx r (aI M A) (aI (if l=true then s (d (bL M R)) else if is=true then s (d (cP M D)) else M) A') w c:=by
 have HM:=aD hm;have HS:=aD hS;have HV:=aD hV;have HTM:Hid (∀ (A':MA) c,Mp B r (bL M R) A' c->Calls prog 254 #[.p r 0] c λe b=>e=.returned (.tuple #[])/\Mp B r (d (bL M R)) A' b/\Kx r (aI (bL M R) A') (aI (d (bL M R)) A') c b):=λA' c h=>hT _ A' c h (.inl rfl);have HTD:Hid (∀ (A':MA) c,Mp B r (cP M D) A' c->Calls prog 254 #[.p r 0] c λe b=>e=.returned (.tuple #[])/\Mp B r (d (cP M D)) A' b/\Kx r (aI (cP M D) A') (aI (d (cP M D)) A') c b):=λA' c h=>hT _ A' c h (.inr rfl);have HGM:Hid (∀ (A':MA) c,Mp B r (d (bL M R)) A' c->Calls prog 284 #[.p r 0,.u pa] c λe b=>e=.returned (.tuple #[])/\Mp B r (s (d (bL M R))) A' b/\Kx r (aI (d (bL M R)) A') (aI (s (d (bL M R))) A') c b):=λA' c h=>hG _ A' c h (.inl rfl);have HGD:Hid (∀ (A':MA) c,Mp B r (d (cP M D)) A' c->Calls prog 284 #[.p r 0,.u pa] c λe b=>e=.returned (.tuple #[])/\Mp B r (s (d (cP M D))) A' b/\Kx r (aI (d (cP M D)) A') (aI (s (d (cP M D))) A') c b):=λA' c h=>hG _ A' c h (.inr rfl);obtain ⟨U,V,W,Y,Z,c5,c6,c7,c8,c9,u,y,z,C⟩:=aR hm.row;clear hm hS hV hT hG;go_enter func252,ntmps252;go_wp2_with fail;refine (HS.out _ HM.out).mono ?_;rintro e w5 ⟨I,J,rfl,K,j⟩;have t:=aD (HM.out.below j);have KX5:=aD (Kx.of_below (r:=r) (L:=aI M A) j);cases l with
 | true =>obtain ⟨Q,O⟩:=HM.out.ram j R I J K;have g:=aD Q;have f:=aD O;clear U V W Y Z c5 c6 c7 c8 c9 u y z C;obtain ⟨U,V,W,Y,Z,c5,c6,c7,c8,c9,u,y,z,C⟩:=aR t.out.row;obtain ⟨f0,f1,f2,f3,f4,f5,f6,f7,f8,f9,f10,f11,f12,f13⟩:=eO t.out.row;clear Q O K j;go_wp2_with fail;refine (HTM.out (wQ A I J) _ g.out).mono ?_;rintro e w7 ⟨rfl,p,m⟩;have G:=aD p;have E:=aD ((f.out).trans m);clear p m;go_wp2_with fail;refine (HGM.out (wQ A I J) _ G.out).mono ?_;rintro e w8 ⟨rfl,q,o⟩;have H:=aD q;have F:=aD (E.out.trans o);clear q o;go_wp2_with fail;go_ret;exact ⟨rfl,(wQ A I J),H.out,F.out⟩
 | false =>
   clear K j;clear U V W Y Z c5 c6 c7 c8 c9 u y z C;obtain ⟨U,V,W,Y,Z,c5,c6,c7,c8,c9,u,y,z,C⟩:=aR t.out.row;go_wp2_with fail;refine (HV.out _ t.out).mono ?_;rintro e w6 ⟨rfl,A',T,S⟩;have g:=aD T;have f:=aD (KX5.out.trans S);clear T S;cases is with
   | false =>go_wp2_with fail;go_ret;exact ⟨rfl,A',g.out,f.out⟩
   | true =>have P:Hid (Mp B r (cP M D) A' w6):=g.out;have N:Hid (Kx r (aI M A) (aI (cP M D) A') w w6):=f.out;clear g f;go_wp2_with fail;refine (HTD.out A' _ P.out).mono ?_;rintro e w7 ⟨rfl,p,m⟩;have G:=aD p;have E:=aD ((N.out).trans m);clear p m;go_wp2_with fail;refine (HGD.out A' _ G.out).mono ?_;rintro e w8 ⟨rfl,q,o⟩;have H:=aD q;have F:=aD (E.out.trans o);clear q o;go_wp2_with fail;go_ret;exact ⟨rfl,A',H.out,F.out⟩
theorem Oa (M g:MV) (A:MA) (B r:Nat) (pa size x:Int) (o:Bool) (w:World) (hm:Mp B r M A w) (m:∀ b,Mp B r M A b->Calls prog 252 #[.p r 0,.u pa,.i size,.u x] b λe f=>e=.returned (.bool o)/\∃ A',Mp B r g A' f/\Kx r (aI M A) (aI g A') b f):Calls prog 235 #[.p r 0,.u pa,.i size,.i 3,.u x] w λe b=>e=.returned (.tuple #[.u 0,.bool o])/\∃ A',Mp B r g A' b/\Kx r (aI M A) (aI g A') w b:=by have p:=aD hm;have q:=aD m;clear hm m;go_enter func235,ntmps235;go_wp2_with fail;refine (q.out _ p.out).mono ?_;rintro e s ⟨rfl,A',d,c⟩;have l:=aD d;have j:=aD c;clear d c;go_wp2_with fail;refine bodyPost_ret (results_tmp2 rfl _ _ _) rfl ?_;exact ⟨rfl,A',l.out,j.out⟩
theorem Ob (M:MV) (A:MA) (B r:Nat) (pa size x I:Int) (b:Bool) (w:World) (hm:Mp B r M A w) (H:∀ f,Mp B r M A f->CB 188 #[.slice A.ar M.ram.length A.cr,.u pa,.i size] f (.tuple #[.u I,.bool b])):Calls prog 235 #[.p r 0,.u pa,.i size,.i 1,.u x] w λe f=>e=.returned (.tuple #[.u (if b=true then I else 0),.bool (b||false)])/\∃ A',Mp B r (if b=true then M else M) A' f/\Kx r (aI M A) (aI (if b=true then M else M) A') w f:=by
 have q:=aD hm;have J:=aD H;obtain ⟨s,t,u,y,z,C,D,E,F,G,j,l,m,o⟩:=aR hm.row;clear hm H;go_enter func235,ntmps235;go_wp2_with fail;refine (J.out _ q.out).mono ?_;rintro e K ⟨rfl,d⟩;have c:=aD (q.out.below d);have g:=aD (Kx.of_below (r:=r) (L:=aI M A) d);clear d;clear s t u y z C D E F G j l m o;obtain ⟨s,t,u,y,z,C,D,E,F,G,j,l,m,o⟩:=aR c.out.row;cases b with
 | true =>go_wp2_with fail;refine bodyPost_ret (results_tmp2 rfl _ _ _) rfl ?_;exact ⟨rfl,A,c.out,g.out⟩
 | false =>go_wp2_with fail;refine bodyPost_ret (results_tmp2 rfl _ _ _) rfl ?_;exact ⟨rfl,A,c.out,g.out⟩
theorem Oc (M:MV) (A:MA) (B r:Nat) (pa size x W:Int) (d:Bool) (M2 y:MV) (V:Int) (is:Bool) (w:World) (hm:Mp B r M A w) (T:∀ b,Mp B r M A b->CB 188 #[.slice A.ar M.ram.length A.cr,.u pa,.i size] b (.tuple #[.u W,.bool d])) (S:∀ b,Mp B r M A b->Calls prog 253 #[.p r 5,.u pa,.i size] b λe c=>e=.returned (.tuple #[.u V,.bool is])/\∃ A',Mp B r M2 A' c/\Kx r (aI M A) (aI M2 A') b c) (U:∀ (A':MA) b,Mp B r M2 A' b->Calls prog 254 #[.p r 0] b λe c=>e=.returned (.tuple #[])/\Mp B r y A' c/\Kx r (aI M2 A') (aI y A') b c):Calls prog 235 #[.p r 0,.u pa,.i size,.i 2,.u x] w λe b=>e=.returned (.tuple #[.u (if d=true then W else V),.bool (d||is)])/\∃ A',Mp B r (if d=true then M else y) A' b/\Kx r (aI M A) (aI (if d=true then M else y) A') w b:=by
 have F:=aD hm;have Y:=aD T;have X:=aD S;have Z:=aD U;clear S U;obtain ⟨G,H,I,J,K,N,O,P,Q,R,l,m,o,p⟩:=aR hm.row;clear hm T;go_enter func235,ntmps235;go_wp2_with fail;refine (Y.out _ F.out).mono ?_;rintro e w5 ⟨rfl,g⟩;have f:=aD (F.out.below g);have j:=aD (Kx.of_below (r:=r) (L:=aI M A) g);clear g;clear G H I J K N O P Q R l m o p;obtain ⟨G,H,I,J,K,N,O,P,Q,R,l,m,o,p⟩:=aR f.out.row;cases d with
 | true =>go_wp2_with fail;refine bodyPost_ret (results_tmp2 rfl _ _ _) rfl ?_;exact ⟨rfl,A,f.out,j.out⟩
 | false =>go_wp2_with fail;refine (X.out _ f.out).mono ?_;rintro e w6 ⟨rfl,A',t,q⟩;have D:=aD t;have z:=aD (j.out.trans q);clear t q;go_wp2_with fail;refine (Z.out A' _ D.out).mono ?_;rintro e w7 ⟨rfl,u,s⟩;have E:=aD u;have C:=aD (z.out.trans s);clear u s;go_wp2_with fail;refine bodyPost_ret (results_tmp2 rfl _ _ _) rfl ?_;exact ⟨rfl,A',E.out,C.out⟩
theorem gJ (kind:Int) (hk:kind=1\/kind=2\/kind=3) (w:World):CE 210 #[.i kind] w (.i (if kind=1 then 0 else if kind=2 then 4 else 6)):=by
 rcases hk with rfl|rfl|rfl;·go_enter func210,ntmps210;exact v8
 ·go_enter func210,ntmps210;exact v8
 ·go_enter func210,ntmps210;exact v8
theorem mZ (kind:Int) (hk:kind=1\/kind=2\/kind=3) (w:World):CE 91 #[.i kind] w (.i (if kind=2 then 5 else if kind=3 then 7 else 1)):=by
 rcases hk with rfl|rfl|rfl;·go_enter func91,ntmps91;exact v8
 ·go_enter func91,ntmps91;exact v8
 ·go_enter func91,ntmps91;exact v8
end Go.Proofs.YtjifdmoehfbihaaGreatDoor
