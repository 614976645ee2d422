/- Own lemmas. -/
import Derived.Test.YtlidafnochnddaaGreatDoorAut
import Derived.Test.YtlidafnochnddaaGreatDoorK20
set_option maxRecDepth 100000
set_option maxHeartbeats 12800000
namespace Go.Proofs.YtlidafnochnddaaGreatDoor
open Go.RowKit Tryz
open IntKind renaming u64->Uz
open Below renaming refl->K1,heap_setCell->K4,grown->L4
open Bool renaming and_eq_true->T7
open Builtin renaming append_->T9
open Go renaming setRow_other->L5,World->L6,Value->L7,Calls->M5,heap_alloc_new->M7,setRow_size->N1,setRow_heap->P2,results_tmp2->R4,run_buildSlice->R5,bodyPost->S1,Ending->S2,Addr->S5,heap_alloc_old->T0,TypeId->T2,bits->T3
open Instr renaming buildSlice->T8
open List renaming mem_singleton->G3,getElem?_eq_getElem->H1,mem_cons->H2,getD_eq_getElem?_getD->H3,mem_cons_self->H5,not_mem_nil->H8,mem_append->I4
open Nat renaming le_refl->A0,lt_of_lt_of_le->A5,le_trans->A6,zero_le->F0
open Option renaming map_eq_some_iff->T4
open Value renaming int->I5,slice->K0
open World renaming size_alloc->T5,cell?->T6
open _root_.Array renaming getElem?_eq_some_iff->F3
set_option linter.unusedVariables false
variable {M B t w:L6} {W L x g:Nat} {n M':MV} {E A:MA} {V R:TV} {c:Array L7} {y b:L7} {k:List Int} {l:List (Nat × Obj)} {f:List UInt8} {o:List Rw} {s L1 L2:List FRow} {a:Int} {d:List Nat} {e:List L7} {z:T2} {F P:Program} {r:FRow} (S:List Int) (T:MV) (j:MA) (m:L6) (p:ByteArray) (q:Int × MV × Int) (C:Wf) (D G:Nat) (I J K N:Int) (O:Bool) (Q:L6)
theorem zo (M:MV) (A:MA) (B r:Nat) (w:L6) (a:M.cs.length=22) (hl:iW M) (h:Mp B r M A w):M5 prog 47 #[.p r 0] w λe w'=>e=.returned (.tuple #[])/\Mp B r (ge M) A w'/\Kx r (aU M A) (aU (ge M) A) w w':=by have c:=qb (M:=M) (M':=ge M) (A:=A) rfl (GN M) rfl rfl rfl;refine (oT M A r B w.heap.size w a hl h.row h.fam h.ne).mono λe w' ⟨g,i,j,b⟩=>⟨g,⟨i,j.low (A0 _) b.size,?_,h.lo⟩,Kx.of_keepL b c⟩;intro q k e;obtain ⟨l,f,d⟩:=c q k;exact h.ne l f (by rw [d];exact e)
structure SO (M:MV):Prop where
 h22:M.cs.length=22
 U9:U (M.cs.getD 9 0)
 bells:ly M
 ok:lm M.d.xs.length M.d.ys.length M.d.ir
 ram:bA M.ram.length
 len:iW M
 wram:∀ y ∈ M.ram,(Lit.int .u8 y).wf
 wd:cT M.d
 hd:U M.hd
theorem Mp.shape (h:Mp W L n E w) (l:0<n.ram.length):∃ g,E.ar=some ⟨g,0,none⟩/\n.ram.length<=E.cr/\E.cr<=9223372036854775807:=by
 have f:=h.fam.own (aI E.ar n.ram.length E.cr n.ram) d5;have d:=BK (w:=w) (a:=E.ar) (c:=E.cr) f;rcases f.2 with ⟨e,j⟩|⟨b,cap,i,e,_⟩;·have:n.ram.length=0:=j;omega
 ·have k:K0 E.ar n.ram.length E.cr=.slice (some ⟨b,0,none⟩) n.ram.length cap:=e;injection k with e3
  exact ⟨b,e3,d.2.1,by have:=d.2.2;unfold maxLen at this;exact this⟩
theorem Qt (a:SO n) (pa size:Int) (c:U pa) (h:Mp W L n A w):CB 185 #[.slice A.ar n.ram.length A.cr,.u pa,.i size] w (.tuple #[.u (lM n.ram n.ram.length pa size),.bool (iP n.ram.length pa size)]):=by obtain ⟨g,b,f,i⟩:=h.shape (Du a.ram);have d:=h.fam.msl.ram;rw [b] at d;rw [b];exact pJ g n.ram.length A.cr n.ram pa size w rfl a.len.ram d a.wram f i c.1 (by have:=c.2;omega)
theorem Hm (hm:Mp D G T j Q) (b:SO T) (x:jq J) (hk:K=1\/K=2\/K=3) (n:U I) (hx:U N): M5 prog 220 #[.p G 0,.u I,.i J,.i K,.u N] Q λe w'=>e=.returned (.tuple #[.u (A7 T I J K N).1,.bool (A7 T I J K N).2.1])/\∃ A',Mp D G (A7 T I J K N).2.2 A' w'/\Kx G (aU T j) (aU (A7 T I J K N).2.2 A') Q w':=by
 have c:=b.len
 have q:tT T.d I J=ml T.d (ic I J):=by unfold tT;rw [b.ok];rfl
 have u:qJ T.d I J N=fy T.d N (ic I J):=by unfold qJ;rw [b.ok];rfl
 have B:=λw' (h:Mp D G T j w')=>Qt (A:=j) (w:=w') b I J n h
 rcases hk with rfl|rfl|rfl
 ·refine (Ny T j D G I J N _ _ Q hm B).mono λe w' h=>?_
  unfold A7 lM at *
  revert h
  cases iP T.ram.length I J<;>intro h<;>exact h
 ·obtain ⟨d,f⟩:∃ X,X=if (ml T.d (ic I J)).2.2=true then dg T (ml T.d (ic I J)).2.1 else T:=⟨_,rfl⟩
  have p:d.cs.length=22:=by rw [f];split<;>exact b.h22
  have z:iW d:=by
   rw [f]
   have:=Qe T.d (ic I J) c.xs c.ys
   split
   ·exact ⟨c.x,c.cs,c.ram,this.1,this.2⟩
   ·exact c
  have H:∀ w',Mp D G T j w'->M5 prog 233 #[.p G 5,.u I,.i J] w' λe a=>e=.returned (.tuple #[.u (ml T.d (ic I J)).1,.bool (ml T.d (ic I J)).2.2])/\∃ A',Mp D G d A' a/\Kx G (aU T j) (aU d A') w' a:=λw' h=>by
   rw [f]
   refine Nv T j D G I J _ (ml T.d (ic I J)).2.1 _ w' h (λa i=>?_)
   have A:=sN T.d j.ai j.ci j.ao j.co I J a c.xs c.ys b.wd i.fam.msl.xs i.fam.msl.ys
   rw [q] at A
   exact A
  have v:=λ(A':MA) w' (h:Mp D G d A' w')=>zo d A' D G w' p z h
  refine (Nz T j D G I J N _ _ d (ge d) _ _ Q hm B H v).mono λe w' h=>?_
  have F:ge d=if (ml T.d (ic I J)).2.2=true then dU (dg T (ml T.d (ic I J)).2.1) else T:=by
   rw [f]
   cases k:(ml T.d (ic I J)).2.2 with
   | true=>rw [JZ8 rfl,JZ8 rfl];exact lZ (ET T.d _ b.ok k)
   | false=>rw [JZ9 ba,JZ9 ba];rw [lZ b.ok];exact rt b.h22 b.U9 b.bells
  rw [F] at h
  have C:(ml T.d (ic I J)).2.2=false->(ml T.d (ic I J)).1=0:=Qh T.d _
  unfold A7 lM at *
  revert h C
  cases iP T.ram.length I J<;>cases (ml T.d (ic I J)).2.2<;>intro h C
  ·rw [C rfl] at h;exact h
  ·exact h
  ·exact h
  ·exact h
 ·obtain ⟨R,g⟩:∃ R,R=jG T.ram T.ram.length I J N:=⟨_,rfl⟩
  have s:R.length<=1048576:=by rw [g];exact Ce _ _ _ _ _ rfl c.ram
  have l:=MP T.d N c.xs (xU b.ok).2.1 (ic I J)
  have t:=λw' (h:Mp D G T j w')=>vJ j.ar T.ram.length j.cr T.ram I J N w' rfl c.ram h.fam.msl.ram n.1 (by have:=n.2;omega) hx.1 (by have:=hx.2;omega)
  unfold gH at t
  simp only [<- g] at t
  have size:=λw' (h:Mp D G T j w')=>Nw T j D G I J N (fy T.d N (ic I J)).1 (fy T.d N (ic I J)).2 w' h (λa i=>by
   have A:=rk T.d j.ai j.ci j.ao j.co I J N a c.xs c.ys b.wd i.fam.msl.xs i.fam.msl.ys
   rw [u] at A
   exact A)
  have v:∀ (X:MV) (A':MA) w',Mp D G X A' w'->(X=dc T R\/X=dg T (fy T.d N (ic I J)).1)->M5 prog 47 #[.p G 0] w' λe a=>e=.returned (.tuple #[])/\Mp D G (ge X) A' a/\Kx G (aU X A') (aU (ge X) A') w' a:=λX A' w' h y=>by
   rcases y with rfl|rfl
   ·exact zo _ A' D G w' b.h22 ⟨c.x,c.cs,s,c.xs,c.ys⟩ h
   ·exact zo _ A' D G w' b.h22 ⟨c.x,c.cs,c.ram,l.1,l.2⟩ h
  have r:∀ (X:MV) (A':MA) w',Mp D G X A' w'->(X=ge (dc T R)\/X=ge (dg T (fy T.d N (ic I J)).1))->M5 prog 266 #[.p G 0,.u I] w' λe a=>e=.returned (.tuple #[])/\Mp D G (nf X I) A' a/\Kx G (aU X A') (aU (nf X I) A') w' a:=λX A' w' h y=>by
   have L:U X.hd:=by rcases y with rfl|rfl<;>exact b.hd
   exact KE X A' D G I (yA X I) w' h (Nh X I n L)
  have pa:=λw' (h:Mp D G T j w')=>Qn T j D G I J N R (fy T.d N (ic I J)).1 (iP T.ram.length I J) (fy T.d N (ic I J)).2 ge (λX=>nf X I) w' h t size v r
  refine (Nx T _ j D G I J N _ Q hm pa).mono λe w' h=>?_
  have E:ge (dc T R)=dc T R:=by
   have kind:ly (dc T R):=b.bells
   rw [lZ (M:=dc T R) b.ok]
   exact rt (M:=dc T R) b.h22 b.U9 kind
  have o:(fy T.d N (ic I J)).2->ge (dg T (fy T.d N (ic I J)).1)=dU (dg T (fy T.d N (ic I J)).1):=λk=>lZ (M:=dg T (fy T.d N (ic I J)).1) (EU T.d N I J b.ok k)
  have m:iP T.ram.length I J->R=iM T.ram (I-2147483648).toNat N J.toNat:=λk=>by rw [g];unfold jG;rw [k];rfl
  rw [E] at h
  unfold A7
  revert h o m
  cases iP T.ram.length I J<;>cases (fy T.d N (ic I J)).2<;>intro h o m
  ·exact h
  ·rw [o rfl] at h;exact h
  ·rw [m rfl] at h;exact h
  ·rw [m rfl] at h;exact h
structure Sa (w:L6) (cs:Array L7) (W:L6):Prop where
 m:W.heap[w.heap.size]?=some (.cells cs 36 (0,0))
 r:∃ old,old.size=14/\W.heap[w.heap.size+1]?=some (.cells old 36 (0,0))
 b:Bw w W
theorem Sa.below (h:Sa M c B) (hb:Bw B t):Sa M c t :=
 ⟨aA hb h.m,let ⟨o,a,b⟩:=h.r;⟨o,a,aA hb b⟩,ae h.b hb⟩
theorem Sa.out (h:Sa M c B) (d:Array L7) (hd:d.size=14):Sa M c (B.setRow (M.heap.size+1) d):=
 ⟨(L5 B _ _ d aa).trans h.m,let ⟨o,b,a⟩:=h.r;⟨d,hd,P2 _ _ o _ _ _ a⟩,aN h.b aa d⟩
theorem Sa.ez:Ez (Sa M c) [⟨M.heap.size,c,[]⟩]:=
 ⟨λW h r a=>by rw [G3] at a;subst a;exact ⟨_,_,h.m⟩,λW h=>h.below (K1 _ _).drew⟩
theorem Sa.eng {fn:Func} {Rs:S2->L6->Prop}:oR P (Sa M c) (Sa M c) [⟨M.heap.size,c,[]⟩] true (S1 P fn Rs):=⟨λ_ h=>h,Sa.ez.rows,λ_=>Sa.ez.drew,cG⟩
theorem Sa.start {cs:Array L7}:Sa M cs (dC M [(cs,36),(aJ au zeroA,36)]):=by obtain ⟨a,b⟩:=Bs.start M [(cs,36),(aJ au zeroA,36)];exact ⟨a 0 _ rfl,⟨_,rfl,a 1 _ rfl⟩,b⟩
theorem Sa.two (h:Sa M c B):M.heap.size+2<=B.heap.size:=by obtain ⟨o,_,a⟩:=h.r;have:=(F3.1 a).1;omega
structure Sc (w:L6) (cs:Array L7) (B r:Nat) (M:MV) (A:MA) (W:L6):Prop where
 a:Sa w cs W
 mp:Mp B r M A W
 lo:w.heap.size+2<=B
theorem Sc.below (h:Sc M c W L n E B) (hb:Bw B t):Sc M c W L n E t:=⟨h.a.below hb,h.mp.below hb,h.lo⟩
theorem Sc.out (h:Sc M c W L n E B) (d:Array L7) (hd:d.size=14):Sc M c W L n E (B.setRow (M.heap.size+1) d):=by have a:=h.mp.lo;have f:=h.lo;refine ⟨h.a.out d hd,⟨(L5 B _ _ d aa).trans h.mp.row,?_,h.mp.ne,h.mp.lo⟩,h.lo⟩;exact (h.mp.fam.mono λk b w e=>L5 B _ _ d aa).low (A0 _) ch
theorem Sc.ez:Ez (Sc M c W L n E) [⟨M.heap.size,c,[]⟩,⟨L,aJ n E,[]⟩]:=
 ⟨λcs h q a=>by
  simp only [H2,H8,or_false] at a
  rcases a with rfl|rfl
  ·exact ⟨_,_,h.a.m⟩
  ·exact ⟨_,_,h.mp.row⟩,λcs h=>h.below (K1 _ _).drew⟩
theorem Sc.eng {fn:Func} {Rs:S2->L6->Prop}:oR P (Sc M c W L n E) (Sc M c W L n E) [⟨M.heap.size,c,[]⟩,⟨L,aJ n E,[]⟩] true (S1 P fn Rs):=⟨λ_ h=>h,Sc.ez.rows,λ_=>Sc.ez.drew,cG⟩
theorem bi.set1 (h:bi W L M s) (cs:Array L7) (b:g<W):bi W L (M.setRow g cs) s:=h.mono λk a _ _=>L5 M g k cs aa
theorem Dw.fam (h:bi W L M s) (d:Dw M B):bi W L B s:=by obtain ⟨j,rfl⟩:=d;exact h.mono λ_ _ _ _=>rfl
theorem Dw.size (d:Dw M B):B.heap.size=M.heap.size:=by obtain ⟨j,rfl⟩:=d;rfl
theorem Sa.dw (h:Sa M c B) (d:Dw B t):Sa M c t:=by obtain ⟨j,rfl⟩:=d;exact ⟨h.m,h.r,⟨h.b.os,h.b.tape,h.b.output,h.b.size,h.b.block⟩⟩
abbrev ww (w:L6) (V:Int × MV × Int):S2->L6->Prop:=λe w'=>∃ C,e=.returned (.tuple #[.u V.1,.agg (aJ V.2.1 C),.i V.2.2])/\bi w.heap.size w'.heap.size w' (aU V.2.1 C)/\Bw w w'
theorem Sc.fin {V:L6} {W1:Int} {U:Int × MV × Int} (h:Sc M c W L n E B) (y:Dw B t) (b:Dw (t.setRow (M.heap.size+1) (aJ n E)) V) (d:U=(a,n,W1)):ww M U (.returned (.tuple #[.u a,.agg (aJ n E),.i W1])) V:=by subst d;have f:=(y.fam h.mp.fam).set1 (g:=M.heap.size+1) (aJ n E) (by have:=h.lo;omega);have e:=aN (h.a.dw y).b (g:=M.heap.size+1) aa (aJ n E);refine ⟨E,rfl,(b.fam f).low (by have:=h.lo;omega) ?_,b.below e⟩;rw [b.size,N1,y.size];exact A0 _
theorem zq (M:MV) (A:MA) (addr size kind x:Int) (w:L6) (hl:iW M) (r:D7 w M A) (t:MW M) (c:vi M size kind=false):M5 prog 197 #[.func (.func 142) #[] #[],.agg (aJ M A),.u addr,.i size,.i kind,.u x] w (ww w (0,au,99)):=by
 have f:=λW (h:Sa w (aJ M A) W)=>dN M A W hl (r.below h.b) t.cs;have g:=λW (_:Sa w (aJ M A) W)=>fo size W;have e:=λW (_:Sa w (aJ M A) W)=>BL kind W;unfold vi at c;generalize eW M=i at *;generalize jq size=j at *;generalize decide (1<=kind/\kind<=3)=k at *;generalize n:(kind==1)=l at *;generalize q:(size != 4)=m at *;refine cF (S:=Sa w (aJ M A)) [(aJ M A,36),(aJ au zeroA,36)] func197 ?_;cases i;case' true =>
  cases j;case' true =>
   cases k;case' true =>
    cases l;case' false=>cases c
    case' true =>cases m;case' false=>cases c
 all_goals
  refine ak Sa.eng {eq:=[(37,aD n),(40,aD q)],cv:=[(23,jF Sa.below f),(27,Ek g),(32,Ek e)]} 300 Sa.start λv d=>?_
  refine kY (s:=12) (p:=13) (u:=14) (T:=36) (cs:=aJ au zeroA) (v1:=.u 0) (v2:=.i 99) Sa.ez d {} 40 (λW h=>h.out _ rfl) (λW h=>let ⟨o,a,b⟩:=h.r;⟨o,_,a,b⟩) ab (cw _ _) underlying36 rfl rfl ab ab ab λW V a b=>?_
  exact ⟨zeroA,rfl,fH _ _ _,b.below (aN (d.dw a).b aa _)⟩
theorem Sa.fin {V:L6} {W1:Int} {U:Int × MV × Int} (h:Sa M c B) (f:bi W B.heap.size B (aU n E)) (j:M.heap.size+2<=W) (y:Dw B t) (b:Dw (t.setRow (M.heap.size+1) (aJ n E)) V) (d:U=(a,n,W1)):ww M U (.returned (.tuple #[.u a,.agg (aJ n E),.i W1])) V:=by subst d;have i:=(y.fam f).set1 (g:=M.heap.size+1) (aJ n E) aa;have e:=aN (h.dw y).b (g:=M.heap.size+1) aa (aJ n E);refine ⟨E,rfl,(b.fam i).low aa ?_,b.below e⟩;rw [b.size,N1,y.size];exact A0 _
theorem Sa.set (h:Sa M c B) (r:Nat) (cs:M.heap.size+2<=r) (d:Array L7):Sa M c (B.setRow r d):=
 ⟨(L5 B _ _ d aa).trans h.m,let ⟨o,a,b⟩:=h.r;⟨o,a,(L5 B _ _ d aa).trans b⟩,aN h.b aa d⟩
theorem wy (M:MV) (A:MA) (addr size kind x:Int) (w:L6) (hl:iW M) (O:D7 w M A) (H:MW M) (hhd:U M.hd) (ha:U addr) (hx:U x) (hT:lY w) (hgd:vm M.ram.length A.ar A.cr) (hmk:eW M) (L:jq size) (K:1<=kind/\kind<=3) (b4 b5:Bool) (h4:(kind==1)=b4) (h5:(size != 4)=b5) (h45:(b4&&b5)=false):M5 prog 197 #[.func (.func 142) #[] #[],.agg (aJ M A),.u addr,.i size,.i kind,.u x] w (ww w (aT M addr size kind x)):=by
 have HK:=λW (h:Sa w (aJ M A) W)=>dN M A W hl (O.below h.b) H.cs;have HS:=λW (_:Sa w (aJ M A) W)=>fo size W;have HI:=λW (_:Sa w (aJ M A) W)=>BL kind W;rw [hmk] at HK;rw [L] at HS;rw [decide_eq_true K] at HI;obtain ⟨m,P,hpr,hr0,hd0,hb0⟩:=dE hmk;have f:kind=1\/kind=2\/kind=3:=aa
 have hs5:size=1\/size=2\/size=4\/size=8:=of_decide_eq_true L;have hp:=AK (H.cs 0) P hpr kind;obtain ⟨V,Y⟩:∃ V,V=aT M addr size kind x:=⟨_,rfl⟩;rw [<- Y];unfold aT at Y;have hwr:Uz.wrap size=size:=by rcases hs5 with rfl|rfl|rfl|rfl<;>decide +kernel
 have hmod:addr.tmod size=addr%size:=by rw [Int.tmod_eq_emod_of_nonneg ha.1]
 obtain ⟨p,Q⟩:∃ p,il M.cs M.pr kind=p:=⟨_,rfl⟩;obtain ⟨G,hG⟩:∃ G,walkV M.ram M.ram.length M.cs p addr kind=G:=⟨_,rfl⟩;have hga:U G.addr:=by rw [<- hG];exact yO _ _ _ _ _ _ ha
 have hlg:aQ 22 M.cs p:=by unfold aQ;rw [P,<- Q,hp];rfl
 have hwk:mE M.ram.length M.cs.length M.cs p kind:=by unfold mE;rw [hr0,m,hlg];unfold g9;simpa using K
 have HE:∀ W,Sa w (aJ M A) W->CB 219 #[.slice A.ac M.cs.length A.cc,.i M.pr,.i kind] W (.i p):=λW h=>by have h:=lf A.ac M.cs.length A.cc M.cs M.pr kind W rfl (O.cs.below h.b) H.cs;unfold I2 at h;rw [m,show aQ 22 M.cs M.pr=true by unfold aQ;rw [P,hpr];rfl,decide_eq_true K,Q] at h;rw [m];exact h
 have HW:∀ W,Sa w (aJ M A) W->M5 prog 142 #[.slice A.ar M.ram.length A.cr,.slice A.ac M.cs.length A.cc,.i p,.u addr,.i kind] W λe c=>∃ B D,e=.returned (.tuple #[.u G.addr,.i G.code,.slice B (bG M.ram G).length D])/\bi W.heap.size c.heap.size c [aI B (bG M.ram G).length D (bG M.ram G)]/\Bw W c:=λW h=>by have h:=qF A.ar M.ram.length A.cr M.ram A.ac M.cs.length A.cc M.cs p addr kind W rfl hl.ram (O.ram.below h.b) H.ram rfl (O.cs.below h.b) H.cs ha (hT.below h.b) hgd;unfold Eo Ep ur at h;rw [hwk] at h;simp only [if_true,hG] at h;exact h.mono λe c ⟨B,D,h1,h2,h3⟩=>⟨B,D,h1,(bi.nil W.heap.size W.heap.size c).snoc (aI B (bG M.ram G).length D (bG M.ram G)) _ _ h2 (A0 _) (A0 _) (A0 _) h3.size,h3⟩
 have HP:∀ W,Sa w (aJ M A) W->CB 186 #[.slice A.ac M.cs.length A.cc,.i p,.u G.addr,.i size,.i kind] W (.bool (!Gk M.cs p G.addr size kind)):=λW h=>by have h:=jP A.ac M.cs.length A.cc M.cs p G.addr size kind W rfl (O.cs.below h.b) H.cs hga (hT.below h.b);rw [m,Kk M.cs p G.addr size kind hlg L (decide_eq_true K)] at h;rw [m];exact h
 have HCC:=λW (_:True)=>fI kind f W;have HAC:=λW (_:True)=>mS kind f W;have qc:IntKind.i64.wrap ((if kind=1 then 0 else if kind=2 then 4 else 6)+16)=qV kind:=by rcases f with rfl | rfl | rfl<;>decide +kernel
 have qa:IntKind.i64.wrap ((if kind=2 then 5 else if kind=3 then 7 else 1)+16)=iX kind:=by rcases f with rfl|rfl|rfl<;>decide +kernel
 have qg:IntKind.i64.wrap (G.code+16)=wrap64 (G.code+16):=by simp only [IntKind.wrap_i64,wrap64]
 rw [Q,hG] at Y;refine cF (S:=Sa w (aJ M A)) [(aJ M A,36),(aJ au zeroA,36)] func197 ?_;generalize h6:(addr%size != 0)=b6 at *;have h6':(addr.tmod size != 0)=b6:=by rw [hmod];exact h6
 cases b6 with
 | true =>
   cases b4<;>cases b5;case true.true=>cases h45
   all_goals
    refine bF (Rc:=λW e w'=>∃ (a':Option S5) (c':Nat),e=.returned (.slice a' M.ram.length c')/\w'.ownsRow W.heap.size 5 1 (.slice a' M.ram.length c') M.ram.length (M.ram.map (I5 .u8))/\Bw W w') Sa.eng {eq:=[(37,aD h4),(40,aD h5),(46,ed .u64 hwr),(48,aD h6')],ov:=[(47,Sj .u64 addr size aa)],cv:=[(23,jF Sa.below HK),(27,Ek HS),(32,Ek HI)]} 300 Sa.start (λW h=>ik A.ar _ A.cr M.ram W rfl hl.ram (O.ram.below h.b)) λg e w1 E r=>?_
    obtain ⟨a1,c1,rfl,ho1,i⟩:=r
    have I:=E.below i
    refine ⟨_,0,rfl,λ_=>I,?_⟩
    have F1:=(bi.nil g.heap.size g.heap.size w1).snoc (aI a1 M.ram.length c1 M.ram) _ w1.heap.size ho1 (A0 _) (A0 _) (A0 _) i.size
    refine te (Rc:=λW e w'=>∃ C:MA,C.ar=a1/\C.cr=c1/\e=.returned (.agg (aJ (sO M M.ram) C))/\bi g.heap.size w'.heap.size w' (aU (sO M M.ram) C)/\(∀ q ∈ aU (sO M M.ram) C,∀ k,q.v.ownBlock=some k->W.heap.size<=k\/(K0 a1 M.ram.length c1).ownBlock=some k)/\Bw W w') Sa.ez I {} 60 (λW d=>l6 M A M.ram a1 M.ram.length c1 g.heap.size W hl (O.below (I.dw d).b) (by rw [d.size];exact d.fam F1) (by rw [d.size];exact i.size) rfl) λW1 e w2 d1 r=>?_
    obtain ⟨C,hC1,hC2,rfl,Z,F2n,F⟩:=r
    have N:=(I.dw d1).below F
    refine ⟨_,0,rfl,N,?_⟩
    refine kY (s:=12) (p:=13) (u:=14) (T:=36) (cs:=aJ M C) (v1:=.u 0) (v2:=.i (qV kind)) Sa.ez N {eq:=[(56,ed .i64 qc)],cv:=[(55,Ek λW _=>fI kind f W)]} 60 (λW h=>h.out _ rfl) (λW h=>let ⟨o,a,b⟩:=h.r;⟨o,_,a,b⟩) ab (cw _ _) underlying36 rfl rfl ab ab ab λW V a b=>?_
    exact Sa.fin N Z E.two a b (by rw [Y,JZ8 rfl])
 | false =>
   have n:V=if (G.code != 0)=true then (0,dc M (bG M.ram G),wrap64 (G.code+16)) else if Gk M.cs p G.addr size kind=true then (0,dc M (bG M.ram G),iX kind) else if (A7 (dc M (bG M.ram G)) G.addr size kind x).2.1=true then ((A7 (dc M (bG M.ram G)) G.addr size kind x).1,(A7 (dc M (bG M.ram G)) G.addr size kind x).2.2,0) else (0,(A7 (dc M (bG M.ram G)) G.addr size kind x).2.2,iX kind):=by rw [Y,JZ9 ba];unfold yB;rw [Qi]
   clear Y;have hRm:SO (dc M (bG M.ram G)):=⟨m,H.cs 9,hb0,hd0,by show bA (bG M.ram G).length=true;rw [nL];exact hr0,⟨hl.x,hl.cs,by show (bG M.ram G).length<=_;rw [nL];exact hl.ram,hl.xs,hl.ys⟩,EH M.ram H.ram G,⟨H.xs,H.ys⟩,hhd⟩;generalize h7:(G.code != 0)=b7 at *;generalize Gk M.cs p G.addr size kind=b8 at *;rcases hrch:A7 (dc M (bG M.ram G)) G.addr size kind x with ⟨y,ok,X⟩;rw [hrch] at n;dsimp only at n;cases b4<;>cases b5;case true.true=>cases h45
   all_goals
    refine bF (Rc:=λW e w'=>∃ B D,e=.returned (.tuple #[.u G.addr,.i G.code,.slice B (bG M.ram G).length D])/\bi W.heap.size w'.heap.size w' [aI B (bG M.ram G).length D (bG M.ram G)]/\Bw W w') Sa.eng {eq:=[(37,aD h4),(40,aD h5),(46,ed .u64 hwr),(48,aD h6')],ov:=[(47,Sj .u64 addr size aa)],cv:=[(23,jF Sa.below HK),(27,Ek HS),(32,Ek HI),(62,jF Sa.below HE)]} 300 Sa.start HW λg e w1 E r=>?_
    obtain ⟨B,D,rfl,F1,i⟩:=r
    have I:=E.below i
    refine ⟨_,0,rfl,λ_=>I,?_⟩
    refine te (Rc:=λW e w'=>∃ C:MA,C.ar=B/\C.cr=D/\e=.returned (.agg (aJ (sO M (bG M.ram G)) C))/\bi g.heap.size w'.heap.size w' (aU (sO M (bG M.ram G)) C)/\(∀ q ∈ aU (sO M (bG M.ram G)) C,∀ k,q.v.ownBlock=some k->W.heap.size<=k\/(K0 B (bG M.ram G).length D).ownBlock=some k)/\Bw W w') Sa.ez I {} 60 (λW d=>l6 M A (bG M.ram G) B (bG M.ram G).length D g.heap.size W hl (O.below (I.dw d).b) (by rw [d.size];exact d.fam F1) (by rw [d.size];exact i.size) rfl) λW1 e w2 d1 r=>?_
    obtain ⟨C,hC1,hC2,rfl,Z,F2n,F⟩:=r
    have N:=(I.dw d1).below F
    refine ⟨_,0,rfl,N,?_⟩
    refine OH (v:=λW=>.p W.heap.size 0) Sa.ez N {} 60 2 (λW=>W.alloc (.cells (aJ au zeroA) 36)) (λW d=>dV (z:=.agg (aJ au zeroA)) ab W) λl d2=>?_
    have S3:Sa w (aJ M A) (l.alloc (.cells (aJ au zeroA) 36)):=(N.dw d2).below (bal _ _)
    refine ⟨S3,?_⟩
    have z2:l.heap.size=w2.heap.size:=d2.size
    have hN:=N.two
    refine An Sa.ez S3 {} 60 (λW=>W.setRow l.heap.size (aJ (dc M (bG M.ram G)) C)) (λW d=>aF (t:=36) (ty:=36) (old:=aJ au zeroA) (by obtain ⟨j,rfl⟩:=d;exact M7 _ _) ab rfl (cw _ _)) λW3 d3=>?_
    refine ⟨(S3.dw d3).set _ aa _,?_⟩
    have S4:Sc w (aJ M A) g.heap.size l.heap.size (dc M (bG M.ram G)) C (W3.setRow l.heap.size (aJ (dc M (bG M.ram G)) C)):=by
     have z3:W3.heap.size=l.heap.size+1:=by rw [d3.size,T5]
     refine ⟨(S3.dw d3).set _ aa _,⟨?_,?_,λq hq e=>?_,?_⟩,E.two⟩
     ·exact P2 _ _ _ _ _ _ (by obtain ⟨j,rfl⟩:=d3;exact M7 _ _)
     ·have f3:bi g.heap.size w2.heap.size W3 (aU (sO M (bG M.ram G)) C):=d3.fam ((d2.fam Z).mono λk _ h2 h3=>(T0 _ _ h3))
      exact (f3.mono λk _ h2 _=>L5 _ _ _ _ aa).low (A0 _) (by rw [N1,z3];omega)
     ·have:=Z.hi q hq _ e;omega
     ·have:=F.size;have:=d1.size;have:=i.size;omega
    refine bO (Sc w (aJ M A) g.heap.size l.heap.size (dc M (bG M.ram G)) C) ?_
    clear Z F2n F1 F
    cases b7 with
    | true =>
      refine kY (s:=12) (p:=13) (u:=14) (T:=36) (cs:=aJ (dc M (bG M.ram G)) C) (v1:=.u 0) (v2:=.i (wrap64 (G.code+16))) Sc.ez S4 {eq:=[(80,aD h7),(83,ed .i64 qg)]} 60 (λW h=>h.out _ rfl) (λW h=>let ⟨o,a,b⟩:=h.a.r;⟨o,_,a,b⟩) ab (cw _ _) underlying36 rfl rfl ab ab ab λW V a b=>?_
      exact S4.fin a b (by rw [n,JZ8 rfl])
    | false =>
      have HP':=λW (h:Sc w (aJ M A) g.heap.size l.heap.size (dc M (bG M.ram G)) C W)=>HP W h.a
      cases b8 with
      | true =>
        refine ak Sc.eng {eq:=[(80,aD h7)],cv:=[(90,jF Sc.below HP')]} 60 S4 λw5 J=>?_
        refine kY (s:=12) (p:=13) (u:=14) (T:=36) (cs:=aJ (dc M (bG M.ram G)) C) (v1:=.u 0) (v2:=.i (iX kind)) Sc.ez J {eq:=[(95,ed .i64 qa)],cv:=[(94,Ek λW _=>mS kind f W)]} 60 (λW h=>h.out _ rfl) (λW h=>let ⟨o,a,b⟩:=h.a.r;⟨o,_,a,b⟩) ab (cw _ _) underlying36 rfl rfl ab ab ab λW V a b=>?_
        exact J.fin a b (by rw [n,JZ9 ba,JZ8 rfl])
      | false =>
        refine bF (Rc:=λW e w'=>e=.returned (.tuple #[.u y,.bool ok])/\∃ A',Mp g.heap.size l.heap.size X A' w'/\Kx l.heap.size (aU (dc M (bG M.ram G)) C) (aU X A') W w') Sc.eng {eq:=[(80,aD h7)],cv:=[(90,jF Sc.below HP')]} 60 S4 (λW h=>by have r:=Hm (dc M (bG M.ram G)) C g.heap.size l.heap.size G.addr size kind x W h.mp hRm L f hga hx;rw [hrch] at r;exact r) λW5 e w6 J r=>?_
        obtain ⟨rfl,A2,m6,k6⟩:=r
        have R:=J.mp.under k6
        have hlo:=J.lo
        have S6:Sc w (aJ M A) g.heap.size l.heap.size X A2 w6:=by
         refine ⟨⟨(R.block _ aa).trans J.a.m,?_,J.a.b.trans ⟨R.os,R.tape,R.output,R.size,λk hk=>R.block k aa⟩⟩,m6,J.lo⟩
         obtain ⟨o,a,b⟩:=J.a.r
         exact ⟨o,a,(R.block _ aa).trans b⟩
        refine ⟨_,0,rfl,jw ab,?_⟩
        refine bO (Sc w (aJ M A) g.heap.size l.heap.size X A2) ?_
        cases ok with
        | true =>
          refine kY (s:=12) (p:=13) (u:=14) (T:=36) (cs:=aJ X A2) (v1:=.u y) (v2:=.i 0) Sc.ez S6 {} 60 (λW h=>h.out _ rfl) (λW h=>let ⟨o,a,b⟩:=h.a.r;⟨o,_,a,b⟩) ab (cw _ _) underlying36 rfl rfl ab ab ab λW V a b=>?_
          exact S6.fin a b (by rw [n,JZ9 ba,JZ9 ba,JZ8 rfl])
        | false =>
          refine kY (s:=12) (p:=13) (u:=14) (T:=36) (cs:=aJ X A2) (v1:=.u 0) (v2:=.i (iX kind)) Sc.ez S6 {eq:=[(109,ed .i64 qa)],cv:=[(108,Ek λW _=>mS kind f W)]} 60 (λW h=>h.out _ rfl) (λW h=>let ⟨o,a,b⟩:=h.a.r;⟨o,_,a,b⟩) ab (cw _ _) underlying36 rfl rfl ab ab ab λW V a b=>?_
          exact S6.fin a b (by rw [n,JZ9 ba,JZ9 ba,JZ9 ba])
theorem zr (hl:iW T) (d:D7 Q T j) (e:MW T) (c:U T.hd) (g:U I) (hx:U N) (f:lY Q) (b:eW T->vm T.ram.length j.ar j.cr): M5 prog 197 #[.func (.func 142) #[] #[],.agg (aJ T j),.u I,.i J,.i K,.u N] Q (ww Q (tq T I J K N)):=by
 unfold tq;cases a:vi T J K with
 | false=>rw [JZ9 ba];exact zq T j I J K N Q hl d e a
 | true =>rw [JZ8 rfl];unfold vi at a;simp only [T7,JZ6] at a;exact wy T j I J K N Q hl d e c g hx f (b a.1.1.1) a.1.1.1 a.1.1.2 a.1.2 _ _ rfl rfl (by simpa only [Bool.not_eq_true'] using a.2)
theorem Iv.ez:Ez (Iv d M o) o:=⟨λ_ h r a=>(h.rows r a).in_,λ_ h=>⟨λr a=>h.rows r a,h.ag.drew,h.sub,h.nd⟩⟩
theorem Iv.two {d:Array L7} (e:fY ⟨W,c,[]⟩ M) (f:fY ⟨L,d,[]⟩ M) (cs:W≠L):Iv [W,L] M [⟨W,c,[]⟩,⟨L,d,[]⟩] M :=
 ⟨λr a=>by
  simp only [H2,H8,or_false] at a
  rcases a with rfl|rfl
  ·exact e
  ·exact f,Ag.refl _ _,λr a=>by
  simp only [H2,H8,or_false] at a
  rcases a with rfl|rfl<;>simp,by simpa using cs⟩
theorem mU (k:Iv [x] M o B) (f:bi W L M s) (d:x<W):bi W L B s:=f.mono λi b c a=>k.ag.block i a (by rw [G3];omega)
theorem tu {E:Nat} {cs':Array L7} (a:Iv [W] M [⟨W,c,[]⟩] B) (k:Iv [W,L] B o t) (f:bi x E B s) (hb:M.heap.size<=L) (j:M.heap.size<=x) (l:E<=B.heap.size) (hx:L<x\/E<=L) (cs:W<M.heap.size) (row:fY ⟨W,cs',[]⟩ t):Iv [W] M [⟨W,cs',[]⟩] t/\bi M.heap.size t.heap.size t s:=by
 refine ⟨⟨λr b=>by rw [G3] at b;subst b;exact row,⟨k.ag.os.trans a.ag.os,k.ag.tape.trans a.ag.tape,k.ag.output.trans a.ag.output,A6 a.ag.size k.ag.size,λi e d=>?_⟩,λr b=>by rw [G3] at b;subst b;simp,bh⟩,?_⟩;·rw [G3] at d;exact (k.ag.block i (A5 e a.ag.size) fs).trans (a.ag.block i e (by rw [G3];exact d))
 ·exact (f.mono λi m n h=>k.ag.block i h fs).low j (A6 l k.ag.size)
theorem Iv.dw (h:Iv d M o B) (bs:Dw B t):Iv d M o t:=h.below (bs.below (K1 _ _))
theorem Iv.set (h:Iv d M o B) {b:Nat} (hb:b ∉ d) (g:M.heap.size<=b) (cs:Array L7):Iv d M o (B.setRow b cs):=
 ⟨λr c=>let ⟨t,a⟩:=h.rows r c;⟨t,(L5 B _ _ cs (λe=>hb (by rw [<- e];exact h.sub r c))).trans a⟩,⟨h.ag.os,h.ag.tape,h.ag.output,by rw [N1];exact h.ag.size,λk f bs=>(L5 B _ _ cs aa).trans (h.ag.block k f bs)⟩,h.sub,h.nd⟩
def mV (t:TV) (V:Int × MV × Int) (addr:Int):TV:=if V.2.2 != 0 then {t with up:=true,cz:=IntKind.i64.wrap (V.2.2-16),vl:=addr} else t
theorem vq (Y:V.ld=.func (.func 142) #[] #[]) (h:fY ⟨W,aW n E V,[]⟩ M) (hA:∀ w,Iv [W] M [⟨W,aW n E V,[]⟩] w->M5 prog 197 #[.func (.func 142) #[] #[],.agg (aJ n E),.u I,.i J,.i K,.u N] w (ww w q)): M5 prog 168 #[.p W 0,.u I,.i J,.i K,.u N] M λe w'=>∃ C,e=.returned (.tuple #[.u (if q.2.2 != 0 then 0 else q.1),.bool (!(q.2.2 != 0))])/\Iv [W] M [⟨W,aW q.2.1 C (mV V q I),[]⟩] w'/\bi M.heap.size w'.heap.size w' (aU q.2.1 C):=by
 have c:W<M.heap.size:=let ⟨_,f⟩:=h;(F3.1 f).1;refine bE (args:=[.p W 0,.u I,.i J,.i K,.u N]) (Iv [W] M [⟨W,aW n E V,[]⟩]) func168 ?_;refine aY 0 1 ?_;refine ak Iv.eng {eq:=[(19,⟨_,_,0,Y⟩)]} 60 (Iv.one h) λl D=>?_;refine mM (i:=12) (j:=17) ?_ ?_
 ·refine mN (hA l D) λe w1 f=>?_;obtain ⟨C,rfl,F1,y⟩:=f;refine ⟨_,0,rfl,D.below y,?_⟩;refine OH (v:=λw=>.p w.heap.size 0) Iv.ez (D.below y) {} 60 2 (λw=>w.alloc (.cells (aJ au zeroA) 36)) (λw _=>dV (z:=.agg (aJ au zeroA)) ab w) λo P=>?_;have u:=((D.below y).dw P).below (bal o (.cells (aJ au zeroA) 36));refine ⟨u,?_⟩;have z2:=P.size;have s0:=D.ag.size;have s1:=y.size;refine An Iv.ez u {} 60 (λw=>w.setRow o.heap.size (aJ q.2.1 C)) (λw d=>aF (t:=36) (ty:=36) (old:=aJ au zeroA) (by obtain ⟨j,rfl⟩:=d;exact M7 _ _) ab rfl (cw _ _)) λt r=>?_;have z3:t.heap.size=o.heap.size+1:=(by rw [r.size,T5]);have A:=(u.dw r).set (b:=o.heap.size) (by rw [G3];omega) aa (aJ q.2.1 C);refine ⟨A,?_⟩;have Z:fY ⟨o.heap.size,aJ q.2.1 C,[]⟩ (t.setRow o.heap.size (aJ q.2.1 C)):=⟨36,P2 _ _ _ _ _ _ (by obtain ⟨j,rfl⟩:=r;exact M7 _ _)⟩;have Q:bi l.heap.size w1.heap.size (t.setRow o.heap.size (aJ q.2.1 C)) (aU q.2.1 C):=(r.fam ((P.fam F1).mono λk _ _ u=>T0 _ _ u)).mono λk _ _ _=>L5 _ _ _ _ aa;have z4:(t.setRow o.heap.size (aJ q.2.1 C)).heap.size=t.heap.size:=N1 _ _ _;refine ak (pY Iv.ez A) {} 60 (Dw.refl _) λL s=>?_;refine bO (λ_=>True) ?_;refine aY 13 2 ?_;have F:=A.dw s;have addr:=s.fam Q;have z5:=s.size;have r5:fY ⟨o.heap.size,aJ q.2.1 C,[]⟩ L:=let ⟨T,U⟩:=Z;⟨T,by obtain ⟨j,rfl⟩:=s;exact U⟩;have H:=Iv.two F.row1 r5 aa;unfold mV;obtain ⟨B,m⟩:∃ B,(q.2.2 != 0)=B:=⟨_,rfl⟩;rw [m];cases B with
  | true =>refine fQ (R1:=[⟨W,aW q.2.1 C V,[]⟩,⟨o.heap.size,aJ q.2.1 C,[]⟩]) H {eq:=[(37,aD m)]} 60 (λw X=>jm (IntKind.i64.wrap (q.2.2-16)) I (M:=q.2.1) (A:=C) (t:=V) (X.rows ⟨W,aW q.2.1 C V,[]⟩ bh)) λW6 e w7 size f=>⟨_,0,f.1,?_⟩;obtain ⟨S,R⟩:=tu F size addr aa aa aa aa c (size.rows ⟨W,aW q.2.1 C V,[]⟩ bh);refine jN (Iv.one f.2.row1) {} 40 λx a g p=>⟨.tuple #[.u 0,.bool false],ey,C,rfl,(S.then1 f.2).then1 g,?_⟩;exact (mU g (mU f.2 R c) c).low (A0 _) (A6 f.2.ag.size g.ag.size)
  | false =>refine jN (R1:=[⟨W,aW q.2.1 C V,[]⟩,⟨o.heap.size,aJ q.2.1 C,[]⟩]) H {eq:=[(37,aD m)]} 60 λx a g p=>⟨.tuple #[.u q.1,.bool true],eu,C,rfl,?_⟩;exact tu F g addr aa aa aa aa c (g.rows ⟨W,aW q.2.1 C V,[]⟩ bh)
 ·have kind:=D.below (bal l (.cells (aJ au zeroA) 36));refine nU (v:=.p l.heap.size 0) 2 (dV (T:=36) (z:=.agg (aJ au zeroA)) ab l) kind ?_;refine te (Rc:=λw=>ww w q) Iv.ez kind {} 60 (λw d=>hA w (kind.dw d)) λW1 e w2 O f=>?_;obtain ⟨C,rfl,F2,G⟩:=f;have u:=(kind.dw O).below G;refine ⟨_,0,rfl,u,?_⟩;have s0:=D.ag.size;have z1:W1.heap.size=l.heap.size+1:=(by rw [O.size,T5]);have s2:=G.size;have q2:w2.heap[l.heap.size]?=some (.cells (aJ au zeroA) 36 (0,0)):=aA G (by obtain ⟨j,rfl⟩:=O;exact M7 _ _);refine An Iv.ez u {} 60 (λw=>w.setRow l.heap.size (aJ q.2.1 C)) (λw d=>aF (t:=36) (ty:=36) (old:=aJ au zeroA) (by obtain ⟨j,rfl⟩:=d;exact q2) ab rfl (cw _ _)) λt r=>?_;have z3:=r.size;have A:=(u.dw r).set (b:=l.heap.size) (by rw [G3];omega) aa (aJ q.2.1 C);refine ⟨A,?_⟩;have Z:fY ⟨l.heap.size,aJ q.2.1 C,[]⟩ (t.setRow l.heap.size (aJ q.2.1 C)):=⟨36,P2 _ _ _ _ _ _ (by obtain ⟨j,rfl⟩:=r;exact q2)⟩;have Q:bi W1.heap.size w2.heap.size (t.setRow l.heap.size (aJ q.2.1 C)) (aU q.2.1 C):=(r.fam F2).mono λk _ _ _=>L5 _ _ _ _ aa;have z4:(t.setRow l.heap.size (aJ q.2.1 C)).heap.size=t.heap.size:=N1 _ _ _;refine ak (pY Iv.ez A) {} 60 (Dw.refl _) λL s=>?_;refine bO (λ_=>True) ?_;refine aY 13 2 ?_;have F:=A.dw s;have addr:=s.fam Q;have z5:=s.size;have r5:fY ⟨l.heap.size,aJ q.2.1 C,[]⟩ L:=let ⟨T,U⟩:=Z;⟨T,by obtain ⟨j,rfl⟩:=s;exact U⟩;have H:=Iv.two F.row1 r5 aa;unfold mV;obtain ⟨B,m⟩:∃ B,(q.2.2 != 0)=B:=⟨_,rfl⟩;rw [m];cases B with
  | true =>refine fQ (R1:=[⟨W,aW q.2.1 C V,[]⟩,⟨l.heap.size,aJ q.2.1 C,[]⟩]) H {eq:=[(37,aD m)]} 60 (λw X=>jm (IntKind.i64.wrap (q.2.2-16)) I (M:=q.2.1) (A:=C) (t:=V) (X.rows ⟨W,aW q.2.1 C V,[]⟩ bh)) λW6 e w7 size f=>⟨_,0,f.1,?_⟩;obtain ⟨S,R⟩:=tu F size addr aa aa aa aa c (size.rows ⟨W,aW q.2.1 C V,[]⟩ bh);refine jN (Iv.one f.2.row1) {} 40 λx a g p=>⟨.tuple #[.u 0,.bool false],ey,C,rfl,(S.then1 f.2).then1 g,?_⟩;exact (mU g (mU f.2 R c) c).low (A0 _) (A6 f.2.ag.size g.ag.size)
  | false =>refine jN (R1:=[⟨W,aW q.2.1 C V,[]⟩,⟨l.heap.size,aJ q.2.1 C,[]⟩]) H {eq:=[(37,aD m)]} 60 λx a g p=>⟨.tuple #[.u q.1,.bool true],eu,C,rfl,?_⟩;exact tu F g addr aa aa aa aa c (g.rows ⟨W,aW q.2.1 C V,[]⟩ bh)
theorem NT (r:V.fm=mm C I O) (addr x:Int) (j:V.ld=.func (.func 142) #[] #[]) (h:fY ⟨W,aW n E V,[]⟩ M) (A:∀ w,Iv [W] M [⟨W,aW n E V,[]⟩] w->M5 prog 197 #[.func (.func 142) #[] #[],.agg (aJ n E),.u addr,.i I,.i 3,.u x] w (ww w q)): M5 prog 176 #[.p W 0,.u addr,.u x] M λe w'=>∃ t,e=.returned (.bool (!(q.2.2 != 0)))/\Iv [W] M [⟨W,aW q.2.1 t (mV V q addr),[]⟩] w'/\bi M.heap.size w'.heap.size w' (aU q.2.1 t):=by
 have i:W<M.heap.size:=let ⟨_,b⟩:=h;(F3.1 b).1;refine bE (args:=[.p W 0,.u addr,.u x]) (Iv [W] M [⟨W,aW n E V,[]⟩]) func176 ?_;refine aY 0 1 ?_;cases C;all_goals
  refine ak Iv.eng {cv:=[(13,vE λw a=>qC _ I O r a.row1)]} 60 (Iv.one h) λl o=>?_
  refine nJ (zj I O l) ab λe y b=>⟨_,0,b.1,jw ab,?_⟩
  have p:=o.below b.2
  refine bF (Rc:=λw e w'=>∃ t,e=.returned (.tuple #[.u (if q.2.2 != 0 then 0 else q.1),.bool (!(q.2.2 != 0))])/\Iv [W] w [⟨W,aW q.2.1 t (mV V q addr),[]⟩] w'/\bi w.heap.size w'.heap.size w' (aU q.2.1 t)) Iv.eng {} 60 p (λw a=>vq q addr I 3 x j a.row1 λW' d=>A W' (a.then1 d)) λw e z a b=>?_
  obtain ⟨t,rfl,k,m⟩:=b
  refine ⟨_,0,rfl,jw ab,?_⟩
  refine bO (λ_=>True) ?_
  exact uq (t:=6) (v:=.bool (!(q.2.2 != 0))) (Iv.one k.row1) {} 40 λu c=>⟨t,rfl,(a.then1 k).then1 c,(mU c m (A5 i a.ag.size)).low a.ag.size c.ag.size⟩
def sy (t:TV) (V:Int × MV × Int) (addr:Int) (n:Nat) (s:Bool):TV:=if V.2.2 != 0 then mV t V addr else {t with rs:=if s then aX (8*n) V.1 else V.1}
theorem Qu (hn:D=1\/D=2\/D=4\/D=8) (B:V.fm=mm C D O) (addr:Int) (x:V.ld=.func (.func 142) #[] #[]) (h:fY ⟨W,aW n E V,[]⟩ M) (H:∀ w,Iv [W] M [⟨W,aW n E V,[]⟩] w->M5 prog 197 #[.func (.func 142) #[] #[],.agg (aJ n E),.u addr,.i D,.i 2,.u 0] w (ww w q)): M5 prog 173 #[.p W 0,.u addr] M λe w'=>∃ t,e=.returned (.tuple #[.u (if q.2.2 != 0 then 0 else q.1),.bool (!(q.2.2 != 0))])/\Iv [W] M [⟨W,aW q.2.1 t (sy V q addr D O),[]⟩] w'/\bi M.heap.size w'.heap.size w' (aU q.2.1 t):=by
 have i:W<M.heap.size:=let ⟨_,d⟩:=h;(F3.1 d).1;have c:∀ w,Iv [W] M [⟨W,aW n E V,[]⟩] w->_:=λw b=>vq q addr D 2 0 x b.row1 λW' r=>H W' (b.then1 r);unfold sy;unfold mV at *;obtain ⟨o,u⟩:∃ o,(q.2.2 != 0)=o:=⟨_,rfl⟩;simp only [u] at c ⊢;refine bE (args:=[.p W 0,.u addr]) (Iv [W] M [⟨W,aW n E V,[]⟩]) func173 ?_;refine aY 0 1 ?_;cases C;all_goals
  refine ak Iv.eng {cv:=[(12,vE λw b=>qC _ D O B b.row1)]} 60 (Iv.one h) λg G=>?_
  refine nJ (zj D O g) ab λe J d=>⟨_,0,d.1,jw ab,?_⟩
  have z:=G.below d.2
  cases o
  ·refine bF (Rc:=λw e w'=>∃ t,e=.returned (.tuple #[.u q.1,.bool true])/\Iv [W] w [⟨W,aW q.2.1 t V,[]⟩] w'/\bi w.heap.size w'.heap.size w' (aU q.2.1 t)) Iv.eng {} 60 z c λw e f b d=>?_
   obtain ⟨t,rfl,j,p⟩:=d
   refine ⟨_,0,rfl,jw ab,?_⟩
   refine bO (Iv [W] f [⟨W,aW q.2.1 t V,[]⟩]) ?_
   have F:=(mU (Iv.one j.row1) p (A5 i b.ag.size)).low (B':=M.heap.size) b.ag.size (A0 _)
   refine ak Iv.eng {cv:=[(20,vE λw b=>qC _ D O B b.row1)]} 60 (Iv.one j.row1) λy k=>?_
   refine nJ (Hg D O q.1 hn y) ab λe K d=>⟨_,0,d.1,jw ab,?_⟩
   have m:=k.below d.2
   refine bO (λ_=>True) ?_
   refine jN (R1:=[⟨W,aW q.2.1 t {V with rs:=if O then aX (8*D) q.1 else q.1},[]⟩]) (Iv.one m.row1) {} 60 λI a A l=>⟨.tuple #[.u q.1,.bool true],by rw [R4 rfl,l.slot (v:=.u q.1) ab,l.slot (v:=.bool true) ab],t,rfl,((b.then1 j).then1 m).then1 A,?_⟩
   exact (mU A (mU m F i) i).low (A0 _) (A6 m.ag.size A.ag.size)
  ·refine bF (Rc:=λw e w'=>∃ t,e=.returned (.tuple #[.u 0,.bool false])/\Iv [W] w [⟨W,aW q.2.1 t _,[]⟩] w'/\bi w.heap.size w'.heap.size w' (aU q.2.1 t)) Iv.eng {} 60 z c λw e f b d=>?_
   obtain ⟨t,rfl,j,p⟩:=d
   refine ⟨_,0,rfl,jw ab,?_⟩
   refine bO (λ_=>True) ?_
   refine jN (Iv.one j.row1) {} 40 λy a k l=>⟨.tuple #[.u 0,.bool false],by rw [R4 rfl,l.slot (v:=.u 0) ab,l.slot (v:=.bool false) ab],t,rfl,(b.then1 j).then1 k,(mU k p (A5 i b.ag.size)).low b.ag.size k.ag.size⟩
def xz (t:TV) (code addr:Int):TV:=if code != 0 then {t with up:=true,cz:=code,vl:=addr} else t
theorem Qv (zs:List Int) (addr kind:Int) (u:V.ld=.func (.func 142) #[] #[]) (h:fY ⟨W,aW n E V,[]⟩ M) (F:∀ w,Iv [W] M [⟨W,aW n E V,[]⟩] w->CB 219 #[.slice E.ac n.cs.length E.cc,.i n.pr,.i kind] w (.i K)) (r:∀ w,Iv [W] M [⟨W,aW n E V,[]⟩] w->M5 prog 142 #[.slice E.ar n.ram.length E.cr,.slice E.ac n.cs.length E.cc,.i K,.u addr,.i kind] w λe w'=>∃ (b:Option S5) (c:Nat),e=.returned (.tuple #[.u I,.i J,.slice b zs.length c])/\w'.ownsRow w.heap.size 5 1 (.slice b zs.length c) zs.length (zs.map (I5 .u8))/\Bw w w'): M5 prog 205 #[.p W 0,.u addr,.i kind] M λe w'=>∃ (b:Option S5) (c:Nat),e=.returned (.tuple #[.u (if J != 0 then 0 else I),.bool (!(J != 0))])/\Iv [W] M [⟨W,aW {n with ram:=zs} {E with ar:=b,cr:=c} (xz V J addr),[]⟩] w'/\w'.ownsRow M.heap.size 5 1 (.slice b zs.length c) zs.length (zs.map (I5 .u8)):=by
 have G:W<M.heap.size:=let ⟨_,d⟩:=h;(F3.1 d).1;refine bE (args:=[.p W 0,.u addr,.i kind]) (Iv [W] M [⟨W,aW n E V,[]⟩]) func205 ?_;refine aY 0 1 ?_;refine bF Iv.eng {eq:=[(15,⟨_,_,0,u⟩)],cv:=[(37,jF Iv.below F)]} 60 (Iv.one h) r λtO e y z d=>?_;obtain ⟨b,c,rfl,H,s⟩:=d;have q:=z.below s;refine ⟨_,0,rfl,λ_=>q,?_⟩;refine ak (pY Iv.ez q) {} 60 (Dw.refl _) λD x=>?_;refine bO (λ_=>True) ?_;have g:=q.dw x;have C:D.ownsRow M.heap.size 5 1 (.slice b zs.length c) zs.length (zs.map (I5 .u8)):=by obtain ⟨j,rfl⟩:=x;exact dp (cS H z.ag.size) λk _=>rfl
 have keep:∀ {w t:L6} {R:List Rw},Iv [W] w R t->w.ownsRow M.heap.size 5 1 (.slice b zs.length c) zs.length (zs.map (I5 .u8))->t.ownsRow M.heap.size 5 1 (.slice b zs.length c) zs.length (zs.map (I5 .u8)):=λ{w t R} k o=>dp o λi e=>k.ag.block i (o.lt i e).2 (by rw [G3];have:=(o.lt i e).1;omega);unfold xz;obtain ⟨p,f⟩:∃ p,(J != 0)=p:=⟨_,rfl⟩;rw [f];cases p with
 | true =>refine fQ (R1:=[⟨W,aW {n with ram:=zs} {E with ar:=b,cr:=c} V,[]⟩]) (Iv.one g.row1) {eq:=[(50,aD f)]} 60 (λw r=>jm J addr r.row1) λcode e L B d=>⟨_,0,d.1,?_⟩;exact jN (Iv.one d.2.row1) {} 40 λA a l m=>⟨.tuple #[.u 0,.bool false],by rw [R4 rfl,m.slot (v:=.u 0) ab,m.slot (v:=.bool false) ab],b,c,rfl,((g.then1 B).then1 d.2).then1 l,keep l (keep d.2 (keep B C))⟩
 | false =>exact jN (R1:=[⟨W,aW {n with ram:=zs} {E with ar:=b,cr:=c} V,[]⟩]) (Iv.one g.row1) {eq:=[(50,aD f)]} 60 λA a l m=>⟨.tuple #[.u I,.bool true],by rw [R4 rfl,m.slot (v:=.u I) ab,m.slot (v:=.bool true) ab],b,c,rfl,g.then1 l,keep l C⟩
def oV (op a y:Int):Int:=if op=88\/op=91 then T3 .or .u64 a y else if op=89\/op=92 then T3 .andNot .u64 a y else y
theorem Ho {o:Nat} {x:Int} (h:fY ⟨W,aW n E V,[]⟩ M) (j:V.op=87\/V.op=88\/V.op=89\/V.op=90\/V.op=91\/V.op=92) (d:E.ax=some ⟨L,o,none⟩) (i:0<=V.ra/\V.ra<n.x.length) (hb:L≠W) (hx:M.cell? ⟨L,o+V.ra.toNat,none⟩=some (.u x)): M5 prog 209 #[.p W 0,.u I] M λe w'=>e=.returned (.u (oV V.op I (if 90<=V.op then Uz.wrap V.ra else x)))/\Iv [W] M [⟨W,aW n E V,[]⟩] w':=by
 have f:∀ (p:S5) v,p.block=L->M.cell? p=some v->∀ w,Iv [W] M [⟨W,aW n E V,[]⟩] w->w.cell? p=some v:=λp v m l w a=>by rw [<- l];simp only [T6,a.ag.block p.block (kI l) (by rw [m];simpa using hb)]
 refine bE (args:=[.p W 0,.u I]) (Iv [W] M [⟨W,aW n E V,[]⟩]) func209 ?_;refine aY 0 1 ?_;rcases j with q | q | q | q | q | q;·exact bg (t:=4) (v:=.u x) Iv.eng {eq:=[(12,ed .i64 q),(24,ed .i64 q)],cv:=[(7,vE λw a=>JU a.row1 d i hb (f _ _ rfl hx w a))]} 200 (Iv.one h) λw' k=>⟨by simp [oV,q],k⟩
 ·exact bg (t:=4) (v:=.u (T3 .or .u64 I x)) Iv.eng {eq:=[(12,ed .i64 q),(24,ed .i64 q)],cv:=[(7,vE λw a=>JU a.row1 d i hb (f _ _ rfl hx w a))]} 200 (Iv.one h) λw' k=>⟨by simp [oV,q],k⟩
 ·exact bg (t:=4) (v:=.u (T3 .andNot .u64 I x)) Iv.eng {eq:=[(12,ed .i64 q),(24,ed .i64 q)],cv:=[(7,vE λw a=>JU a.row1 d i hb (f _ _ rfl hx w a))]} 200 (Iv.one h) λw' k=>⟨by simp [oV,q],k⟩
 ·exact bg (t:=4) (v:=.u (Uz.wrap V.ra)) Iv.eng {eq:=[(12,ed .i64 q),(24,ed .i64 q)],cv:=[(7,vE λw a=>JU a.row1 d i hb (f _ _ rfl hx w a))]} 200 (Iv.one h) λw' k=>⟨by simp [oV,q],k⟩
 ·exact bg (t:=4) (v:=.u (T3 .or .u64 I (Uz.wrap V.ra))) Iv.eng {eq:=[(12,ed .i64 q),(24,ed .i64 q)],cv:=[(7,vE λw a=>JU a.row1 d i hb (f _ _ rfl hx w a))]} 200 (Iv.one h) λw' k=>⟨by simp [oV,q],k⟩
 ·exact bg (t:=4) (v:=.u (T3 .andNot .u64 I (Uz.wrap V.ra))) Iv.eng {eq:=[(12,ed .i64 q),(24,ed .i64 q)],cv:=[(7,vE λw a=>JU a.row1 d i hb (f _ _ rfl hx w a))]} 200 (Iv.one h) λw' k=>⟨by simp [oV,q],k⟩
theorem NU (h:fY ⟨W,aW n E V,[]⟩ M) (u:∀ w,Iv [W] M [⟨W,aW n E V,[]⟩] w->M5 prog 228 #[.slice E.ac n.cs.length E.cc,.i n.pr,.bool (V.op==96)] w λe w'=>∃ (a:Option S5) (c:Nat),e=.returned (.tuple #[.slice a S.length c,.i I,.u J,.bool O])/\(O->w'.ownsRow w.heap.size 32 1 (.slice a S.length c) S.length (S.map (I5 .u64)))/\Bw w w'): M5 prog 210 #[.p W 0] M λe w'=>e=.returned (.tuple #[])/\if O then ∃ (a:Option S5) (c:Nat),Iv [W] M [⟨W,aW {n with cs:=S,pr:=I} {E with ac:=a,cc:=c} {V with nx:=J},[]⟩] w'/\w'.ownsRow M.heap.size 32 1 (.slice a S.length c) S.length (S.map (I5 .u64)) else Iv [W] M [⟨W,aW n E {V with up:=true,cz:=2,vl:=V.wd},[]⟩] w':=by
 have x:W<M.heap.size:=let ⟨_,b⟩:=h;(F3.1 b).1;refine bE (args:=[.p W 0]) (Iv [W] M [⟨W,aW n E V,[]⟩]) func210 ?_;refine aY 0 1 ?_;refine bF Iv.eng {} 60 (Iv.one h) u λz e D q b=>?_;obtain ⟨a,c,rfl,y,m⟩:=b;have d:=q.below m;refine ⟨_,0,rfl,λ_=>d,?_⟩;cases O with
 | true =>refine ak (pY Iv.ez d) {} 60 (Dw.refl _) λo p=>?_;refine bO (λ_=>True) ?_;have f:=d.dw p;have g:o.ownsRow M.heap.size 32 1 (.slice a S.length c) S.length (S.map (I5 .u64)):=(by obtain ⟨j,rfl⟩:=p;exact dp (cS (y rfl) q.ag.size) λk _=>rfl);exact eZ (R1:=[⟨W,aW {n with cs:=S,pr:=I} {E with ac:=a,cc:=c} {V with nx:=J},[]⟩]) (Iv.one f.row1) {} 60 λB r=>⟨rfl,a,c,f.then1 r,dp g λi e=>r.ag.block i (g.lt i e).2 (by rw [G3];have:=(g.lt i e).1;omega)⟩
 | false =>refine bF Iv.eng {} 60 d (λw v=>oA v.row1) λo e A f b=>⟨_,0,b.1,jw ab,?_⟩;refine bO (λ_=>True) ?_;exact ot (Iv.one b.2.row1) {} 40 λC s=>⟨rfl,(f.then1 b.2).then1 s⟩
theorem dq {S:L6->Prop} {fn:Func} {Rs:S2->L6->Prop} {k:List KI} {P:Fr} (H:Hn F (λx=>x=M) (λx=>x=M)) (m:Nat) (hx:(gM k,(aP F [] H W false m k P).1.1,gM (aP F [] H W false m k P).1.2.1,(aP F [] H W false m k P).1.2.1.isEmpty)=(true,false,true,true)) (he:(aP F [] H W false m k P).2.map Prod.fst=(aP F [] H W false m k P).2.map Prod.snd) (c:fn.results=#[]) (h:Rs (.returned (.tuple #[])) M):Wg F S (S1 F fn Rs) W k P M:=by simp only [Prod.mk.injEq] at hx;refine aO (R:=[]) (by simp [fN]) H m (hx:=by rw [hx.1,hx.2.1,hx.2.2.1]) (he:=he) λa b=>?_;rw [List.isEmpty_iff.1 hx.2.2.2];exact bodyPost_end (results_none c _ _ _) b.nod h
theorem K6 (h:fY ⟨W,aW n E V,[]⟩ M) (q:V.op=93):M5 prog 182 #[.p W 0] M λe w'=>e=.returned (.tuple #[])/\Iv [W] M [⟨W,aW n E {V with up:=true,cz:=IntKind.i64.wrap (8+n.pr),vl:=0},[]⟩] w':=by refine bE (args:=[.p W 0]) (λ_=>True) func182 ?_;refine aY 0 1 ?_;refine fQ (Iv.one h) {eq:=[(6,ed .i64 q)]} 80 (R1:=[⟨W,aW n E V,[]⟩]) (λw a=>jm (IntKind.i64.wrap (8+n.pr)) 0 a.row1) λw e w' a c=>⟨_,0,c.1,?_⟩;exact eZ (Iv.one c.2.row1) {} 40 λW' b=>⟨rfl,(a.then1 c.2).then1 b⟩
theorem Hp (h:fY ⟨W,aW n E V,[]⟩ M) (q:V.op=94):M5 prog 182 #[.p W 0] M λe w'=>e=.returned (.tuple #[])/\Iv [W] M [⟨W,aW n E {V with up:=true,cz:=3,vl:=n.pc},[]⟩] w':=by refine bE (args:=[.p W 0]) (λ_=>True) func182 ?_;refine aY 0 1 ?_;refine fQ (Iv.one h) {eq:=[(6,ed .i64 q)]} 80 (R1:=[⟨W,aW n E V,[]⟩]) (λw a=>jm 3 n.pc a.row1) λw e w' a c=>⟨_,0,c.1,?_⟩;exact eZ (Iv.one c.2.row1) {} 40 λW' b=>⟨rfl,(a.then1 c.2).then1 b⟩
theorem K7 (h:fY ⟨W,aW n E V,[]⟩ M) (q:V.op=97\/V.op=98):M5 prog 182 #[.p W 0] M λe w'=>e=.returned (.tuple #[])/\Iv [W] M [⟨W,if n.pr==0 then aW n E {V with up:=true,cz:=2,vl:=V.wd} else aW {n with wt:=V.op==97} E V,[]⟩] w':=by
 refine bE (args:=[.p W 0]) (λ_=>True) func182 ?_;refine aY 0 1 ?_;obtain ⟨p,c⟩:∃ p,(n.pr==0)=p:=⟨_,rfl⟩;rw [c];cases p with
 | true =>
   rcases q with q|q;all_goals
    refine fQ (Iv.one h) {eq:=[(6,ed .i64 q),(39,aD c)]} 80 (R1:=[⟨W,aW n E V,[]⟩]) (λw b=>oA b.row1) λw e w' b d=>⟨_,0,d.1,?_⟩
    exact ot (Iv.one d.2.row1) {} 40 λW' a=>⟨rfl,(b.then1 d.2).then1 a⟩
 | false =>rcases q with q | q;all_goals exact eZ (R1:=[⟨W,aW {n with wt:=V.op==97} E V,[]⟩]) (Iv.one h) {eq:=[(6,ed .i64 q),(39,aD c)]} 80 λW' a=>⟨rfl,a⟩
theorem Hq {Rc:L6->S2->L6->Prop} (h:fY ⟨W,aW n E V,[]⟩ M) (q:V.op=95\/V.op=96) (c:∀ w,Iv [W] M [⟨W,aW n E V,[]⟩] w->M5 prog 210 #[.p W 0] w (Rc w)) (d:∀ w e w',Iv [W] M [⟨W,aW n E V,[]⟩] w->Rc w e w'->e=.returned (.tuple #[])):M5 prog 182 #[.p W 0] M λe w'=>e=.returned (.tuple #[])/\∃ w,Iv [W] M [⟨W,aW n E V,[]⟩] w/\Rc w e w':=by
 refine bE (args:=[.p W 0]) (λ_=>True) func182 ?_;refine aY 0 1 ?_;rcases q with q | q;all_goals
  refine fQ (Iv.one h) {eq:=[(6,ed .i64 q)]} 80 (R1:=[⟨W,aW n E V,[]⟩]) c λw e w' a b=>?_
  obtain rfl:=d w e w' a b
  exact ⟨_,0,rfl,dq {} 40 ab ab rfl ⟨rfl,w,a,b⟩⟩
theorem bi.swap (h:bi W L M (L1++r::L2)) (q:FRow) (g:M.ownsRow L q.t 1 q.v q.n q.xs) (t:W<=L) (u:L<=x) (v:M.heap.size<=x):bi W x M (L1++q::L2):=by
 have d:∀ s ∈ L1++q::L2,s=q\/s ∈ L1++r::L2:=λs c=>by
  simp only [I4,H2] at c ⊢;rcases c with c|c|c;·exact Or.inr (Or.inl c)
  ·exact Or.inl c
  ·exact Or.inr (Or.inr (Or.inr c))
 refine ⟨λs c=>?_,λs c k e=>?_,?_⟩
 ·rcases d s c with rfl|c;·exact cS g t
  ·exact h.own s c
 ·rcases d s c with rfl|c;·exact A5 (g.lt k e).2 v
  ·exact A5 (h.hi s c k e) u
 ·have m:=h.ne;rw [List.pairwise_append,List.pairwise_cons] at m ⊢;obtain ⟨n,⟨i,o⟩,p⟩:=m;refine ⟨n,⟨λs c k e f=>?_,o⟩,λa l b j k e f=>?_⟩;·have:=(g.lt k e).1;have:=h.hi s (by simp [c]) k f;omega
  ·rcases H2.1 j with rfl|j;·have:=(g.lt k f).1;have:=h.hi a (by simp [l]) k e;omega
   ·exact p a l b (by simp [j]) k e f
theorem bi.other (h:bi W L M s) (hk:∀ q ∈ s,∀ k,q.v.ownBlock=some k->B.heap[k]?=M.heap[k]?):bi W L B s:=⟨λr a=>dp (h.own r a) (hk r a),h.hi,h.ne⟩
theorem zt {g:Nat} {r q:FRow} (h:∀ s ∈ L1++r::L2,s.v.ownBlock≠some g) (b:q.v.ownBlock≠some g):∀ s ∈ L1++q::L2,s.v.ownBlock≠some g:=λs a=>by
 simp only [I4,H2] at a;rcases a with a|rfl|a;·exact h s (by simp [a])
 ·exact b
 ·exact h s (by simp [a])
structure Tq (B g:Nat) (w0:L6) (M:MV) (A:MA) (t:TV) (w:L6):Prop where
 row:fY ⟨g,aW M A t,[]⟩ w
 fam:bi B w.heap.size w (aU M A)
 ne:∀ q ∈ aU M A,q.v.ownBlock≠some g
 le:B<=w.heap.size
 os:w.os=w0.os
 tape:w.tape=w0.tape
 output:w.output=w0.output
 size:w0.heap.size<=w.heap.size
 block:∀ k,k<B->k≠g->w.heap[k]?=w0.heap[k]?
 t0:lY w0
 tb:7<B
 tn:7≠g
theorem Tq.tab (h:Tq W L M n E V B):lY B:=λj a=>by have:=h.t0 j a;simp only [T6,h.block _ h.tb h.tn];exact this
theorem Tq.sl (h:Tq W L M n A V B):D7 B n A:=by obtain ⟨a,b,c,d,e⟩:=bi.rsl (A:=A) (x:=n.x) (cs:=n.cs) (ram:=n.ram) (xs:=n.d.xs) (ys:=n.d.ys) h.fam;exact ⟨a,b,c,d,e⟩
theorem Tq.glt (h:Tq W L M n E V B):L<B.heap.size:=let ⟨_,a⟩:=h.row;(F3.1 a).1
theorem Tq.other (h:Tq W L M n E V B) (f:bi W x B (aU n E)) (k:Iv [L] B o t):bi W x t (aU n E):=f.other λq a i e=>k.ag.block i ((f.own q a).lt i e).2 (by rw [G3];exact λb=>h.ne q a (by rw [e,b]))
theorem Tq.iv1 {A':MA} (h:Tq W L M n E V B) (k:Iv [L] B [⟨L,aW M' A' R,[]⟩] t) (f:bi W t.heap.size t (aU M' A')) (a:∀ q ∈ aU M' A',q.v.ownBlock≠some L):Tq W L M M' A' R t :=
 ⟨k.row1,f,a,A6 h.le k.ag.size,k.ag.os.trans h.os,k.ag.tape.trans h.tape,k.ag.output.trans h.output,A6 h.size k.ag.size,λi c b=>(k.ag.block i (A5 c h.le) (by rw [G3];exact b)).trans (h.block i c b),h.t0,h.tb,h.tn⟩
theorem Tq.iv {M':MV} (h:Tq W L M n E V B) (k:Iv [L] B [⟨L,aW M' E R,[]⟩] t) (a:aU M' E=aU n E):Tq W L M M' E R t :=
 h.iv1 k (by rw [a];exact (h.other h.fam k).low (A0 _) k.ag.size) (by rw [a];exact h.ne)
theorem Tq.new {M':MV} {A':MA} (h:Tq W L M n E V B) (k:Iv [L] B [⟨L,aW M' A' R,[]⟩] t) (f:bi B.heap.size t.heap.size t (aU M' A')):Tq W L M M' A' R t:=h.iv1 k (f.low h.le (A0 _)) (λq a e=>by have:=((f.own q a).lt L e).1;have:=h.glt;omega)
theorem Tq.iv0 (h:Tq W L M n E V B):Iv [L] B [⟨L,aW n E V,[]⟩] B:=Iv.one h.row
theorem Tq.below (h:Tq W g M n E V B) (hb:Bw B t):Tq W g M n E V t:=h.iv (h.iv0.below hb) rfl
theorem Tq.ram (h:Tq W L M n E V B) {zs:List Int} {a:Option S5} {c:Nat} (k:Iv [L] B [⟨L,aW {n with ram:=zs} {E with ar:=a,cr:=c} R,[]⟩] t) (o:t.ownsRow B.heap.size 5 1 (.slice a zs.length c) zs.length (zs.map (I5 .u8))):Tq W L M (dc n zs) {E with ar:=a,cr:=c} R t:=by refine h.iv1 (M':=dc n zs) k ?_ (zt (L1:=[aK E.ax n.x.length E.cx n.x,aK E.ac n.cs.length E.cc n.cs]) (L2:=[aI E.ai n.d.xs.length E.ci n.d.xs,aI E.ao n.d.ys.length E.co n.d.ys]) (r:=aI E.ar n.ram.length E.cr n.ram) (q:=aI a zs.length c zs) h.ne λe=>by have:=(o.lt L e).1;have:=h.glt;omega);have f:=h.other h.fam k;exact bi.swap (L1:=[aK E.ax n.x.length E.cx n.x,aK E.ac n.cs.length E.cc n.cs]) (r:=aI E.ar n.ram.length E.cr n.ram) (L2:=[aI E.ai n.d.xs.length E.ci n.d.xs,aI E.ao n.d.ys.length E.co n.d.ys]) f (aI a zs.length c zs) o h.le k.ag.size (A0 _)
theorem Tq.csrs {t':TV} (h:Tq W L M n E V B) {zs:List Int} {b:Option S5} {c:Nat} (a:M'.x=n.x/\M'.cs=zs/\M'.ram=n.ram/\M'.d=n.d) (k:Iv [L] B [⟨L,aW M' {E with ac:=b,cc:=c} t',[]⟩] t) (o:t.ownsRow B.heap.size 32 1 (.slice b zs.length c) zs.length (zs.map (I5 .u64))):Tq W L M M' {E with ac:=b,cc:=c} t' t:=by
 have d:=zt (L1:=[aK E.ax n.x.length E.cx n.x]) (L2:=[aI E.ar n.ram.length E.cr n.ram,aI E.ai n.d.xs.length E.ci n.d.xs,aI E.ao n.d.ys.length E.co n.d.ys]) (r:=aK E.ac n.cs.length E.cc n.cs) (q:=aK b zs.length c zs) h.ne λe=>by have:=(o.lt L e).1;have:=h.glt;omega
 have f:=h.other h.fam k;have s:=bi.swap (L1:=[aK E.ax n.x.length E.cx n.x]) (r:=aK E.ac n.cs.length E.cc n.cs) (L2:=[aI E.ar n.ram.length E.cr n.ram,aI E.ai n.d.xs.length E.ci n.d.xs,aI E.ao n.d.ys.length E.co n.d.ys]) f (aK b zs.length c zs) o h.le k.ag.size (A0 _);refine h.iv1 k ?_ ?_;·unfold aU;rw [a.1,a.2.1,a.2.2.1,a.2.2.2];exact s
 ·unfold aU;rw [a.1,a.2.1,a.2.2.1,a.2.2.2];exact d
theorem oE {a:Option S5} (h:M.ownsRow W 32 1 (.slice a k.length x) k.length (k.map (I5 .u64))) (hn:k.length=L) (xs:0<L):∃ b,a=some ⟨b,0,none⟩/\W<=b/\∀ j,j<L->M.cell? ⟨b,j,none⟩=some (.u (k.getD j 0))/\M.frozen? ⟨b,j,none⟩=false:=by obtain ⟨b,g,e,f⟩:=iS h aa;simp only [Value.slice.injEq,true_and] at e;obtain ⟨d,i⟩:=e;refine ⟨b,d,f,λj l=>?_⟩;rw [d] at h;refine ⟨?_,h.frozenAt j⟩;rw [h.cellAt j aa];rw [List.getElem?_map,H1 (show j<k.length by omega),H3,H1 (show j<k.length by omega)];rfl
theorem Tq.atX (h:Tq W L M n E V B) (a:n.x.length=32):∃ b,E.ax=some ⟨b,0,none⟩/\b≠L/\∀ j,j<32->B.cell? ⟨b,j,none⟩=some (.u (n.x.getD j 0))/\B.frozen? ⟨b,j,none⟩=false:=by have f:B.ownsRow W 32 1 (.slice E.ax n.x.length E.cx) n.x.length (n.x.map (I5 .u64)):=h.fam.own (aK E.ax n.x.length E.cx n.x) d5;obtain ⟨b,c,i,d⟩:=oE f a aa;exact ⟨b,c,λe=>h.ne (aK E.ax n.x.length E.cx n.x) d5 (by show (K0 E.ax n.x.length E.cx).ownBlock=_;rw [c,e];rfl),d⟩
theorem Tq.atC (h:Tq W L M n E V B) (a:n.cs.length=22):∃ b,E.ac=some ⟨b,0,none⟩/\b≠L/\∀ j,j<22->B.cell? ⟨b,j,none⟩=some (.u (n.cs.getD j 0))/\B.frozen? ⟨b,j,none⟩=false:=by have f:B.ownsRow W 32 1 (.slice E.ac n.cs.length E.cc) n.cs.length (n.cs.map (I5 .u64)):=h.fam.own (aK E.ac n.cs.length E.cc n.cs) d5;obtain ⟨b,c,i,d⟩:=oE f a aa;exact ⟨b,c,λe=>h.ne (aK E.ac n.cs.length E.cc n.cs) d5 (by show (K0 E.ac n.cs.length E.cc).ownBlock=_;rw [c,e];rfl),d⟩
theorem Tq.good (h:Tq W L M n E V B):vm n.ram.length E.ar E.cr:=BK (h.fam.own (aI E.ar n.ram.length E.cr n.ram) d5)
theorem Tq.setX (h:Tq W L M n E V B) {b:Nat} (hb:E.ax=some ⟨b,0,none⟩) (i:Nat) (v:Int):Tq W L M (xM n (n.x.set i v)) E V (B.setCell ⟨b,i,none⟩ (.u v)):=by
 have j:B.ownsRow W 32 1 (.slice E.ax n.x.length E.cx) n.x.length (n.x.map (I5 .u64)):=h.fam.own (aK E.ax n.x.length E.cx n.x) d5;rw [hb] at j;have f:=j.stored i (.u v);rw [oB] at f;have u:=(j.lt b rfl).1;have x:B.grownBy (B.setCell ⟨b,i,none⟩ (.u v)) (aK E.ax n.x.length E.cx n.x).v.ownBlock:=by simp only [aK];rw [hb];exact f.2
 have y:=bi.mark (L1:=[]) (r:=aK E.ax n.x.length E.cx n.x) (L2:=[aK E.ac n.cs.length E.cc n.cs,aI E.ar n.ram.length E.cr n.ram,aI E.ai n.d.xs.length E.ci n.d.xs,aI E.ao n.d.ys.length E.co n.d.ys]) h.fam x ((n.x.set i v).map (I5 .u64)) (by simp only [aK];rw [hb];exact f.1);have a:(B.setCell ⟨b,i,none⟩ (.u v)).heap.size=B.heap.size:=cy _ _ _;have m:aU (xM n (n.x.set i v)) E=[]++⟨(aK E.ax n.x.length E.cx n.x).t,(aK E.ax n.x.length E.cx n.x).v,(aK E.ax n.x.length E.cx n.x).n,(n.x.set i v).map (I5 .u64)⟩::[aK E.ac n.cs.length E.cc n.cs,aI E.ar n.ram.length E.cr n.ram,aI E.ai n.d.xs.length E.ci n.d.xs,aI E.ao n.d.ys.length E.co n.d.ys]:=by simp [aU,xM,aK]
 have c:∀ k,k≠b->(B.setCell ⟨b,i,none⟩ (.u v)).heap[k]?=B.heap[k]?:=λk c=>K4 B _ _ k c;have d:L≠b:=λe=>h.ne (aK E.ax n.x.length E.cx n.x) d5 (by show (K0 E.ax n.x.length E.cx).ownBlock=_;rw [hb,e];rfl);refine ⟨?_,?_,(λq z=>by obtain ⟨C,w,l⟩:=qb (M:=n) (M':=xM n (n.x.set i v)) (A:=E) (show (n.x.set i v).length=n.x.length by simp) rfl rfl rfl rfl q z;rw [<- l];exact h.ne C w),by rw [a];exact h.le,h.os,h.tape,h.output,by rw [a];exact h.size,λk o p=>(c k aa).trans (h.block k o p),h.t0,h.tb,h.tn⟩;·obtain ⟨T,s⟩:=h.row;refine ⟨T,(c L d).trans (s.trans ?_)⟩;simp [aW,xM]
 ·rw [m,a];exact y.1
theorem Tq.setC (h:Tq W L M n E V B) {b:Nat} (hb:E.ac=some ⟨b,0,none⟩) (i:Nat) (v:Int):Tq W L M (cM n (n.cs.set i v)) E V (B.setCell ⟨b,i,none⟩ (.u v)):=by
 have j:B.ownsRow W 32 1 (.slice E.ac n.cs.length E.cc) n.cs.length (n.cs.map (I5 .u64)):=h.fam.own (aK E.ac n.cs.length E.cc n.cs) d5;rw [hb] at j;have f:=j.stored i (.u v);rw [oB] at f;have u:=(j.lt b rfl).1;have x:B.grownBy (B.setCell ⟨b,i,none⟩ (.u v)) (aK E.ac n.cs.length E.cc n.cs).v.ownBlock:=by simp only [aK];rw [hb];exact f.2
 have y:=bi.mark (L1:=[aK E.ax n.x.length E.cx n.x]) (r:=aK E.ac n.cs.length E.cc n.cs) (L2:=[aI E.ar n.ram.length E.cr n.ram,aI E.ai n.d.xs.length E.ci n.d.xs,aI E.ao n.d.ys.length E.co n.d.ys]) h.fam x ((n.cs.set i v).map (I5 .u64)) (by simp only [aK];rw [hb];exact f.1);have a:(B.setCell ⟨b,i,none⟩ (.u v)).heap.size=B.heap.size:=cy _ _ _;have m:aU (cM n (n.cs.set i v)) E=[aK E.ax n.x.length E.cx n.x]++⟨(aK E.ac n.cs.length E.cc n.cs).t,(aK E.ac n.cs.length E.cc n.cs).v,(aK E.ac n.cs.length E.cc n.cs).n,(n.cs.set i v).map (I5 .u64)⟩::[aI E.ar n.ram.length E.cr n.ram,aI E.ai n.d.xs.length E.ci n.d.xs,aI E.ao n.d.ys.length E.co n.d.ys]:=by simp [aU,cM,aK]
 have c:∀ k,k≠b->(B.setCell ⟨b,i,none⟩ (.u v)).heap[k]?=B.heap[k]?:=λk c=>K4 B _ _ k c;have d:L≠b:=λe=>h.ne (aK E.ac n.cs.length E.cc n.cs) d5 (by show (K0 E.ac n.cs.length E.cc).ownBlock=_;rw [hb,e];rfl);refine ⟨?_,?_,(λq z=>by obtain ⟨C,w,l⟩:=qb (M:=n) (M':=cM n (n.cs.set i v)) (A:=E) rfl (show (n.cs.set i v).length=n.cs.length by simp) rfl rfl rfl q z;rw [<- l];exact h.ne C w),by rw [a];exact h.le,h.os,h.tape,h.output,by rw [a];exact h.size,λk o p=>(c k aa).trans (h.block k o p),h.t0,h.tb,h.tn⟩;·obtain ⟨T,s⟩:=h.row;refine ⟨T,(c L d).trans (s.trans ?_)⟩;simp [aW,cM]
 ·rw [m,a];exact y.1
theorem Tq.acc (h:Tq W L M n E V B) (a:Gd n) {addr size kind x:Int} (f:jq size) (b:1<=kind) (c:kind<=3) (d:kind=1->size=4) (i:U addr) (hx:U x): M5 prog 197 #[.func (.func 142) #[] #[],.agg (aJ n E),.u addr,.i size,.i kind,.u x] B (ww B (aT n addr size kind x)):=by
 have q:vi n size kind:=by
  unfold vi;rw [a.ok,f,decide_eq_true ⟨b,c⟩];by_cases e:kind=1;·rw [d e];simp
  ·simp [e]
 have e:tq n addr size kind x=aT n addr size kind x:=by unfold tq;rw [JZ8 q]
 rw [<- e];exact zr n E addr size kind x B a.len h.sl a.mw a.hd i hx h.tab (λ_=>h.good)
def iL (wv av:L7) (M:MV) (A:MA):Array Value:=#[wv,.u M.pc,.slice A.ax M.x.length A.cx,.i M.pr,.slice A.ac M.cs.length A.cc,.slice A.ar M.ram.length A.cr,.u M.d.t,.u M.d.cm,.bool M.d.so,.slice A.ai M.d.xs.length A.ci,.slice A.ao M.d.ys.length A.co,.i M.d.ir,.u M.hd,.bool M.hl,.bool M.wt,av]
def byV (b:UInt8):Value:=.int .u8 (b.toNat:Int)
structure Bn (w0:L6) (g:Nat) (L:List (Nat × Obj)) (cs:Array L7) (wv:L7) (ws:List Int) (av:L7) (an:List UInt8) (M:MV) (A:MA) (W:L6):Prop where
 row:W.heap[g]?=some (.cells cs 38 (0,0))
 gb:w0.heap.size<=g
 bel:Bw w0 W
 fw:W.ownsRow w0.heap.size 32 1 wv ws.length (ws.map (I5 .u64))
 fa:W.ownsRow w0.heap.size 5 1 av an.length (an.map byV)
 fm:bi w0.heap.size W.heap.size W (aU M A)
 fg:(∀ q ∈ aU M A,q.v.ownBlock≠some g)/\∀ p ∈ L,p.1≠g
 gw:∀ k,wv.ownBlock=some k->k≠g/\av.ownBlock≠some k/\(∀ q ∈ aU M A,q.v.ownBlock≠some k)/\∀ p ∈ L,p.1≠k
 ga:∀ k,av.ownBlock=some k->k≠g/\(∀ q ∈ aU M A,q.v.ownBlock≠some k)/\∀ p ∈ L,p.1≠k
 lr:∀ p ∈ L,W.heap[p.1]?=some p.2
theorem bZ {o:Obj} (h:M.heap[W]?=some o):W<M.heap.size:=(F3.1 h).1
theorem K8 (v:L7):m.grownBy (m.setCell ⟨D,G,none⟩ v) (some D):=⟨rfl,rfl,rfl,kb,λk _ a=>K4 _ _ _ k (λe=>a (by rw [e]))⟩
theorem Bn.below (h:Bn M g l c y k b f n E B) (wv:Bw B t):Bn M g l c y k b f n E t :=
 ⟨aA wv h.row,h.gb,h.bel.trans (wv.mono h.bel.size),aZ h.fw wv,aZ h.fa wv,(h.fm.below wv).low (A0 _) wv.size,h.fg,h.gw,h.ga,λp a=>aA wv (h.lr p a)⟩
theorem Bn.ansTo (h:Bn M W l c y k b f n E B) {d:L7} {ws:List UInt8} (o:t.ownsRow M.heap.size 5 1 d ws.length (ws.map byV)) (wv:B.grownBy t b.ownBlock) (at_:d.ownBlock=b.ownBlock\/∀ av,d.ownBlock=some av->B.heap.size<=av):Bn M W l c y k d ws n E t:=by
 have g:∀ av o,B.heap[av]?=some o->b.ownBlock≠some av->t.heap[av]?=some o:=λav o e an=>(wv.block av (bZ e) (λL=>an L.symm)).trans e;refine ⟨g W _ h.row λe=>(h.ga W e).1 rfl,h.gb,L4 h.bel wv h.bel.size λav e=>(h.fa.lt av e).1,dp h.fw λav e=>wv.block av (h.fw.lt av e).2 λL=>(h.gw av e).2.1 L.symm,o,(h.fm.other λq j av e=>wv.block av ((h.fm.own q j).lt av e).2 λL=>(h.ga av L.symm).2.1 q j e).low (A0 _) wv.size,h.fg,?_,?_,λp i=>g _ _ (h.lr p i) λe=>(h.ga _ e).2.2 p i rfl⟩
 ·intro av e;obtain ⟨m,r,s,W'⟩:=h.gw av e;refine ⟨m,λL=>?_,s,W'⟩;rcases at_ with a | a;·exact r (a ▸ L)
  ·have:=a av L;have:=(h.fw.lt av e).2;omega
 ·intro av e;rcases at_ with a|a;·exact h.ga av (a ▸ e)
  ·have u:=a av e;refine ⟨λL=>?_,λq j L=>?_,λp i L=>?_⟩;·have:=bZ h.row;omega
   ·have:=h.fm.hi q j av L;omega
   ·have:=bZ (h.lr p i);omega
theorem Bn.wrdTo (h:Bn M W l c y k b f n E B) {d:L7} {ws:List Int} (o:t.ownsRow M.heap.size 32 1 d ws.length (ws.map (I5 .u64))) (wv:B.grownBy t y.ownBlock) (at_:d.ownBlock=y.ownBlock\/∀ av,d.ownBlock=some av->B.heap.size<=av):Bn M W l c d ws b f n E t:=by
 have g:∀ av o,B.heap[av]?=some o->y.ownBlock≠some av->t.heap[av]?=some o:=λav o e an=>(wv.block av (bZ e) (λL=>an L.symm)).trans e;refine ⟨g W _ h.row λe=>(h.gw W e).1 rfl,h.gb,L4 h.bel wv h.bel.size λav e=>(h.fw.lt av e).1,o,dp h.fa λav e=>wv.block av (h.fa.lt av e).2 λL=>(h.gw av L.symm).2.1 e,(h.fm.other λq j av e=>wv.block av ((h.fm.own q j).lt av e).2 λL=>(h.gw av L.symm).2.2.1 q j e).low (A0 _) wv.size,h.fg,?_,h.ga,λp i=>g _ _ (h.lr p i) λe=>(h.gw _ e).2.2.2 p i rfl⟩;intro av e;rcases at_ with a | a;·exact h.gw av (a ▸ e)
 ·have m:=a av e;refine ⟨λL=>?_,λL=>?_,λq j L=>?_,λp i L=>?_⟩;·have:=bZ h.row;omega
  ·have:=(h.fa.lt av L).2;omega
  ·have:=h.fm.hi q j av L;omega
  ·have:=bZ (h.lr p i);omega
theorem Bn.mach (h:Bn M W l c y k b f n E B) {N:MV} {D:MA} (ws:bi B.heap.size t.heap.size t (aU N D)) (wv:Bw B t):Bn M W l c y k b f N D t:=by
 have p:=h.below wv;have nq:∀ av,av<B.heap.size->∀ q ∈ aU N D,q.v.ownBlock≠some av:=λav L q a e=>by have:=((ws.own q a).lt av e).1;omega
 exact ⟨p.row,p.gb,p.bel,p.fw,p.fa,ws.low h.bel.size (A0 _),⟨nq W (bZ h.row),p.fg.2⟩,λav e=>⟨(h.gw av e).1,(h.gw av e).2.1,nq av (h.fw.lt av e).2,(h.gw av e).2.2.2⟩,λav e=>⟨(h.ga av e).1,nq av (h.fa.lt av e).2,(h.ga av e).2.2⟩,p.lr⟩
theorem Bn.put (h:Bn M W l c y k b f n E B) {cs':Array L7} (r:t.heap[W]?=some (.cells cs' 38 (0,0))) (wv:B.grownBy t (some W)):Bn M W l cs' y k b f n E t:=by refine ⟨r,h.gb,L4 h.bel wv h.bel.size λav e=>by cases e;exact h.gb,dp h.fw λav e=>wv.block av (h.fw.lt av e).2 λa=>(h.gw av e).1 (by cases a;rfl),dp h.fa λav e=>wv.block av (h.fa.lt av e).2 λa=>(h.ga av e).1 (by cases a;rfl),(h.fm.other λq d av e=>wv.block av ((h.fm.own q d).lt av e).2 λa=>h.fg.1 q d (by cases a;exact e)).low (A0 _) wv.size,h.fg,h.gw,h.ga,λp L=>(wv.block _ (bZ (h.lr p L)) λa=>h.fg.2 p L (by cases a;rfl)).trans (h.lr p L)⟩
theorem Bn.setc (h:Bn M W l c y k b f n E B) (i:Nat) (v:L7) {cs':Array L7} (e:c.set! i v=cs'):Bn M W l cs' y k b f n E (B.setCell ⟨W,i,none⟩ v):=
 h.put (e ▸ gn h.row v) (K8 B W i v)
theorem Bn.setr (h:Bn M W l c y k b f n E B) (cs':Array L7):Bn M W l cs' y k b f n E (B.setRow W cs'):=
 h.put (P2 _ _ _ _ _ _ h.row) ⟨rfl,rfl,rfl,ch,λav _ a=>L5 _ _ _ _ λe=>a (by rw [e])⟩
theorem NV (h:M.ownsRow W 5 1 y L e) (hb:W<=M.heap.size) (s:ByteArray) (hn:L+s.size<=1000000): ∃ d W',(T9 #[22,9] 22 #[y,.string s]).run prog M=.ok d W'/\W'.ownsRow W 5 1 d (L+s.size) (e++Lib.strCells s)/\M.grownBy W' y.ownBlock/\(d.ownBlock=y.ownBlock\/∀ k,d.ownBlock=some k->M.heap.size<=k):=by
 obtain ⟨p,o,r,q,t⟩:=info_parts info5;have H:=λb C m=>Lib.run_append_own_string (P:=prog) M b 22 9 22 5 p underlying22 underlying9 o r q t y L e C s ct aa m;obtain ⟨d,W',f,w,x,_⟩:=H W h hb;refine ⟨d,W',f,w,x,?_⟩;rcases h.2 with ⟨l,u⟩ | ⟨k,cap,i,l,F,B,v,z,A,G⟩;·obtain ⟨I,E,a,D,_⟩:=H M.heap.size ⟨h.1,.inl ⟨l,u⟩⟩ (A0 _);rw [f] at a;cases a;exact .inr λk xs=>(D.lt k xs).1
 ·subst l;by_cases c:L+s.size<=cap;·have a:=Lib.run_append_room_string (P:=prog) M 22 9 22 5 p underlying22 underlying9 o q k L cap i B s c aa;rw [f] at a;cases a;exact .inl rfl
  ·have a:=Lib.run_append_grow_string (P:=prog) M 22 9 22 5 p (.int .u8 0) underlying22 underlying9 o r ⟨k,0,none⟩ L cap e (by rw [q];simpa using h.1) (h.cells (g:=k) rfl) s aa aa (by rw [t];exact growslice_fits aa aa);rw [f] at a;cases a;exact .inr λj xs=>by cases xs;exact A0 _
theorem tw {xs:T2} (r:prog.underlying z=some (.slice xs)) (d:(prog.info? xs).map (λi=>(i.zero,i.size,i.bytes))=some (some y,1,L)) (hz:y.cells.size=1) (w:L<=16) (h:M.ownsRow W xs 1 b x e) (hb:W<=M.heap.size) (t:L7) (hx:t.oneCell') (hn:x<=1000000): ∃ a W',(T9 #[z,z] z #[b,.slice (some ⟨M.heap.size,0,none⟩) 1 1]).run prog (M.alloc (.cells #[t] xs (0,0)))=.ok a W'/\W'.ownsRow W xs 1 a (x+1) (e++[t])/\(M.alloc (.cells #[t] xs (0,0))).grownBy W' b.ownBlock/\(a.ownBlock=b.ownBlock\/∀ k,a.ownBlock=some k->(M.alloc (.cells #[t] xs (0,0))).heap.size<=k):=by
 obtain ⟨A,d,f⟩:=T4.1 d;simp only [Prod.mk.injEq] at f;obtain ⟨g,l,m⟩:=f;have v:=(K1 M.heap.size M).alloc (A0 _) (.cells #[t] xs (0,0));obtain ⟨a,W',q,o,p,_,c⟩:=run_append_own_at (P:=prog) (M.alloc (.cells #[t] xs (0,0))) W z z xs A y 1 L r d g l m hz ba b x e (aZ h v) ⟨M.heap.size,0,none⟩ 1 1 [t] rfl (λj u s=>gF M _ _ j u s) (by simpa using hx) ct (A6 (Nat.mul_le_mul (show x+1<=1000001 by omega) w) ba) (by rw [T5];omega);refine ⟨a,W',q,o,p,?_⟩;rcases c with c | c;·exact .inl c
 ·exact .inr λk xs=>by rw [c] at xs;cases xs;exact A0 _
def RM (T U:T2) (v u:L7):Sem Next:=execOp (λx=>match x with | .tmp 0=>v | _=>u) {dst:=none,op:=.call {callee:=.builtin .append,args:=#[.tmp 0,.tmp 1],argTypes:=#[T,U]},type:=T,pos:= "",after:=#[],guard:=none}
theorem od {U:T2} {x:L7} (h:(T9 #[z,U] z #[y,b]).run F M=.ok x B):(RM z U y b).run F M=.ok (.value x) B:=by unfold RM execOp;simp only [resolve,invoke,builtin,Sem.run_bind,Sem.run_pure,Result.andThen_ok,List.map_toArray,List.map_cons,List.map_nil,h]
theorem oe:(prog.info? 9).map (λi=>(i.zero,i.size,i.bytes))=some (some (.string ⟨#[]⟩),1,16):=by kernel_rfl
theorem BM:(prog.info? 5).map (λi=>(i.zero,i.size,i.bytes))=some (some (.int .u8 0),1,1):=by kernel_rfl
theorem xA:(prog.info? 32).map (λi=>(i.zero,i.size,i.bytes))=some (some (.u 0),1,8):=by kernel_rfl
theorem vt:(do pure (.value (<- T8 26 1 #[(0,.string p)])):Sem Next).run prog m=.ok (.value (.slice (some ⟨m.heap.size,0,none⟩) 1 1)) (m.alloc (.cells #[.string p] 9)):=by obtain ⟨b,a,e⟩:=T4.1 oe;simp only [Prod.mk.injEq] at e;have:=R5 (P:=prog) m 26 9 1 #[(0,.string p)] #[.string p] b (.string ⟨#[]⟩) underlying26 a e.1 ix ix (by rw [e.2.1];kernel_rfl);simp [this]
theorem K9:(do pure (.value (<- T8 22 1 #[(0,.int .u8 I)])):Sem Next).run prog m=.ok (.value (.slice (some ⟨m.heap.size,0,none⟩) 1 1)) (m.alloc (.cells #[.int .u8 I] 5)):=by obtain ⟨b,a,e⟩:=T4.1 BM;simp only [Prod.mk.injEq] at e;have:=R5 (P:=prog) m 22 5 1 #[(0,.int .u8 I)] #[.int .u8 I] b (.int .u8 0) underlying22 a e.1 ix ix (by rw [e.2.1];kernel_rfl);simp [this]
theorem RQ:(do pure (.value (<- T8 31 1 #[(0,.u I)])):Sem Next).run prog m=.ok (.value (.slice (some ⟨m.heap.size,0,none⟩) 1 1)) (m.alloc (.cells #[.u I] 32)):=by obtain ⟨b,a,e⟩:=T4.1 xA;simp only [Prod.mk.injEq] at e;have:=R5 (P:=prog) m 31 32 1 #[(0,.u I)] #[.u I] b (.u 0) underlying31 a e.1 ix ix (by rw [e.2.1];kernel_rfl);simp [this]
theorem kl (h:M.ownsRow W z 1 y L e):∃ a c,y=.slice a L c:=by
 rcases h.2 with ⟨b,xs⟩|⟨k,cap,d,b,_⟩;·exact ⟨none,0,by rw [b,xs]⟩
 ·exact ⟨_,_,b⟩
theorem NW:Lib.strCells p=p.data.toList.map byV:=rfl
theorem BN:Lib.join (([p]:List ByteArray).map (·.data.toList)) [32]=p.data.toList:=by simp [Lib.join]
theorem mb (h:Bn M W l (iL y b n E) y k b f n E B) (wv c:Nat) (x:ByteArray) (hb:B.cell? ⟨wv,0,none⟩=some (.string x)) (Y:1<=c) (hn:f.length+x.size<=900000): M5 prog 16 #[.p W 0,.slice (some ⟨wv,0,none⟩) 1 c] B λe W'=>e=.returned (.tuple #[])/\∃ g,Bn M W l (iL y g n E) y k g (f++x.data.toList++[10]) n E W':=by
 have t:wv<B.heap.size:=World.block_lt_of_cell? _ _ hb
 have J:∀ V,R1 B W (iL y b n E) 38 V->CB 39 #[.slice (some ⟨wv,0,none⟩) 1 c,.string ⟨#[32]⟩] V (.string x):=λV r=>by
  have:=Tryz.strings_Join wv 0 c [x] ⟨#[32]⟩ V (λj L I=>by
   cases j with
   | zero=>cases I;exact (r.2.cell (p:=⟨wv,0,none⟩) t).trans hb
   | succ j=>cases I) (by have:=r.2.size;omega) bh Y (by rw [BN];have e:x.data.toList.length=x.size:=bh;omega)
  rw [BN] at this
  exact this
 refine bE (args:=[.p W 0,.slice (some ⟨wv,0,none⟩) 1 c]) (R1 B W (iL y b n E) 38) func16 ?_
 refine aY 0 1 ?_
 refine ak (R1.eng (P:=prog)) {} 1 ⟨h.row,K1 _ _⟩ λW0 X=>?_
 refine CX 7 ?_
 refine bF (R1.eng (P:=prog)) {} 40 (X.below (K1 _ _).drew) J ?_
 rintro V e W1 r ⟨rfl,s⟩
 have G:=r.below s
 refine ⟨_,0,rfl,λ_=>G,?_⟩
 have p:=h.below G.2
 obtain ⟨v2,N,H,u,S,D⟩:=NV p.fa p.bel.size x aa
 obtain ⟨ws,av,rfl⟩:=kl u
 refine eH 11 (od H) ?_
 have F:f.length+x.size=(f++x.data.toList).length:=bh
 rw [NW,<- List.map_append,F] at u
 rw [F] at D H ⊢
 have z:=p.ansTo u S D
 refine du (R:=[⟨W,iL y b n E,[]⟩]) ⟨⟨_,_,z.row⟩,trivial⟩ {} 40 (jk (i:=15) (T:=22) (v:=.slice ws (f++x.data.toList).length av) z.row (show 15<16 by decide) ab rfl) ?_
 have o:=z.setc 15 (.slice ws (f++x.data.toList).length av) (cs':=iL y (.slice ws (f++x.data.toList).length av) n E) rfl
 generalize N.setCell ⟨W,15,none⟩ (.slice ws (f++x.data.toList).length av)=q at o ⊢
 refine aO (R:=[]) trivial {} 1 ?_
 refine aH [.code (cQ 1 (bI Tryz.f16))] [(0,.p W 0,1)] ?_
 refine eU (R:=[⟨W,iL y (.slice ws (f++x.data.toList).length av) n E,[]⟩]) ⟨⟨_,_,o.row⟩,trivial⟩ {} 40 19 (K9 q 10) ?_
 obtain ⟨v4,W4,an,w,U,A⟩:=tw underlying22 BM rfl ba o.fa o.bel.size (.int .u8 10) rfl bb
 obtain ⟨a,d,rfl⟩:=kl w
 have O:Bw q (q.alloc (.cells #[.int .u8 10] 5 (0,0))):=bal _ _
 have w0:=o.below O
 have m:(f++x.data.toList).length+1=(f++x.data.toList++[10]).length:=by simp;omega
 have Q:(f++x.data.toList).map byV++[.int .u8 10]=(f++x.data.toList++[10]).map byV:=by simp [byV]
 rw [Q,m] at w
 rw [m] at A an
 have C:=w0.ansTo w U A
 refine eH 20 (od an) ?_
 refine du (R:=[⟨W,iL y (.slice ws (f++x.data.toList).length av) n E,[]⟩]) ⟨⟨_,_,C.row⟩,trivial⟩ {} 40 (jk (i:=15) (T:=22) (v:=.slice a (f++x.data.toList++[10]).length d) C.row (show 15<16 by decide) ab rfl) ?_
 have Z:=C.setc 15 (.slice a (f++x.data.toList++[10]).length d) (cs':=iL y (.slice a (f++x.data.toList++[10]).length d) n E) rfl
 exact dq {} 40 ab ab rfl ⟨rfl,_,Z⟩
def oL (l:List Int):Nat:=l.countP (· != 4)
def Cc (k n:Int) (M:MV):MV × Nat :=
 if (k==1&&decide (0<=n/\n<=300))=true then ((bJ n.toNat M).1,oL (bJ n.toNat M).2)
 else if (k==2&&decide (0<=n))=true then (dU (dg M (ky M.d n)),0)
 else if (k==3&&decide (0<=n))=true then (dU (dg M (lP M.d (IntKind.u8.wrap n))),0)
 else (M,0)
def me:List (Int × Int)->MV->MV × Nat
 | [],M=>(M,0)
 | e::l,M=>((me l (Cc e.1 e.2 M).1).1,(Cc e.1 e.2 M).2+(me l (Cc e.1 e.2 M).1).2)
def jD (M:MV) (l:List (Int × Int)):MV × Nat:=if (eW M&&decide (l.length<=100))=true then me l M else (au,0)
theorem Fg:oL S<=S.length:=List.countP_le_length
theorem Hr {l:List Int} {q:Nat} (h:q<l.length):oL (l.take (q+1))=oL (l.take q)+if (l.getD q 0 != 4)=true then 1 else 0:=by rw [List.take_add_one,H1 h,H3,H1 h];unfold oL;rw [List.countP_append];simp
theorem Gw.okB (h:Gw n):lm n.d.xs.length n.d.ys.length n.d.ir:=(cI h.1.ok).2.2.2.2.1
theorem Gw.tick (h:Gw n) {M:Int} (hn:0<=M):Gw (dU (dg n (ky n.d M))):=by
 have e:ky n.d M=⟨Uz.wrap (n.d.t+Uz.wrap M),n.d.cm,n.d.so,n.d.xs,n.d.ys,n.d.ir⟩:=by unfold ky;rw [JZ8 (by rw [h.okB];simpa using hn)]
 rw [e];exact ⟨h.1.dev h.okB ⟨h.1.mw.xs,h.1.mw.ys⟩,bq _,h.2.2⟩
theorem Gw.byte (h:Gw n) {b:Int} (hb:(Lit.int .u8 b).wf):Gw (dU (dg n (lP n.d b))):=by
 have e:lP n.d b=⟨n.d.t,n.d.cm,n.d.so,if n.d.xs.length<16 then n.d.xs++[b] else n.d.xs,n.d.ys,n.d.ir⟩:=by unfold lP;rw [JZ8 h.okB]
 have g:=xU h.okB;rw [e];have key:∀ c:List Int,c.length<=16->(∀ y ∈ c,(Lit.int .u8 y).wf)->Gw (dU (dg n ⟨n.d.t,n.d.cm,n.d.so,c,n.d.ys,n.d.ir⟩)):=λc d f=>by refine ⟨h.1.dev ?_ ⟨f,h.1.mw.ys⟩,h.2⟩;have:=h.okB;unfold lm at this ⊢;simp only [T7,JZ6] at this ⊢;exact ⟨⟨d,this.1.2⟩,this.2⟩
 split
 ·exact key _ bb λy a=>by
   rcases I4.1 a with a|a;·exact h.1.mw.xs y a
   ·rw [G3.1 a];exact hb
 ·exact key _ aa h.1.mw.xs
theorem OS (h:Gw n) (k M:Int):Gw (Cc k M n).1:=by
 unfold Cc;split;·exact vk _ h
 ·split;·rename_i a;rw [T7,JZ6] at a;exact h.tick a.2
  ·split;·exact h.byte (uL (y:=IntKind.u8.wrap M) (by rw [IntKind.wrap_u8];omega))
   ·exact h
theorem RR:(Cc I J T).2<=300:=by
 unfold Cc;split;·rename_i h;rw [T7,JZ6] at h;have a:=Fg (bJ J.toNat T).2;have b:=rz J.toNat T;show oL _<=300;omega
 ·split;·exact F0 _
  ·split<;>exact F0 _
theorem NY {l:List (Int × Int)} (a:W<l.length) (M:MV):me (l.drop W) M=((me (l.drop (W+1)) (Cc (l.getD W (0,0)).1 (l.getD W (0,0)).2 M).1).1,(Cc (l.getD W (0,0)).1 (l.getD W (0,0)).2 M).2+(me (l.drop (W+1)) (Cc (l.getD W (0,0)).1 (l.getD W (0,0)).2 M).1).2):=by rw [List.drop_eq_getElem_cons a,H3,H1 a];rfl
theorem Gw.line (h:Gw n):dU n=n:=rt (nN (cI h.1.ok).2.2.1) (h.1.mw.cs 9) (cI h.1.ok).2.2.2.2.2.2
def vu (k n:Int) (M:MV):MV × Nat :=
 if (k==1&&decide (0<=n/\n<=300))=true then ((bJ n.toNat M).1,oL (bJ n.toNat M).2)
 else if (k==2&&decide (0<=n))=true then (dg M (ky M.d n),0)
 else if (k==3&&decide (0<=n))=true then (dg M (lP M.d (IntKind.u8.wrap n)),0)
 else (M,0)
theorem Fh (h:Gw n) (k M:Int):Cc k M n=(dU (vu k M n).1,(vu k M n).2):=by
 unfold Cc vu;split;·rw [(vk _ h).line]
 ·split;·rfl
  ·split;·rfl
   ·rw [h.line]
theorem Qw (h:Gw n) (k M:Int):iW (vu k M n).1/\(vu k M n).1.cs.length=22/\lm (vu k M n).1.d.xs.length (vu k M n).1.d.ys.length (vu k M n).1.d.ir:=by
 have g:=OS h k M;rw [Fh h] at g;have l:=g.1.len;have e:(dU (vu k M n).1).cs.length=(vu k M n).1.cs.length:=by simp [dU]
 exact ⟨⟨l.x,by rw [<- e];exact l.cs,l.ram,l.xs,l.ys⟩,by rw [<- e];exact nN (cI g.1.ok).2.2.1,g.okB⟩
def wN (op:Int):Nat:=2^((az (op-1).toNat).f3z%4).toNat
def wS (op:Int):Bool:=decide ((az (op-1).toNat).f3z<4)
def dz (op:Int):L7 :=
 if op<3 then .iface 262 (.agg #[])
 else if op<11 then .iface 263 (.agg #[])
 else if op<18 then mm .ld (wN op) (wS op)
 else if op<22 then mm .st (wN op) (wS op)
 else if op<63 then .iface 262 (.agg #[])
 else if op<85 then (if op=63\/op=74 then mm .hd (wN op) (wS op) else if op=64\/op=75 then mm .sc (wN op) (wS op) else mm .am (wN op) (wS op))
 else if op<87 then .iface 274 (.agg #[])
 else if op<93 then .iface 275 (.agg #[])
 else .iface 276 (.agg #[])
theorem La:∀ k,k<98->0<=(az k).f3z/\(az k).f3z<8/\((10<=k/\k<=16)->wN ((k:Nat)+1:Int)=kO ((k:Nat)+1:Int)/\wS ((k:Nat)+1:Int)=decide (k<14))/\((17<=k/\k<=20)->wN ((k:Nat)+1:Int)=2^(k-17))/\((62<=k/\k<=83)->wN ((k:Nat)+1:Int)=be ((k:Nat)+1:Int)/\wS ((k:Nat)+1:Int)):=by
 have h:(List.range 98).all (λk=>decide (0<=(az k).f3z/\(az k).f3z<8/\((10<=k/\k<=16)->wN ((k:Nat)+1:Int)=kO ((k:Nat)+1:Int)/\wS ((k:Nat)+1:Int)=decide (k<14))/\((17<=k/\k<=20)->wN ((k:Nat)+1:Int)=2^(k-17))/\((62<=k/\k<=83)->wN ((k:Nat)+1:Int)=be ((k:Nat)+1:Int)/\wS ((k:Nat)+1:Int)))):=ab
 intro k a;exact of_decide_eq_true (List.all_eq_true.1 h k eo)
theorem Fi (op:1<=a) (i:a<=98):0<=(az (a-1).toNat).f3z/\(az (a-1).toNat).f3z<8/\((11<=a/\a<=17)->wN a=kO a/\wS a=decide (a-11<4))/\((18<=a/\a<=21)->wN a=2^(a-18).toNat)/\((63<=a/\a<=84)->wN a=be a/\wS a):=by
 obtain ⟨k,rfl⟩:∃ k:Nat,a=(k:Int)+1:=⟨(a-1).toNat,aa⟩;obtain ⟨op,d,f,g,h⟩:=La k aa;rw [show ((k:Int)+1-1).toNat=k from aa];refine ⟨op,d,λe=>?_,λe=>?_,λe=>h aa⟩
 ·obtain ⟨b,c⟩:=f aa;refine ⟨b,c.trans ?_⟩;by_cases q:k<14;·rw [decide_eq_true q,decide_eq_true aa]
  ·rw [decide_eq_false q,decide_eq_false aa]
 ·rw [g aa,show ((k:Int)+1-18).toNat=k-17 from aa]
theorem sz (J:1<=I) (u:I<=98) (w:L6):CB 199 #[.i I] w (.agg #[.i (wN I:Nat),.bool (wS I)]):=by
 obtain ⟨N,Z,_⟩:=Fi J u;have B:oN I:=decide_eq_true ⟨J,u⟩;have f:=λW=>ol I (Bt aa aa) W;have H:vH I=(az (I-1).toNat).val:=by unfold vH;rw [B];rfl
 rw [H,B] at f;unfold wN wS;generalize az (I-1).toNat=R at *;obtain ⟨i,op,o,z,m⟩:=R;unfold Row.val at f;dsimp only at f;generalize Fm.str op=l at f;generalize (Row.mk i op o z m).f3z=y at *;refine cF (S:=Bs w [(#[.i 0,.bool false],265)]) (args:=[.i I]) [(#[.i 0,.bool false],265)] func199 ?_;refine bF Bs.eng {} 40 (Bs.start _ _) (λG _=>f G) ?_;rintro G e Y L ⟨rfl,M⟩;refine ⟨_,0,rfl,jw ab,?_⟩;have v:=L.below M;refine ak Bs.eng {} 3 v λb q=>?_;refine eH 2 (dV (T:=95) (z:=noRow) ab b) ?_;refine cP (aF (g:=b.heap.size) (t:=95) (ty:=95) (old:=#[.string ⟨#[]⟩,.string ⟨#[]⟩,.u 0,.u 0,.u 0]) (cells:=#[.string i,.string l,.u o,.u y,.u m]) (M7 _ _) ab rfl ab) ?_;have X:w.heap.size<b.heap.size:=(F3.1 (q.1 0 _ rfl)).1;have D:Bw b ((b.alloc (.cells noRow.cells 95)).setRow b.heap.size #[.string i,.string l,.u o,.u y,.u m]):=aN (bal _ _) (A0 _) _;have E:fY ⟨b.heap.size,#[.string i,.string l,.u o,.u y,.u m],[]⟩ ((b.alloc (.cells noRow.cells 95)).setRow b.heap.size #[.string i,.string l,.u o,.u y,.u m]):=⟨_,P2 _ _ _ _ _ _ (M7 _ _)⟩;generalize (b.alloc (.cells noRow.cells 95)).setRow b.heap.size #[.string i,.string l,.u o,.u y,.u m]=r at D E ⊢;have j:=q.below D;have p:Iv [w.heap.size,b.heap.size] r [⟨w.heap.size,#[.i 0,.bool false],[]⟩,⟨b.heap.size,#[.string i,.string l,.u o,.u y,.u m],[]⟩] r:=Iv.two ⟨_,j.1 0 _ rfl⟩ E aa;refine bO (Iv [w.heap.size,b.heap.size] r [⟨w.heap.size,#[.i 0,.bool false],[]⟩,⟨b.heap.size,#[.string i,.string l,.u o,.u y,.u m],[]⟩]) ?_;refine aO (R:=[]) trivial {} 3 ?_;refine En ?_;have fin:∀ (n:Nat) (s:Bool) (k:List KI) (F:Fr) (c:L6),Iv [w.heap.size,b.heap.size] r [⟨w.heap.size,#[.i 0,.bool false],[]⟩,⟨b.heap.size,#[.string i,.string l,.u o,.u y,.u m],[]⟩] c->gM k->((db prog ({}:Hw prog (Ag [w.heap.size,b.heap.size] c)) Tryz.f199.ntmps 40 k (vV 2 1 F) [⟨w.heap.size,#[.i 0,.bool false],[]⟩,⟨b.heap.size,#[.string i,.string l,.u o,.u y,.u m],[]⟩]).1.1,(db prog ({}:Hw prog (Ag [w.heap.size,b.heap.size] c)) Tryz.f199.ntmps 40 k (vV 2 1 F) [⟨w.heap.size,#[.i 0,.bool false],[]⟩,⟨b.heap.size,#[.string i,.string l,.u o,.u y,.u m],[]⟩]).1.2.2.2)=(true,[⟨w.heap.size,#[.i n,.bool s],[]⟩,⟨b.heap.size,#[.string i,.string l,.u o,.u y,.u m],[]⟩]) ->
  (db prog ({}:Hw prog (Ag [w.heap.size,b.heap.size] c)) Tryz.f199.ntmps 40 k (vV 2 1 F) [⟨w.heap.size,#[.i 0,.bool false],[]⟩,⟨b.heap.size,#[.string i,.string l,.u o,.u y,.u m],[]⟩]).2.map Prod.fst=(db prog ({}:Hw prog (Ag [w.heap.size,b.heap.size] c)) Tryz.f199.ntmps 40 k (vV 2 1 F) [⟨w.heap.size,#[.i 0,.bool false],[]⟩,⟨b.heap.size,#[.string i,.string l,.u o,.u y,.u m],[]⟩]).2.map Prod.snd ->
  (lk (db prog ({}:Hw prog (Ag [w.heap.size,b.heap.size] c)) Tryz.f199.ntmps 40 k (vV 2 1 F) [⟨w.heap.size,#[.i 0,.bool false],[]⟩,⟨b.heap.size,#[.string i,.string l,.u o,.u y,.u m],[]⟩]).1.2.2.1 2).map Prod.fst=some (.p w.heap.size 0) ->
  n=2^(y%4).toNat/\s=decide (y<4)->Wg prog (Iv [w.heap.size,b.heap.size] r [⟨w.heap.size,#[.i 0,.bool false],[]⟩,⟨b.heap.size,#[.string i,.string l,.u o,.u y,.u m],[]⟩]) (S1 prog Tryz.f199 λe w'=>e=.returned (.agg #[.i (2^(y%4).toNat:Nat),.bool (decide (y<4))])/\Bw w w') Tryz.f199.ntmps k F c:=by
  intro n s k F c d hn hx he U A
  refine bO (λ_=>True) (hn:=hn) ?_
  refine aY 2 1 ?_
  have O:=Iv.two (d.rows _ (H5 ..)) (d.rows _ (List.mem_cons_of_mem _ (H5 ..))) (λe=>by have:=d.nd;simp [e] at this)
  refine jN O {} 40 (hx:=hx) (he:=he) λQ a K C=>?_
  obtain ⟨P,V⟩:=K.rows _ (H5 ..)
  have x:=d.ag.trans K.ag
  refine ⟨_,results_cell_row results199 a.tmps Q w.heap.size P _ (0,0) _ (C.slot U) V underlying265 rfl rfl,by rw [<- A.1,<- A.2],?_⟩
  exact ⟨x.os.trans j.2.os,x.tape.trans j.2.tape,x.output.trans j.2.output,A6 j.2.size x.size,λk C=>(x.block k (A5 C j.2.size) fs).trans (j.2.block k C)⟩
 have J2:=λW=>(aL y 0 2 N aa ba ba W).mono λe w' k=>And.intro k.1 (show Bw W w' by rw [k.2];exact (K1 _ _).drew);have h:=λW=>(aL y 2 1 N aa ba ba W).mono λe w' k=>And.intro k.1 (show Bw W w' by rw [k.2];exact (K1 _ _).drew);clear L v q M H f X D E;obtain rfl | rfl | rfl | rfl | rfl | rfl | rfl | rfl:y=0\/y=1\/y=2\/y=3\/y=4\/y=5\/y=6\/y=7:=aa
 ·refine ak Iv.eng {cv:=[(12,jF Iv.below λW _=>J2 W),(16,jF Iv.below λW _=>h W)]} 40 (p.below (K1 _ _).drew) λc d=>?_;exact fin 1 true _ _ c d ab ab ab ab bv
 ·refine ak Iv.eng {cv:=[(12,jF Iv.below λW _=>J2 W),(16,jF Iv.below λW _=>h W)]} 40 (p.below (K1 _ _).drew) λc d=>?_;exact fin 2 true _ _ c d ab ab ab ab bv
 ·refine ak Iv.eng {cv:=[(12,jF Iv.below λW _=>J2 W),(16,jF Iv.below λW _=>h W)]} 40 (p.below (K1 _ _).drew) λc d=>?_;exact fin 4 true _ _ c d ab ab ab ab bv
 ·refine ak Iv.eng {cv:=[(12,jF Iv.below λW _=>J2 W),(16,jF Iv.below λW _=>h W)]} 40 (p.below (K1 _ _).drew) λc d=>?_;exact fin 8 true _ _ c d ab ab ab ab bv
 ·refine ak Iv.eng {cv:=[(12,jF Iv.below λW _=>J2 W),(16,jF Iv.below λW _=>h W)]} 40 (p.below (K1 _ _).drew) λc d=>?_;exact fin 1 false _ _ c d ab ab ab ab bv
 ·refine ak Iv.eng {cv:=[(12,jF Iv.below λW _=>J2 W),(16,jF Iv.below λW _=>h W)]} 40 (p.below (K1 _ _).drew) λc d=>?_;exact fin 2 false _ _ c d ab ab ab ab bv
 ·refine ak Iv.eng {cv:=[(12,jF Iv.below λW _=>J2 W),(16,jF Iv.below λW _=>h W)]} 40 (p.below (K1 _ _).drew) λc d=>?_;exact fin 4 false _ _ c d ab ab ab ab bv
 ·refine ak Iv.eng {cv:=[(12,jF Iv.below λW _=>J2 W),(16,jF Iv.below λW _=>h W)]} 40 (p.below (K1 _ _).drew) λc d=>?_;exact fin 8 false _ _ c d ab ab ab ab bv
theorem rB (b:63<=I) (c:I<=84) (w:L6):CB 200 #[.i I] w (if I=63\/I=74 then mm .hd (wN I) (wS I) else if I=64\/I=75 then mm .sc (wN I) (wS I) else mm .am (wN I) (wS I)):=by
 have a:=λW (_:Bw w W)=>sz I aa aa W;generalize wN I=n at *;generalize wS I=s at *;refine cF (S:=Bs w []) (args:=[.i I]) [] func200 ?_;by_cases d:I=63;·rw [JZ8 aa];exact bg (t:=2) (v:=mm .hd n s) Bs.eng {eq:=[(5,aD (show (I==63)=true by simp;omega))],cv:=[(8,fu a),(15,fu a),(19,fu a)]} 60 (Bs.start w []) λw' h=>⟨rfl,h.2⟩
 by_cases f:I=74;·rw [JZ8 aa];exact bg (t:=2) (v:=mm .hd n s) Bs.eng {eq:=[(5,aD (show (I==63)=false by simp;omega)),(6,aD (show (I==74)=true by simp;omega))],cv:=[(8,fu a),(15,fu a),(19,fu a)]} 60 (Bs.start w []) λw' h=>⟨rfl,h.2⟩
 by_cases g:I=64;·rw [JZ9 aa,JZ8 aa];exact bg (t:=2) (v:=mm .sc n s) Bs.eng {eq:=[(5,aD (show (I==63)=false by simp;omega)),(6,aD (show (I==74)=false by simp;omega)),(12,aD (show (I==64)=true by simp;omega))],cv:=[(8,fu a),(15,fu a),(19,fu a)]} 60 (Bs.start w []) λw' h=>⟨rfl,h.2⟩
 by_cases i:I=75;·rw [JZ9 aa,JZ8 aa];exact bg (t:=2) (v:=mm .sc n s) Bs.eng {eq:=[(5,aD (show (I==63)=false by simp;omega)),(6,aD (show (I==74)=false by simp;omega)),(12,aD (show (I==64)=false by simp;omega)),(13,aD (show (I==75)=true by simp;omega))],cv:=[(8,fu a),(15,fu a),(19,fu a)]} 60 (Bs.start w []) λw' h=>⟨rfl,h.2⟩
 rw [JZ9 aa,JZ9 aa];exact bg (t:=2) (v:=mm .am n s) Bs.eng {eq:=[(5,aD (show (I==63)=false by simp;omega)),(6,aD (show (I==74)=false by simp;omega)),(12,aD (show (I==64)=false by simp;omega)),(13,aD (show (I==75)=false by simp;omega))],cv:=[(8,fu a),(15,fu a),(19,fu a)]} 60 (Bs.start w []) λw' h=>⟨rfl,h.2⟩
theorem DJ (g:1<=I) (d:I<=98) (w:L6):CB 170 #[.i I] w (dz I):=by
 have a:=λW (_:Bw w W)=>sz I g d W;have i:=λW (b:63<=I) (c:I<=84)=>rB I b c W;unfold dz;generalize wN I=n at *;generalize wS I=s at *;refine cF (S:=Bs w []) (args:=[.i I]) [] func170 ?_;by_cases k:I<3;·rw [JZ8 aa];exact bg (t:=2) (v:=.iface 262 (.agg #[])) Bs.eng {eq:=[(5,aD (show decide (I<3)=true by rw [JZ6];omega))]} 100 (Bs.start w []) λw' h=>⟨rfl,h.2⟩
 by_cases l:I<11;·rw [JZ9 aa,JZ8 aa];exact bg (t:=2) (v:=.iface 263 (.agg #[])) Bs.eng {eq:=[(5,aD (show decide (I<3)=false by rw [JZ7];omega)),(10,aD (show decide (I<11)=true by rw [JZ6];omega))]} 100 (Bs.start w []) λw' h=>⟨rfl,h.2⟩
 by_cases m:I<18;·rw [JZ9 aa,JZ9 aa,JZ8 aa];exact bg (t:=2) (v:=mm .ld n s) Bs.eng {eq:=[(5,aD (show decide (I<3)=false by rw [JZ7];omega)),(10,aD (show decide (I<11)=false by rw [JZ7];omega)),(15,aD (show decide (I<18)=true by rw [JZ6];omega))],cv:=[(17,fu a),(24,fu a)]} 100 (Bs.start w []) λw' h=>⟨rfl,h.2⟩
 by_cases o:I<22;·rw [JZ9 aa,JZ9 aa,JZ9 aa,JZ8 aa];exact bg (t:=2) (v:=mm .st n s) Bs.eng {eq:=[(5,aD (show decide (I<3)=false by rw [JZ7];omega)),(10,aD (show decide (I<11)=false by rw [JZ7];omega)),(15,aD (show decide (I<18)=false by rw [JZ7];omega)),(22,aD (show decide (I<22)=true by rw [JZ6];omega))],cv:=[(17,fu a),(24,fu a)]} 100 (Bs.start w []) λw' h=>⟨rfl,h.2⟩
 by_cases p:I<63;·rw [JZ9 aa,JZ9 aa,JZ9 aa,JZ9 aa,JZ8 aa];exact bg (t:=2) (v:=.iface 262 (.agg #[])) Bs.eng {eq:=[(5,aD (show decide (I<3)=false by rw [JZ7];omega)),(10,aD (show decide (I<11)=false by rw [JZ7];omega)),(15,aD (show decide (I<18)=false by rw [JZ7];omega)),(22,aD (show decide (I<22)=false by rw [JZ7];omega)),(29,aD (show decide (I<63)=true by rw [JZ6];omega))]} 100 (Bs.start w []) λw' h=>⟨rfl,h.2⟩
 by_cases q:I<85;·rw [JZ9 aa,JZ9 aa,JZ9 aa,JZ9 aa,JZ9 aa,JZ8 aa];have j:=λW (_:Bw w W)=>i W aa aa;generalize (if I=63\/I=74 then mm .hd n s else if I=64\/I=75 then mm .sc n s else mm .am n s)=f at *;exact bg (t:=2) (v:=f) Bs.eng {eq:=[(5,aD (show decide (I<3)=false by rw [JZ7];omega)),(10,aD (show decide (I<11)=false by rw [JZ7];omega)),(15,aD (show decide (I<18)=false by rw [JZ7];omega)),(22,aD (show decide (I<22)=false by rw [JZ7];omega)),(29,aD (show decide (I<63)=false by rw [JZ7];omega)),(34,aD (show decide (I<85)=true by rw [JZ6];omega))],cv:=[(36,fu j)]} 100 (Bs.start w []) λw' h=>⟨rfl,h.2⟩
 by_cases r:I<87;·rw [JZ9 aa,JZ9 aa,JZ9 aa,JZ9 aa,JZ9 aa,JZ9 aa,JZ8 aa];exact bg (t:=2) (v:=.iface 274 (.agg #[])) Bs.eng {eq:=[(5,aD (show decide (I<3)=false by rw [JZ7];omega)),(10,aD (show decide (I<11)=false by rw [JZ7];omega)),(15,aD (show decide (I<18)=false by rw [JZ7];omega)),(22,aD (show decide (I<22)=false by rw [JZ7];omega)),(29,aD (show decide (I<63)=false by rw [JZ7];omega)),(34,aD (show decide (I<85)=false by rw [JZ7];omega)),(39,aD (show decide (I<87)=true by rw [JZ6];omega))]} 100 (Bs.start w []) λw' h=>⟨rfl,h.2⟩
 by_cases u:I<93;·rw [JZ9 aa,JZ9 aa,JZ9 aa,JZ9 aa,JZ9 aa,JZ9 aa,JZ9 aa,JZ8 aa];exact bg (t:=2) (v:=.iface 275 (.agg #[])) Bs.eng {eq:=[(5,aD (show decide (I<3)=false by rw [JZ7];omega)),(10,aD (show decide (I<11)=false by rw [JZ7];omega)),(15,aD (show decide (I<18)=false by rw [JZ7];omega)),(22,aD (show decide (I<22)=false by rw [JZ7];omega)),(29,aD (show decide (I<63)=false by rw [JZ7];omega)),(34,aD (show decide (I<85)=false by rw [JZ7];omega)),(39,aD (show decide (I<87)=false by rw [JZ7];omega)),(44,aD (show decide (I<93)=true by rw [JZ6];omega))]} 100 (Bs.start w []) λw' h=>⟨rfl,h.2⟩
 rw [JZ9 aa,JZ9 aa,JZ9 aa,JZ9 aa,JZ9 aa,JZ9 aa,JZ9 aa,JZ9 aa];exact bg (t:=2) (v:=.iface 276 (.agg #[])) Bs.eng {eq:=[(5,aD (show decide (I<3)=false by rw [JZ7];omega)),(10,aD (show decide (I<11)=false by rw [JZ7];omega)),(15,aD (show decide (I<18)=false by rw [JZ7];omega)),(22,aD (show decide (I<22)=false by rw [JZ7];omega)),(29,aD (show decide (I<63)=false by rw [JZ7];omega)),(34,aD (show decide (I<85)=false by rw [JZ7];omega)),(39,aD (show decide (I<87)=false by rw [JZ7];omega)),(44,aD (show decide (I<93)=false by rw [JZ7];omega))]} 100 (Bs.start w []) λw' h=>⟨rfl,h.2⟩
