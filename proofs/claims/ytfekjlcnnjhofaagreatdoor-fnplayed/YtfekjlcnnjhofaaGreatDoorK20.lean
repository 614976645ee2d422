/- Own lemmas. -/
import Derived.Test.YtfekjlcnnjhofaaGreatDoorAut
import Derived.Test.YtfekjlcnnjhofaaGreatDoorK19
set_option maxRecDepth 100000
set_option maxHeartbeats 12800000
namespace Go.Proofs.YtfekjlcnnjhofaaGreatDoor
open Go.RowKit Tryz
open IntKind renaming u64->Uz
open Below renaming refl->G1,heap_setCell->H8
open Go renaming Calls->I1,setRow_other->I2,World->I3,heap_alloc_new->I4,results_tmp2->I5,setRow_size->K0,Value->K1,setRow_heap->L0,bodyPost->L6,Ending->N1,Addr->O1,heap_alloc_old->P2,results_none->R4,bits->R5,Program->R6
open List renaming mem_singleton->A5,mem_cons->A6,mem_cons_self->A8,not_mem_nil->A9,getElem?_eq_getElem->C5,mem_append->C6
open Nat renaming le_refl->D2,lt_of_lt_of_le->D3,le_trans->D4,zero_add->D8
open Prod renaming fst->S2,snd->S5
open Value renaming int->F0,slice->F3
open World renaming size_alloc->R7,cell?->R8
open _root_.Array renaming getElem?_eq_some_iff->D1
set_option linter.unusedVariables false
variable {w B W:I3} {n E V g:Nat} {R M' M:MV} {c A:MA} {L b t:TV} {y:Array K1} {f:List Rw} {k L1 L2:List FRow} {s x:Int} {F:List Nat} {S P:R6} {a:I3->Prop} {l:Func} {o:List KI} {Q:Fr} {Rs:N1->I3->Prop} {r:FRow} (X:MV) (d:MA) (e:Ins) (j:Int × MV × Int) (m:Wf) (p q z C:Int) (D:List Int) (G:I3)
structure Sa (w:I3) (cs:Array K1) (W:I3):Prop where
 m:W.heap[w.heap.size]?=some (.cells cs 29 (0,0))
 r:∃ old,old.size=14/\W.heap[w.heap.size+1]?=some (.cells old 29 (0,0))
 b:Bw w W
theorem Sa.below (h:Sa w y W) (hb:Bw W B):Sa w y B :=
 ⟨aD hb h.m,let ⟨o,a,b⟩:=h.r;⟨o,a,aD hb b⟩,aa h.b hb⟩
theorem Sa.out (h:Sa w y W) (d:Array K1) (hd:d.size=14):Sa w y (W.setRow (w.heap.size+1) d):=
 ⟨(I2 W _ _ d ab).trans h.m,let ⟨o,b,a⟩:=h.r;⟨d,hd,L0 _ _ o _ _ _ a⟩,aI h.b ab d⟩
theorem Sa.ez:Ez (Sa w y) [⟨w.heap.size,y,[]⟩]:=
 ⟨λW h r a=>by rw [A5] at a;subst a;exact ⟨_,_,h.m⟩,λW h=>h.below (G1 _ _).drew⟩
theorem Sa.eng {fn:Func}:n6 P (Sa w y) (Sa w y) [⟨w.heap.size,y,[]⟩] true (L6 P fn Rs):=⟨λ_ h=>h,Sa.ez.rows,λ_=>Sa.ez.drew,cD⟩
theorem Sa.start {cs:Array K1}:Sa w cs (bP w [(cs,29),(ak zeroM zeroA,29)]):=by obtain ⟨a,b⟩:=Bs.start w [(cs,29),(ak zeroM zeroA,29)];exact ⟨a 0 _ rfl,⟨_,rfl,a 1 _ rfl⟩,b⟩
theorem Sa.two (h:Sa w y W):w.heap.size+2<=W.heap.size:=by obtain ⟨o,_,a⟩:=h.r;have:=(D1.1 a).1;omega
structure Sc (w:I3) (cs:Array K1) (B r:Nat) (M:MV) (A:MA) (W:I3):Prop where
 a:Sa w cs W
 mp:Mp B r M A W
 lo:w.heap.size+2<=B
theorem Sc.below (h:Sc w y n E R c W) (hb:Bw W B):Sc w y n E R c B:=⟨h.a.below hb,h.mp.below hb,h.lo⟩
theorem Sc.out (h:Sc w y n E R c W) (d:Array K1) (hd:d.size=14):Sc w y n E R c (W.setRow (w.heap.size+1) d):=by have a:=h.mp.lo;have f:=h.lo;refine ⟨h.a.out d hd,⟨(I2 W _ _ d ab).trans h.mp.row,?_,h.mp.ne,h.mp.lo⟩,h.lo⟩;exact (h.mp.fam.mono λk b A e=>I2 W _ _ d ab).low (D2 _) rz
theorem Sc.ez:Ez (Sc w y n E R c) [⟨w.heap.size,y,[]⟩,⟨E,ak R c,[]⟩]:=
 ⟨λW h q a=>by
  simp only [A6,A9,or_false] at a
  rcases a with rfl|rfl
  ·exact ⟨_,_,h.a.m⟩
  ·exact ⟨_,_,h.mp.row⟩,λW h=>h.below (G1 _ _).drew⟩
theorem Sc.eng {fn:Func}:n6 P (Sc w y n E R c) (Sc w y n E R c) [⟨w.heap.size,y,[]⟩,⟨E,ak R c,[]⟩] true (L6 P fn Rs):=⟨λ_ h=>h,Sc.ez.rows,λ_=>Sc.ez.drew,cD⟩
theorem bj.set1 (h:bj n E w k) (cs:Array K1) (b:g<n):bj n E (w.setRow g cs) k:=h.mono λL a _ _=>I2 w g L cs ab
theorem Dw.fam (h:bj n E w k) (d:Dw w W):bj n E W k:=by obtain ⟨j,rfl⟩:=d;exact h.mono λ_ _ _ _=>rfl
theorem Dw.size {w:I3} (d:Dw w W):W.heap.size=w.heap.size:=by obtain ⟨j,rfl⟩:=d;rfl
theorem Sa.dw (h:Sa w y W) (d:Dw W B):Sa w y B:=by obtain ⟨j,rfl⟩:=d;exact ⟨h.m,h.r,⟨h.b.os,h.b.tape,h.b.output,h.b.size,h.b.block⟩⟩
abbrev yc (w:I3) (V:Int × MV × Int):N1->I3->Prop:=λe w'=>∃ C,e=.returned (.tuple #[.u V.1,.agg (ak V.2.1 C),.i V.2.2])/\bj w.heap.size w'.heap.size w' (aF V.2.1 C)/\Bw w w'
theorem Sc.fin {V:I3} {M:Int} {U:Int × MV × Int} (h:Sc w y n E R c W) (a:Dw W B) (b:Dw (B.setRow (w.heap.size+1) (ak R c)) V) (d:U=(s,R,M)):yc w U (.returned (.tuple #[.u s,.agg (ak R c),.i M])) V:=by subst d;have f:=(a.fam h.mp.fam).set1 (g:=w.heap.size+1) (ak R c) (by have:=h.lo;omega);have e:=aI (h.a.dw a).b (g:=w.heap.size+1) ab (ak R c);refine ⟨c,rfl,(b.fam f).low (by have:=h.lo;omega) ?_,b.below e⟩;rw [b.size,K0,a.size];exact D2 _
theorem AX (addr size kind x:Int) (w:I3) (hl:iR X) (hs:oe w X d) (r:MW X) (c:wZ X size kind=false): I1 prog 181 #[.func (.func 122) #[] #[],.agg (ak X d),.u addr,.i size,.i kind,.u x] w (yc w (0,zeroM,99)):=by
 have f:=λW (h:Sa w (ak X d) W)=>dZ X d W hl (hs.below h.b) r.cs;have g:=λW (_:Sa w (ak X d) W)=>gI size W;have e:=λW (_:Sa w (ak X d) W)=>DJ kind W;unfold wZ at c;generalize dJ X=i at *;generalize jt size=j at *;generalize decide (1<=kind/\kind<=3)=k at *;generalize n:(kind==1)=l at *;generalize q:(size != 4)=m at *;refine br (S:=Sa w (ak X d)) [(ak X d,29),(ak zeroM zeroA,29)] func181 ?_;cases i;case' true =>
  cases j;case' true =>
   cases k;case' true =>
    cases l;case' false=>cases c
    case' true =>cases m;case' false=>cases c
 all_goals
  refine ae Sa.eng {eq:=[(37,an n),(40,an q)],cv:=[(23,iQ Sa.below f),(27,kj g),(32,kj e)]} 300 Sa.start λt A=>?_
  refine mo (s:=12) (p:=13) (u:=14) (T:=29) (cs:=ak zeroM zeroA) (v1:=.u 0) (v2:=.i 99) Sa.ez A {} 40 (λW h=>h.out _ rfl) (λW h=>let ⟨o,a,b⟩:=h.r;⟨o,_,a,b⟩) ba (bO _ _) underlying29 rfl rfl ba ba ba λW V a b=>?_
  exact ⟨zeroA,rfl,gC _ _ _,b.below (aI (A.dw a).b ab _)⟩
theorem Sa.fin {V:I3} {M:Int} {U:Int × MV × Int} (h:Sa w y W) (f:bj n W.heap.size W (aF R c)) (j:w.heap.size+2<=n) (a:Dw W B) (b:Dw (B.setRow (w.heap.size+1) (ak R c)) V) (d:U=(s,R,M)):yc w U (.returned (.tuple #[.u s,.agg (ak R c),.i M])) V:=by subst d;have i:=(a.fam f).set1 (g:=w.heap.size+1) (ak R c) ab;have e:=aI (h.dw a).b (g:=w.heap.size+1) ab (ak R c);refine ⟨c,rfl,(b.fam i).low ab ?_,b.below e⟩;rw [b.size,K0,a.size];exact D2 _
theorem Sa.set (h:Sa w y W) (r:Nat) (hr:w.heap.size+2<=r) (d:Array K1):Sa w y (W.setRow r d):=
 ⟨(I2 W _ _ d ab).trans h.m,let ⟨o,a,b⟩:=h.r;⟨o,a,(I2 W _ _ d ab).trans b⟩,aI h.b ab d⟩
theorem ye (kind x:Int) (w:I3) (hl:iR X) (hs:oe w X d) (H:MW X) (hhd:U X.hd) (ha:U p) (hx:U x) (hT:pu w) (hgd:xh X.ram.length d.ar d.cr) (hmk:dJ X) (L:jt q) (K:1<=kind/\kind<=3) (b4 b5:Bool) (h4:(kind==1)=b4) (h5:(q != 4)=b5) (h45:(b4&&b5)=false): I1 prog 181 #[.func (.func 122) #[] #[],.agg (ak X d),.u p,.i q,.i kind,.u x] w (yc w (aH X p q kind x)):=by
 have HK:=λW (h:Sa w (ak X d) W)=>dZ X d W hl (hs.below h.b) H.cs;have HS:=λW (_:Sa w (ak X d) W)=>gI q W;have HI:=λW (_:Sa w (ak X d) W)=>DJ kind W;rw [hmk] at HK;rw [L] at HS;rw [decide_eq_true K] at HI;obtain ⟨m,O,hpr,hr0,hd0,hb0⟩:=aN hmk;have f:kind=1\/kind=2\/kind=3:=ab
 have hs5:q=1\/q=2\/q=4\/q=8:=of_decide_eq_true L;have hp:=wi (H.cs 0) O hpr kind;obtain ⟨V,M⟩:∃ V,V=aH X p q kind x:=⟨_,rfl⟩;rw [<- M];unfold aH at M;have hwr:Uz.wrap q=q:=by rcases hs5 with rfl|rfl|rfl|rfl<;>decide +kernel
 have hmod:p.tmod q=p%q:=by rw [Int.tmod_eq_emod_of_nonneg ha.1]
 obtain ⟨addr,P⟩:∃ addr,gg X.cs X.pr kind=addr:=⟨_,rfl⟩;obtain ⟨G,hG⟩:∃ G,cj X.ram X.ram.length X.cs addr p kind=G:=⟨_,rfl⟩;have hga:U G.addr:=by rw [<- hG];exact uE _ _ _ _ _ _ ha
 have hlg:bm 22 X.cs addr:=by unfold bm;rw [O,<- P,hp];rfl
 have hwk:nG X.ram.length X.cs.length X.cs addr kind:=by unfold nG;rw [hr0,m,hlg];unfold jp;simpa using K
 have HE:∀ W,Sa w (ak X d) W->CB 208 #[.slice d.ac X.cs.length d.cc,.i X.pr,.i kind] W (.i addr):=λW h=>by have h:=mC d.ac X.cs.length d.cc X.cs X.pr kind W rfl (hs.cs.below h.b) H.cs;unfold LU at h;rw [m,show bm 22 X.cs X.pr=true by unfold bm;rw [O,hpr];rfl,decide_eq_true K,P] at h;rw [m];exact h
 have HW:∀ W,Sa w (ak X d) W->I1 prog 122 #[.slice d.ar X.ram.length d.cr,.slice d.ac X.cs.length d.cc,.i addr,.u p,.i kind] W λe c=>∃ B D,e=.returned (.tuple #[.u G.addr,.i G.code,.slice B (bz X.ram G).length D])/\bj W.heap.size c.heap.size c [aE B (bz X.ram G).length D (bz X.ram G)]/\Bw W c:=λW h=>by have h:=rH d.ar X.ram.length d.cr X.ram d.ac X.cs.length d.cc X.cs addr p kind W rfl hl.ram (hs.ram.below h.b) H.ram rfl (hs.cs.below h.b) H.cs ha (hT.below h.b) hgd;unfold GW GX vI at h;rw [hwk] at h;simp only [if_true,hG] at h;exact h.mono λe c ⟨B,D,h1,h2,h3⟩=>⟨B,D,h1,(bj.nil W.heap.size W.heap.size c).snoc (aE B (bz X.ram G).length D (bz X.ram G)) _ _ h2 (D2 _) (D2 _) (D2 _) h3.size,h3⟩
 have HP:∀ W,Sa w (ak X d) W->CB 170 #[.slice d.ac X.cs.length d.cc,.i addr,.u G.addr,.i q,.i kind] W (.bool (!JG X.cs addr G.addr q kind)):=λW h=>by have h:=kP d.ac X.cs.length d.cc X.cs addr G.addr q kind W rfl (hs.cs.below h.b) H.cs hga (hT.below h.b);rw [m,Np X.cs addr G.addr q kind hlg L (decide_eq_true K)] at h;rw [m];exact h
 have HCC:=λW (_:True)=>hC kind f W;have HAC:=λW (_:True)=>nS kind f W;have qc:IntKind.i64.wrap ((if kind=1 then 0 else if kind=2 then 4 else 6)+16)=oM kind:=by rcases f with rfl | rfl | rfl<;>decide +kernel
 have qa:IntKind.i64.wrap ((if kind=2 then 5 else if kind=3 then 7 else 1)+16)=ig kind:=by rcases f with rfl|rfl|rfl<;>decide +kernel
 have qg:IntKind.i64.wrap (G.code+16)=wrap64 (G.code+16):=by simp only [IntKind.wrap_i64,wrap64]
 rw [P,hG] at M;refine br (S:=Sa w (ak X d)) [(ak X d,29),(ak zeroM zeroA,29)] func181 ?_;generalize h6:(p%q != 0)=b6 at *;have h6':(p.tmod q != 0)=b6:=by rw [hmod];exact h6
 cases b6 with
 | true =>
   cases b4<;>cases b5;case true.true=>cases h45
   all_goals
    refine aT (Rc:=λW e w'=>∃ (a':Option O1) (c':Nat),e=.returned (.slice a' X.ram.length c')/\w'.ownsRow W.heap.size 5 1 (.slice a' X.ram.length c') X.ram.length (X.ram.map (F0 .u8))/\Bw W w') Sa.eng {eq:=[(37,an h4),(40,an h5),(46,cR .u64 hwr),(48,an h6')],ov:=[(47,Lh .u64 p q ab)],cv:=[(23,iQ Sa.below HK),(27,kj HS),(32,kj HI)]} 300 Sa.start (λW h=>jY d.ar _ d.cr X.ram W rfl hl.ram (hs.ram.below h.b)) λg e w1 E r=>?_
    obtain ⟨a1,c1,rfl,ho1,i⟩:=r
    have I:=E.below i
    refine ⟨_,0,rfl,λ_=>I,?_⟩
    have F1:=(bj.nil g.heap.size g.heap.size w1).snoc (aE a1 X.ram.length c1 X.ram) _ w1.heap.size ho1 (D2 _) (D2 _) (D2 _) i.size
    refine qE (Rc:=λW e w'=>∃ C:MA,C.ar=a1/\C.cr=c1/\e=.returned (.agg (ak (uo X X.ram) C))/\bj g.heap.size w'.heap.size w' (aF (uo X X.ram) C)/\(∀ size ∈ aF (uo X X.ram) C,∀ k,size.v.ownBlock=some k->W.heap.size<=k\/(F3 a1 X.ram.length c1).ownBlock=some k)/\Bw W w') Sa.ez I {} 60 (λW A=>ng X d X.ram a1 X.ram.length c1 g.heap.size W hl (hs.below (I.dw A).b) (by rw [A.size];exact A.fam F1) (by rw [A.size];exact i.size) rfl) λW1 e w2 d1 r=>?_
    obtain ⟨C,hC1,hC2,rfl,Y,Z,F⟩:=r
    have N:=(I.dw d1).below F
    refine ⟨_,0,rfl,N,?_⟩
    refine mo (s:=12) (p:=13) (u:=14) (T:=29) (cs:=ak X C) (v1:=.u 0) (v2:=.i (oM kind)) Sa.ez N {eq:=[(56,cR .i64 qc)],cv:=[(55,kj λW _=>hC kind f W)]} 60 (λW h=>h.out _ rfl) (λW h=>let ⟨o,a,b⟩:=h.r;⟨o,_,a,b⟩) ba (bO _ _) underlying29 rfl rfl ba ba ba λW V a b=>?_
    exact Sa.fin N Y E.two a b (by rw [M,JZ8 rfl])
 | false =>
   have n:V=if (G.code != 0)=true then (0,bN X (bz X.ram G),wrap64 (G.code+16)) else if JG X.cs addr G.addr q kind=true then (0,bN X (bz X.ram G),ig kind) else if (CR (bN X (bz X.ram G)) G.addr q kind x).2.1=true then ((CR (bN X (bz X.ram G)) G.addr q kind x).1,(CR (bN X (bz X.ram G)) G.addr q kind x).2.2,0) else (0,(CR (bN X (bz X.ram G)) G.addr q kind x).2.2,ig kind):=by rw [M,JZ9 bc];unfold zX;rw [Ti]
   clear M;have hRm:V7 (bN X (bz X.ram G)):=⟨m,H.cs 9,hb0,hd0,by show bf (bz X.ram G).length=true;rw [kB];exact hr0,⟨hl.x,hl.cs,by show (bz X.ram G).length<=_;rw [kB];exact hl.ram,hl.xs,hl.ys⟩,Am X.ram H.ram G,⟨H.xs,H.ys⟩,hhd⟩;generalize h7:(G.code != 0)=b7 at *;generalize JG X.cs addr G.addr q kind=b8 at *;rcases hrch:CR (bN X (bz X.ram G)) G.addr q kind x with ⟨y,ok,R⟩;rw [hrch] at n;dsimp only at n;cases b4<;>cases b5;case true.true=>cases h45
   all_goals
    refine aT (Rc:=λW e w'=>∃ B D,e=.returned (.tuple #[.u G.addr,.i G.code,.slice B (bz X.ram G).length D])/\bj W.heap.size w'.heap.size w' [aE B (bz X.ram G).length D (bz X.ram G)]/\Bw W w') Sa.eng {eq:=[(37,an h4),(40,an h5),(46,cR .u64 hwr),(48,an h6')],ov:=[(47,Lh .u64 p q ab)],cv:=[(23,iQ Sa.below HK),(27,kj HS),(32,kj HI),(62,iQ Sa.below HE)]} 300 Sa.start HW λg e w1 E r=>?_
    obtain ⟨B,D,rfl,F1,i⟩:=r
    have I:=E.below i
    refine ⟨_,0,rfl,λ_=>I,?_⟩
    refine qE (Rc:=λW e w'=>∃ C:MA,C.ar=B/\C.cr=D/\e=.returned (.agg (ak (uo X (bz X.ram G)) C))/\bj g.heap.size w'.heap.size w' (aF (uo X (bz X.ram G)) C)/\(∀ size ∈ aF (uo X (bz X.ram G)) C,∀ k,size.v.ownBlock=some k->W.heap.size<=k\/(F3 B (bz X.ram G).length D).ownBlock=some k)/\Bw W w') Sa.ez I {} 60 (λW A=>ng X d (bz X.ram G) B (bz X.ram G).length D g.heap.size W hl (hs.below (I.dw A).b) (by rw [A.size];exact A.fam F1) (by rw [A.size];exact i.size) rfl) λW1 e w2 d1 r=>?_
    obtain ⟨C,hC1,hC2,rfl,Y,Z,F⟩:=r
    have N:=(I.dw d1).below F
    refine ⟨_,0,rfl,N,?_⟩
    refine Ll (v:=λW=>.p W.heap.size 0) Sa.ez N {} 60 2 (λW=>W.alloc (.cells (ak zeroM zeroA) 29)) (λW A=>ct (z:=.agg (ak zeroM zeroA)) ba W) λl d2=>?_
    have S3:Sa w (ak X d) (l.alloc (.cells (ak zeroM zeroA) 29)):=(N.dw d2).below (bal _ _)
    refine ⟨S3,?_⟩
    have z2:l.heap.size=w2.heap.size:=d2.size
    have hN:=N.two
    refine vk Sa.ez S3 {} 60 (λW=>W.setRow l.heap.size (ak (bN X (bz X.ram G)) C)) (λW A=>av (t:=29) (ty:=29) (old:=ak zeroM zeroA) (by obtain ⟨j,rfl⟩:=A;exact I4 _ _) ba rfl (bO _ _)) λW3 d3=>?_
    refine ⟨(S3.dw d3).set _ ab _,?_⟩
    have S4:Sc w (ak X d) g.heap.size l.heap.size (bN X (bz X.ram G)) C (W3.setRow l.heap.size (ak (bN X (bz X.ram G)) C)):=by
     have z3:W3.heap.size=l.heap.size+1:=by rw [d3.size,R7]
     refine ⟨(S3.dw d3).set _ ab _,⟨?_,?_,λsize hq e=>?_,?_⟩,E.two⟩
     ·exact L0 _ _ _ _ _ _ (by obtain ⟨j,rfl⟩:=d3;exact I4 _ _)
     ·have f3:bj g.heap.size w2.heap.size W3 (aF (uo X (bz X.ram G)) C):=d3.fam ((d2.fam Y).mono λk _ h2 h3=>(P2 _ _ h3))
      exact (f3.mono λk _ h2 _=>I2 _ _ _ _ ab).low (D2 _) (by rw [K0,z3];omega)
     ·have:=Y.hi size hq _ e;omega
     ·have:=F.size;have:=d1.size;have:=i.size;omega
    refine aL (Sc w (ak X d) g.heap.size l.heap.size (bN X (bz X.ram G)) C) ?_
    clear Y Z F1 F
    cases b7 with
    | true =>
      refine mo (s:=12) (p:=13) (u:=14) (T:=29) (cs:=ak (bN X (bz X.ram G)) C) (v1:=.u 0) (v2:=.i (wrap64 (G.code+16))) Sc.ez S4 {eq:=[(80,an h7),(83,cR .i64 qg)]} 60 (λW h=>h.out _ rfl) (λW h=>let ⟨o,a,b⟩:=h.a.r;⟨o,_,a,b⟩) ba (bO _ _) underlying29 rfl rfl ba ba ba λW V a b=>?_
      exact S4.fin a b (by rw [n,JZ8 rfl])
    | false =>
      have HP':=λW (h:Sc w (ak X d) g.heap.size l.heap.size (bN X (bz X.ram G)) C W)=>HP W h.a
      cases b8 with
      | true =>
        refine ae Sc.eng {eq:=[(80,an h7)],cv:=[(90,iQ Sc.below HP')]} 60 S4 λw5 J=>?_
        refine mo (s:=12) (p:=13) (u:=14) (T:=29) (cs:=ak (bN X (bz X.ram G)) C) (v1:=.u 0) (v2:=.i (ig kind)) Sc.ez J {eq:=[(95,cR .i64 qa)],cv:=[(94,kj λW _=>nS kind f W)]} 60 (λW h=>h.out _ rfl) (λW h=>let ⟨o,a,b⟩:=h.a.r;⟨o,_,a,b⟩) ba (bO _ _) underlying29 rfl rfl ba ba ba λW V a b=>?_
        exact J.fin a b (by rw [n,JZ9 bc,JZ8 rfl])
      | false =>
        refine aT (Rc:=λW e w'=>e=.returned (.tuple #[.u y,.bool ok])/\∃ A',Mp g.heap.size l.heap.size R A' w'/\Kx l.heap.size (aF (bN X (bz X.ram G)) C) (aF R A') W w') Sc.eng {eq:=[(80,an h7)],cv:=[(90,iQ Sc.below HP')]} 60 S4 (λW h=>by have r:=KB (bN X (bz X.ram G)) C g.heap.size l.heap.size G.addr q kind x W h.mp hRm L f hga hx;rw [hrch] at r;exact r) λW5 e w6 J r=>?_
        obtain ⟨rfl,A2,m6,k6⟩:=r
        have Q:=J.mp.under k6
        have hlo:=J.lo
        have S6:Sc w (ak X d) g.heap.size l.heap.size R A2 w6:=by
         refine ⟨⟨(Q.block _ ab).trans J.a.m,?_,J.a.b.trans ⟨Q.os,Q.tape,Q.output,Q.size,λk hk=>Q.block k ab⟩⟩,m6,J.lo⟩
         obtain ⟨o,a,b⟩:=J.a.r
         exact ⟨o,a,(Q.block _ ab).trans b⟩
        refine ⟨_,0,rfl,gi ba,?_⟩
        refine aL (Sc w (ak X d) g.heap.size l.heap.size R A2) ?_
        cases ok with
        | true =>
          refine mo (s:=12) (p:=13) (u:=14) (T:=29) (cs:=ak R A2) (v1:=.u y) (v2:=.i 0) Sc.ez S6 {} 60 (λW h=>h.out _ rfl) (λW h=>let ⟨o,a,b⟩:=h.a.r;⟨o,_,a,b⟩) ba (bO _ _) underlying29 rfl rfl ba ba ba λW V a b=>?_
          exact S6.fin a b (by rw [n,JZ9 bc,JZ9 bc,JZ8 rfl])
        | false =>
          refine mo (s:=12) (p:=13) (u:=14) (T:=29) (cs:=ak R A2) (v1:=.u 0) (v2:=.i (ig kind)) Sc.ez S6 {eq:=[(109,cR .i64 qa)],cv:=[(108,kj λW _=>nS kind f W)]} 60 (λW h=>h.out _ rfl) (λW h=>let ⟨o,a,b⟩:=h.a.r;⟨o,_,a,b⟩) ba (bO _ _) underlying29 rfl rfl ba ba ba λW V a b=>?_
          exact S6.fin a b (by rw [n,JZ9 bc,JZ9 bc,JZ9 bc])
theorem AY (hl:iR X) (hs:oe G X d) (A:MW X) (c:U X.hd) (f:U p) (hx:U C) (e:pu G) (b:dJ X->xh X.ram.length d.ar d.cr): I1 prog 181 #[.func (.func 122) #[] #[],.agg (ak X d),.u p,.i q,.i z,.u C] G (yc G (uI X p q z C)):=by
 unfold uI;cases a:wZ X q z with
 | false=>rw [JZ9 bc];exact AX X d p q z C G hl hs A a
 | true =>rw [JZ8 rfl];unfold wZ at a;simp only [Bool.and_eq_true,JZ6] at a;exact ye X d p q z C G hl hs A c f hx e (b a.1.1.1) a.1.1.1 a.1.1.2 a.1.2 _ _ rfl rfl (by simpa only [Bool.not_eq_true'] using a.2)
theorem Iv.ez:Ez (Iv F w f) f:=⟨λ_ h r a=>(h.rows r a).in_,λ_ h=>⟨λr a=>h.rows r a,h.ag.drew,h.sub,h.nd⟩⟩
theorem Iv.two {ds:Array K1} (d:iA ⟨n,y,[]⟩ W) (e:iA ⟨E,ds,[]⟩ W) (c:n≠E):Iv [n,E] W [⟨n,y,[]⟩,⟨E,ds,[]⟩] W :=
 ⟨λr a=>by
  simp only [A6,A9,or_false] at a
  rcases a with rfl|rfl
  ·exact d
  ·exact e,Ag.refl _ _,λr a=>by
  simp only [A6,A9,or_false] at a
  rcases a with rfl|rfl<;>simp,kc⟩
theorem nT (L:Iv [V] W f w) (R:bj n E W k) (d:V<n):bj n E w k:=R.mono λi b c a=>L.ag.block i a (by rw [A5];omega)
theorem uJ {W':Nat} {c:Array K1} (a:Iv [n] w [⟨n,y,[]⟩] W) (L:Iv [n,V] W f B) (R:bj W' E W k) (hb:w.heap.size<=V) (l:w.heap.size<=W') (m:E<=W.heap.size) (hx:V<W'\/E<=V) (p:n<w.heap.size) (row:iA ⟨n,c,[]⟩ B):Iv [n] w [⟨n,c,[]⟩] B/\bj w.heap.size B.heap.size B k:=by
 refine ⟨⟨λr d=>by rw [A5] at d;subst d;exact row,⟨L.ag.os.trans a.ag.os,L.ag.tape.trans a.ag.tape,L.ag.output.trans a.ag.output,D4 a.ag.size L.ag.size,λi h e=>?_⟩,λr d=>by rw [A5] at d;subst d;simp,di⟩,?_⟩;·rw [A5] at e;exact (L.ag.block i (D3 h a.ag.size) oi).trans (a.ag.block i h (by rw [A5];exact e))
 ·exact (R.mono λi g o j=>L.ag.block i j oi).low l (D4 m L.ag.size)
theorem Iv.dw (h:Iv F w f W) (d:Dw W B):Iv F w f B:=h.below (d.below (G1 _ _))
theorem Iv.set (h:Iv F w f W) {b:Nat} (hb:b ∉ F) (g:w.heap.size<=b) (cs:Array K1):Iv F w f (W.setRow b cs):=
 ⟨λr c=>let ⟨t,a⟩:=h.rows r c;⟨t,(I2 W _ _ cs (λe=>hb (by rw [<- e];exact h.sub r c))).trans a⟩,⟨h.ag.os,h.ag.tape,h.ag.output,by rw [K0];exact h.ag.size,λk R d=>(I2 W _ _ cs ab).trans (h.ag.block k R d)⟩,h.sub,h.nd⟩
def nU (t:TV) (V:Int × MV × Int) (addr:Int):TV:=if V.2.2 != 0 then {t with up:=true,cz:=IntKind.i64.wrap (V.2.2-16),vl:=addr} else t
theorem xi (kind x:Int) (X:L.ld=.func (.func 122) #[] #[]) (h:iA ⟨n,bI R c L,[]⟩ w) (hA:∀ W,Iv [n] w [⟨n,bI R c L,[]⟩] W->I1 prog 181 #[.func (.func 122) #[] #[],.agg (ak R c),.u p,.i q,.i kind,.u x] W (yc W j)): I1 prog 151 #[.p n 0,.u p,.i q,.i kind,.u x] w λe w'=>∃ C,e=.returned (.tuple #[.u (if j.2.2 != 0 then 0 else j.1),.bool (!(j.2.2 != 0))])/\Iv [n] w [⟨n,bI j.2.1 C (nU L j p),[]⟩] w'/\bj w.heap.size w'.heap.size w' (aF j.2.1 C):=by
 have A:n<w.heap.size:=let ⟨_,f⟩:=h;(D1.1 f).1;refine fy (args:=[.p n 0,.u p,.i q,.i kind,.u x]) (Iv [n] w [⟨n,bI R c L,[]⟩]) func151 ?_;refine aP 0 1 ?_;refine ae Iv.eng {eq:=[(19,⟨_,_,0,X⟩)]} 60 (Iv.one h) λl B=>?_;refine kN (i:=12) (j:=17) ?_ ?_
 ·refine kl (hA l B) λe w1 f=>?_;obtain ⟨C,rfl,F1,u⟩:=f;refine ⟨_,0,rfl,B.below u,?_⟩;refine Ll (v:=λW=>.p W.heap.size 0) Iv.ez (B.below u) {} 60 2 (λW=>W.alloc (.cells (ak zeroM zeroA) 29)) (λW _=>ct (z:=.agg (ak zeroM zeroA)) ba W) λo O=>?_;have s:=((B.below u).dw O).below (bal o (.cells (ak zeroM zeroA) 29));refine ⟨s,?_⟩;have z2:=O.size;have s0:=B.ag.size;have s1:=u.size;refine vk Iv.ez s {} 60 (λW=>W.setRow o.heap.size (ak j.2.1 C)) (λW d=>av (t:=29) (ty:=29) (old:=ak zeroM zeroA) (by obtain ⟨V,rfl⟩:=d;exact I4 _ _) ba rfl (bO _ _)) λsize r=>?_;have z3:size.heap.size=o.heap.size+1:=(by rw [r.size,R7]);have D:=(s.dw r).set (b:=o.heap.size) (by rw [A5];omega) ab (ak j.2.1 C);refine ⟨D,?_⟩;have Y:iA ⟨o.heap.size,ak j.2.1 C,[]⟩ (size.setRow o.heap.size (ak j.2.1 C)):=⟨29,L0 _ _ _ _ _ _ (by obtain ⟨V,rfl⟩:=r;exact I4 _ _)⟩;have P:bj l.heap.size w1.heap.size (size.setRow o.heap.size (ak j.2.1 C)) (aF j.2.1 C):=(r.fam ((O.fam F1).mono λk _ _ s=>P2 _ _ s)).mono λk _ _ _=>I2 _ _ _ _ ab;have z4:(size.setRow o.heap.size (ak j.2.1 C)).heap.size=size.heap.size:=K0 _ _ _;refine ae (oz Iv.ez D) {} 60 (Dw.refl _) λK d5=>?_;refine aL (λ_=>True) ?_;refine aP 13 2 ?_;have E:=D.dw d5;have H:=d5.fam P;have z5:=d5.size;have Z:iA ⟨o.heap.size,ak j.2.1 C,[]⟩ K:=let ⟨T,S⟩:=Y;⟨T,by obtain ⟨V,rfl⟩:=d5;exact S⟩;have G:=Iv.two E.row1 Z ab;unfold nU;obtain ⟨y,m⟩:∃ y,(j.2.2 != 0)=y:=⟨_,rfl⟩;rw [m];cases y with
  | true =>refine fK (R1:=[⟨n,bI j.2.1 C L,[]⟩,⟨o.heap.size,ak j.2.1 C,[]⟩]) G {eq:=[(37,an m)]} 60 (λW U=>km (IntKind.i64.wrap (j.2.2-16)) p (M:=j.2.1) (A:=C) (t:=L) (U.rows ⟨n,bI j.2.1 C L,[]⟩ di)) λW6 e w7 I f=>⟨_,0,f.1,?_⟩;obtain ⟨M,Q⟩:=uJ E I H ab ab ab ab A (I.rows ⟨n,bI j.2.1 C L,[]⟩ di);refine iS (Iv.one f.2.row1) {} 40 λt a g addr=>⟨.tuple #[.u 0,.bool false],kr,C,rfl,(M.then1 f.2).then1 g,?_⟩;exact (nT g (nT f.2 Q A) A).low (D2 _) (D4 f.2.ag.size g.ag.size)
  | false =>refine iS (R1:=[⟨n,bI j.2.1 C L,[]⟩,⟨o.heap.size,ak j.2.1 C,[]⟩]) G {eq:=[(37,an m)]} 60 λt a g addr=>⟨.tuple #[.u j.1,.bool true],kp,C,rfl,?_⟩;exact uJ E g H ab ab ab ab A (g.rows ⟨n,bI j.2.1 C L,[]⟩ di)
 ·have J:=B.below (bal l (.cells (ak zeroM zeroA) 29));refine mt (v:=.p l.heap.size 0) 2 (ct (T:=29) (z:=.agg (ak zeroM zeroA)) ba l) J ?_;refine qE (Rc:=λW=>yc W j) Iv.ez J {} 60 (λW d=>hA W (J.dw d)) λW1 e w2 N f=>?_;obtain ⟨C,rfl,F2,F⟩:=f;have s:=(J.dw N).below F;refine ⟨_,0,rfl,s,?_⟩;have s0:=B.ag.size;have z1:W1.heap.size=l.heap.size+1:=(by rw [N.size,R7]);have s2:=F.size;have q2:w2.heap[l.heap.size]?=some (.cells (ak zeroM zeroA) 29 (0,0)):=aD F (by obtain ⟨V,rfl⟩:=N;exact I4 _ _);refine vk Iv.ez s {} 60 (λW=>W.setRow l.heap.size (ak j.2.1 C)) (λW d=>av (t:=29) (ty:=29) (old:=ak zeroM zeroA) (by obtain ⟨V,rfl⟩:=d;exact q2) ba rfl (bO _ _)) λsize r=>?_;have z3:=r.size;have D:=(s.dw r).set (b:=l.heap.size) (by rw [A5];omega) ab (ak j.2.1 C);refine ⟨D,?_⟩;have Y:iA ⟨l.heap.size,ak j.2.1 C,[]⟩ (size.setRow l.heap.size (ak j.2.1 C)):=⟨29,L0 _ _ _ _ _ _ (by obtain ⟨V,rfl⟩:=r;exact q2)⟩;have P:bj W1.heap.size w2.heap.size (size.setRow l.heap.size (ak j.2.1 C)) (aF j.2.1 C):=(r.fam F2).mono λk _ _ _=>I2 _ _ _ _ ab;have z4:(size.setRow l.heap.size (ak j.2.1 C)).heap.size=size.heap.size:=K0 _ _ _;refine ae (oz Iv.ez D) {} 60 (Dw.refl _) λK d5=>?_;refine aL (λ_=>True) ?_;refine aP 13 2 ?_;have E:=D.dw d5;have H:=d5.fam P;have z5:=d5.size;have Z:iA ⟨l.heap.size,ak j.2.1 C,[]⟩ K:=let ⟨T,S⟩:=Y;⟨T,by obtain ⟨V,rfl⟩:=d5;exact S⟩;have G:=Iv.two E.row1 Z ab;unfold nU;obtain ⟨y,m⟩:∃ y,(j.2.2 != 0)=y:=⟨_,rfl⟩;rw [m];cases y with
  | true =>refine fK (R1:=[⟨n,bI j.2.1 C L,[]⟩,⟨l.heap.size,ak j.2.1 C,[]⟩]) G {eq:=[(37,an m)]} 60 (λW U=>km (IntKind.i64.wrap (j.2.2-16)) p (M:=j.2.1) (A:=C) (t:=L) (U.rows ⟨n,bI j.2.1 C L,[]⟩ di)) λW6 e w7 I f=>⟨_,0,f.1,?_⟩;obtain ⟨M,Q⟩:=uJ E I H ab ab ab ab A (I.rows ⟨n,bI j.2.1 C L,[]⟩ di);refine iS (Iv.one f.2.row1) {} 40 λt a g addr=>⟨.tuple #[.u 0,.bool false],kr,C,rfl,(M.then1 f.2).then1 g,?_⟩;exact (nT g (nT f.2 Q A) A).low (D2 _) (D4 f.2.ag.size g.ag.size)
  | false =>refine iS (R1:=[⟨n,bI j.2.1 C L,[]⟩,⟨l.heap.size,ak j.2.1 C,[]⟩]) G {eq:=[(37,an m)]} 60 λt a g addr=>⟨.tuple #[.u j.1,.bool true],kp,C,rfl,?_⟩;exact uJ E g H ab ab ab ab A (g.rows ⟨n,bI j.2.1 C L,[]⟩ di)
theorem QS (s:Bool) (r:L.fm=nu m p s) (addr x:Int) (t:L.ld=.func (.func 122) #[] #[]) (h:iA ⟨n,bI R c L,[]⟩ w) (q:∀ W,Iv [n] w [⟨n,bI R c L,[]⟩] W->I1 prog 181 #[.func (.func 122) #[] #[],.agg (ak R c),.u addr,.i p,.i 3,.u x] W (yc W j)): I1 prog 160 #[.p n 0,.u addr,.u x] w λe w'=>∃ C,e=.returned (.bool (!(j.2.2 != 0)))/\Iv [n] w [⟨n,bI j.2.1 C (nU L j addr),[]⟩] w'/\bj w.heap.size w'.heap.size w' (aF j.2.1 C):=by
 have i:n<w.heap.size:=let ⟨_,b⟩:=h;(D1.1 b).1;refine fy (args:=[.p n 0,.u addr,.u x]) (Iv [n] w [⟨n,bI R c L,[]⟩]) func160 ?_;refine aP 0 1 ?_;cases m;all_goals
  refine ae Iv.eng {cv:=[(13,xt λW a=>rD _ p s r a.row1)]} 60 (Iv.one h) λl o=>?_
  refine oK (AJ p s l) ba λe y b=>⟨_,0,b.1,gi ba,?_⟩
  have f:=o.below b.2
  refine aT (Rc:=λW e w'=>∃ C,e=.returned (.tuple #[.u (if j.2.2 != 0 then 0 else j.1),.bool (!(j.2.2 != 0))])/\Iv [n] W [⟨n,bI j.2.1 C (nU L j addr),[]⟩] w'/\bj W.heap.size w'.heap.size w' (aF j.2.1 C)) Iv.eng {} 60 f (λW a=>xi j addr p 3 x t a.row1 λW' d=>q W' (a.then1 d)) λW e z a b=>?_
  obtain ⟨C,rfl,k,V⟩:=b
  refine ⟨_,0,rfl,gi ba,?_⟩
  refine aL (λ_=>True) ?_
  exact vG (t:=6) (v:=.bool (!(j.2.2 != 0))) (Iv.one k.row1) {} 40 λu M=>⟨C,rfl,(a.then1 k).then1 M,(nT M V (D3 i a.ag.size)).low a.ag.size M.ag.size⟩
def t8 (t:TV) (V:Int × MV × Int) (addr:Int) (n:Nat) (s:Bool):TV:=if V.2.2 != 0 then nU t V addr else {t with rs:=if s then ay (8*n) V.1 else V.1}
theorem TJ (g:Nat) (s:Bool) (hn:g=1\/g=2\/g=4\/g=8) (B:L.fm=nu m g s) (addr:Int) (x:L.ld=.func (.func 122) #[] #[]) (h:iA ⟨n,bI R c L,[]⟩ w) (H:∀ W,Iv [n] w [⟨n,bI R c L,[]⟩] W->I1 prog 181 #[.func (.func 122) #[] #[],.agg (ak R c),.u addr,.i g,.i 2,.u 0] W (yc W j)): I1 prog 157 #[.p n 0,.u addr] w λe w'=>∃ C,e=.returned (.tuple #[.u (if j.2.2 != 0 then 0 else j.1),.bool (!(j.2.2 != 0))])/\Iv [n] w [⟨n,bI j.2.1 C (t8 L j addr g s),[]⟩] w'/\bj w.heap.size w'.heap.size w' (aF j.2.1 C):=by
 have i:n<w.heap.size:=let ⟨_,d⟩:=h;(D1.1 d).1;have A:∀ W,Iv [n] w [⟨n,bI R c L,[]⟩] W->_:=λW b=>xi j addr g 2 0 x b.row1 λW' r=>H W' (b.then1 r);unfold t8;unfold nU at *;obtain ⟨o,u⟩:∃ o,(j.2.2 != 0)=o:=⟨_,rfl⟩;simp only [u] at A ⊢;refine fy (args:=[.p n 0,.u addr]) (Iv [n] w [⟨n,bI R c L,[]⟩]) func157 ?_;refine aP 0 1 ?_;cases m;all_goals
  refine ae Iv.eng {cv:=[(12,xt λW b=>rD _ g s B b.row1)]} 60 (Iv.one h) λE G=>?_
  refine oK (AJ g s E) ba λe J d=>⟨_,0,d.1,gi ba,?_⟩
  have z:=G.below d.2
  cases o
  ·refine aT (Rc:=λW e w'=>∃ C,e=.returned (.tuple #[.u j.1,.bool true])/\Iv [n] W [⟨n,bI j.2.1 C L,[]⟩] w'/\bj W.heap.size w'.heap.size w' (aF j.2.1 C)) Iv.eng {} 60 z A λW e D b d=>?_
   obtain ⟨C,rfl,V,p⟩:=d
   refine ⟨_,0,rfl,gi ba,?_⟩
   refine aL (Iv [n] D [⟨n,bI j.2.1 C L,[]⟩]) ?_
   have F:=(nT (Iv.one V.row1) p (D3 i b.ag.size)).low (B':=w.heap.size) b.ag.size (D2 _)
   refine ae Iv.eng {cv:=[(20,xt λW b=>rD _ g s B b.row1)]} 60 (Iv.one V.row1) λy k=>?_
   refine oK (Kv g s j.1 hn y) ba λe K d=>⟨_,0,d.1,gi ba,?_⟩
   have f:=k.below d.2
   refine aL (λ_=>True) ?_
   refine iS (R1:=[⟨n,bI j.2.1 C {L with rs:=if s then ay (8*g) j.1 else j.1},[]⟩]) (Iv.one f.row1) {} 60 λI a q l=>⟨.tuple #[.u j.1,.bool true],by rw [I5 rfl,l.slot (v:=.u j.1) ba,l.slot (v:=.bool true) ba],C,rfl,((b.then1 V).then1 f).then1 q,?_⟩
   exact (nT q (nT f F i) i).low (D2 _) (D4 f.ag.size q.ag.size)
  ·refine aT (Rc:=λW e w'=>∃ C,e=.returned (.tuple #[.u 0,.bool false])/\Iv [n] W [⟨n,bI j.2.1 C _,[]⟩] w'/\bj W.heap.size w'.heap.size w' (aF j.2.1 C)) Iv.eng {} 60 z A λW e D b d=>?_
   obtain ⟨C,rfl,V,p⟩:=d
   refine ⟨_,0,rfl,gi ba,?_⟩
   refine aL (λ_=>True) ?_
   refine iS (Iv.one V.row1) {} 40 λy a k l=>⟨.tuple #[.u 0,.bool false],by rw [I5 rfl,l.slot (v:=.u 0) ba,l.slot (v:=.bool false) ba],C,rfl,(b.then1 V).then1 k,(nT k p (D3 i b.ag.size)).low b.ag.size k.ag.size⟩
def zi (t:TV) (code addr:Int):TV:=if code != 0 then {t with up:=true,cz:=code,vl:=addr} else t
theorem TK (addr kind:Int) (u:L.ld=.func (.func 122) #[] #[]) (h:iA ⟨n,bI R c L,[]⟩ w) (F:∀ W,Iv [n] w [⟨n,bI R c L,[]⟩] W->CB 208 #[.slice c.ac R.cs.length c.cc,.i R.pr,.i kind] W (.i z)) (r:∀ W,Iv [n] w [⟨n,bI R c L,[]⟩] W->I1 prog 122 #[.slice c.ar R.ram.length c.cr,.slice c.ac R.cs.length c.cc,.i z,.u addr,.i kind] W λe w'=>∃ (b:Option O1) (A:Nat),e=.returned (.tuple #[.u p,.i q,.slice b D.length A])/\w'.ownsRow W.heap.size 5 1 (.slice b D.length A) D.length (D.map (F0 .u8))/\Bw W w'): I1 prog 193 #[.p n 0,.u addr,.i kind] w λe w'=>∃ (b:Option O1) (A:Nat),e=.returned (.tuple #[.u (if q != 0 then 0 else p),.bool (!(q != 0))])/\Iv [n] w [⟨n,bI {R with ram:=D} {c with ar:=b,cr:=A} (zi L q addr),[]⟩] w'/\w'.ownsRow w.heap.size 5 1 (.slice b D.length A) D.length (D.map (F0 .u8)):=by
 have G:n<w.heap.size:=let ⟨_,d⟩:=h;(D1.1 d).1;refine fy (args:=[.p n 0,.u addr,.i kind]) (Iv [n] w [⟨n,bI R c L,[]⟩]) func193 ?_;refine aP 0 1 ?_;refine aT Iv.eng {eq:=[(15,⟨_,_,0,u⟩)],cv:=[(37,iQ Iv.below F)]} 60 (Iv.one h) r λI e K y d=>?_;obtain ⟨b,A,rfl,H,s⟩:=d;have code:=y.below s;refine ⟨_,0,rfl,λ_=>code,?_⟩;refine ae (oz Iv.ez code) {} 60 (Dw.refl _) λzs x=>?_;refine aL (λ_=>True) ?_;have g:=code.dw x;have C:zs.ownsRow w.heap.size 5 1 (.slice b D.length A) D.length (D.map (F0 .u8)):=by obtain ⟨j,rfl⟩:=x;exact dQ (cQ H y.ag.size) λk _=>rfl
 have keep:∀ {W V:I3} {M:List Rw},Iv [n] W M V->W.ownsRow w.heap.size 5 1 (.slice b D.length A) D.length (D.map (F0 .u8))->V.ownsRow w.heap.size 5 1 (.slice b D.length A) D.length (D.map (F0 .u8)):=λ{W V M} k o=>dQ o λi e=>k.ag.block i (o.lt i e).2 (by rw [A5];have:=(o.lt i e).1;omega);unfold zi;obtain ⟨to,f⟩:∃ to,(q != 0)=to:=⟨_,rfl⟩;rw [f];cases to with
 | true =>refine fK (R1:=[⟨n,bI {R with ram:=D} {c with ar:=b,cr:=A} L,[]⟩]) (Iv.one g.row1) {eq:=[(50,an f)]} 60 (λW r=>km q addr r.row1) λJ e t B d=>⟨_,0,d.1,?_⟩;exact iS (Iv.one d.2.row1) {} 40 λE a l m=>⟨.tuple #[.u 0,.bool false],by rw [I5 rfl,m.slot (v:=.u 0) ba,m.slot (v:=.bool false) ba],b,A,rfl,((g.then1 B).then1 d.2).then1 l,keep l (keep d.2 (keep B C))⟩
 | false =>exact iS (R1:=[⟨n,bI {R with ram:=D} {c with ar:=b,cr:=A} L,[]⟩]) (Iv.one g.row1) {eq:=[(50,an f)]} 60 λE a l m=>⟨.tuple #[.u p,.bool true],by rw [I5 rfl,m.slot (v:=.u p) ba,m.slot (v:=.bool true) ba],b,A,rfl,g.then1 l,keep l C⟩
def qd (op a y:Int):Int:=if op=88\/op=91 then R5 .or .u64 a y else if op=89\/op=92 then R5 .andNot .u64 a y else y
theorem KD (h:iA ⟨n,bI R c L,[]⟩ w) (j:L.op=87\/L.op=88\/L.op=89\/L.op=90\/L.op=91\/L.op=92) (d:c.ax=some ⟨E,V,none⟩) (i:0<=L.ra/\L.ra<R.x.length) (hb:E≠n) (hx:w.cell? ⟨E,V+L.ra.toNat,none⟩=some (.u x)): I1 prog 198 #[.p n 0,.u p] w λe w'=>e=.returned (.u (qd L.op p (if 90<=L.op then Uz.wrap L.ra else x)))/\Iv [n] w [⟨n,bI R c L,[]⟩] w':=by
 have f:∀ (t:O1) v,t.block=E->w.cell? t=some v->∀ W,Iv [n] w [⟨n,bI R c L,[]⟩] W->W.cell? t=some v:=λt v m l W a=>by rw [<- l];simp only [R8,a.ag.block t.block (lO l) (by rw [m];simpa using hb)]
 refine fy (args:=[.p n 0,.u p]) (Iv [n] w [⟨n,bI R c L,[]⟩]) func198 ?_;refine aP 0 1 ?_;rcases j with q | q | q | q | q | q;·exact bn (t:=4) (v:=.u x) Iv.eng {eq:=[(12,cR .i64 q),(24,cR .i64 q)],cv:=[(7,xt λW a=>L9 a.row1 d i hb (f _ _ rfl hx W a))]} 200 (Iv.one h) λw' k=>⟨by simp [qd,q],k⟩
 ·exact bn (t:=4) (v:=.u (R5 .or .u64 p x)) Iv.eng {eq:=[(12,cR .i64 q),(24,cR .i64 q)],cv:=[(7,xt λW a=>L9 a.row1 d i hb (f _ _ rfl hx W a))]} 200 (Iv.one h) λw' k=>⟨by simp [qd,q],k⟩
 ·exact bn (t:=4) (v:=.u (R5 .andNot .u64 p x)) Iv.eng {eq:=[(12,cR .i64 q),(24,cR .i64 q)],cv:=[(7,xt λW a=>L9 a.row1 d i hb (f _ _ rfl hx W a))]} 200 (Iv.one h) λw' k=>⟨by simp [qd,q],k⟩
 ·exact bn (t:=4) (v:=.u (Uz.wrap L.ra)) Iv.eng {eq:=[(12,cR .i64 q),(24,cR .i64 q)],cv:=[(7,xt λW a=>L9 a.row1 d i hb (f _ _ rfl hx W a))]} 200 (Iv.one h) λw' k=>⟨by simp [qd,q],k⟩
 ·exact bn (t:=4) (v:=.u (R5 .or .u64 p (Uz.wrap L.ra))) Iv.eng {eq:=[(12,cR .i64 q),(24,cR .i64 q)],cv:=[(7,xt λW a=>L9 a.row1 d i hb (f _ _ rfl hx W a))]} 200 (Iv.one h) λw' k=>⟨by simp [qd,q],k⟩
 ·exact bn (t:=4) (v:=.u (R5 .andNot .u64 p (Uz.wrap L.ra))) Iv.eng {eq:=[(12,cR .i64 q),(24,cR .i64 q)],cv:=[(7,xt λW a=>L9 a.row1 d i hb (f _ _ rfl hx W a))]} 200 (Iv.one h) λw' k=>⟨by simp [qd,q],k⟩
theorem QT (pr pc:Int) (l:Bool) (h:iA ⟨n,bI R c L,[]⟩ w) (u:∀ W,Iv [n] w [⟨n,bI R c L,[]⟩] W->I1 prog 223 #[.slice c.ac R.cs.length c.cc,.i R.pr,.bool (L.op==96)] W λe w'=>∃ (a:Option O1) (A:Nat),e=.returned (.tuple #[.slice a D.length A,.i pr,.u pc,.bool l])/\(l->w'.ownsRow W.heap.size 24 1 (.slice a D.length A) D.length (D.map (F0 .u64)))/\Bw W w'): I1 prog 199 #[.p n 0] w λe w'=>e=.returned (.tuple #[])/\if l then ∃ (a:Option O1) (A:Nat),Iv [n] w [⟨n,bI {R with cs:=D,pr:=pr} {c with ac:=a,cc:=A} {L with nx:=pc},[]⟩] w'/\w'.ownsRow w.heap.size 24 1 (.slice a D.length A) D.length (D.map (F0 .u64)) else Iv [n] w [⟨n,bI R c {L with up:=true,cz:=2,vl:=L.wd},[]⟩] w':=by
 have x:n<w.heap.size:=let ⟨_,b⟩:=h;(D1.1 b).1;refine fy (args:=[.p n 0]) (Iv [n] w [⟨n,bI R c L,[]⟩]) func199 ?_;refine aP 0 1 ?_;refine aT Iv.eng {} 60 (Iv.one h) u λz e cs q b=>?_;obtain ⟨a,A,rfl,y,m⟩:=b;have d:=q.below m;refine ⟨_,0,rfl,λ_=>d,?_⟩;cases l with
 | true =>refine ae (oz Iv.ez d) {} 60 (Dw.refl _) λo p=>?_;refine aL (λ_=>True) ?_;have f:=d.dw p;have g:o.ownsRow w.heap.size 24 1 (.slice a D.length A) D.length (D.map (F0 .u64)):=(by obtain ⟨j,rfl⟩:=p;exact dQ (cQ (y rfl) q.ag.size) λk _=>rfl);exact gt (R1:=[⟨n,bI {R with cs:=D,pr:=pr} {c with ac:=a,cc:=A} {L with nx:=pc},[]⟩]) (Iv.one f.row1) {} 60 λB r=>⟨rfl,a,A,f.then1 r,dQ g λi e=>r.ag.block i (g.lt i e).2 (by rw [A5];have:=(g.lt i e).1;omega)⟩
 | false =>refine aT Iv.eng {} 60 d (λW v=>pA v.row1) λo e E f b=>⟨_,0,b.1,gi ba,?_⟩;refine aL (λ_=>True) ?_;exact px (Iv.one b.2.row1) {} 40 λC s=>⟨rfl,(f.then1 b.2).then1 s⟩
theorem iL {Rs:N1->I3->Prop} (H:Hn S (λx=>x=w) (λx=>x=w)) (m:Nat) (hx:(iw o,(be S [] H n false m o Q).1.1,iw (be S [] H n false m o Q).1.2.1,(be S [] H n false m o Q).1.2.1.isEmpty)=(true,false,true,true)) (he:(be S [] H n false m o Q).2.map S2=(be S [] H n false m o Q).2.map S5) (hr:l.results=#[]) (h:Rs (.returned (.tuple #[])) w):Wg S a (L6 S l Rs) n o Q w:=by simp only [Prod.mk.injEq] at hx;refine aj (R:=[]) (by simp [fN]) H m (hx:=by rw [hx.1,hx.2.1,hx.2.2.1]) (he:=he) λP b=>?_;rw [List.isEmpty_iff.1 hx.2.2.2];exact bodyPost_end (R4 hr _ _ _) b.nod h
theorem Oq (h:iA ⟨n,bI R c L,[]⟩ w) (q:L.op=93):I1 prog 166 #[.p n 0] w λe w'=>e=.returned (.tuple #[])/\Iv [n] w [⟨n,bI R c {L with up:=true,cz:=IntKind.i64.wrap (8+R.pr),vl:=0},[]⟩] w':=by refine fy (args:=[.p n 0]) (λ_=>True) func166 ?_;refine aP 0 1 ?_;refine fK (Iv.one h) {eq:=[(6,cR .i64 q)]} 80 (R1:=[⟨n,bI R c L,[]⟩]) (λW a=>km (IntKind.i64.wrap (8+R.pr)) 0 a.row1) λW e w' a A=>⟨_,0,A.1,?_⟩;exact gt (Iv.one A.2.row1) {} 40 λW' b=>⟨rfl,(a.then1 A.2).then1 b⟩
theorem KE (h:iA ⟨n,bI R c L,[]⟩ w) (q:L.op=94):I1 prog 166 #[.p n 0] w λe w'=>e=.returned (.tuple #[])/\Iv [n] w [⟨n,bI R c {L with up:=true,cz:=3,vl:=R.pc},[]⟩] w':=by refine fy (args:=[.p n 0]) (λ_=>True) func166 ?_;refine aP 0 1 ?_;refine fK (Iv.one h) {eq:=[(6,cR .i64 q)]} 80 (R1:=[⟨n,bI R c L,[]⟩]) (λW a=>km 3 R.pc a.row1) λW e w' a A=>⟨_,0,A.1,?_⟩;exact gt (Iv.one A.2.row1) {} 40 λW' b=>⟨rfl,(a.then1 A.2).then1 b⟩
theorem Ot (h:iA ⟨n,bI R c L,[]⟩ w) (q:L.op=97\/L.op=98):I1 prog 166 #[.p n 0] w λe w'=>e=.returned (.tuple #[])/\Iv [n] w [⟨n,if R.pr==0 then bI R c {L with up:=true,cz:=2,vl:=L.wd} else bI {R with wt:=L.op==97} c L,[]⟩] w':=by
 refine fy (args:=[.p n 0]) (λ_=>True) func166 ?_;refine aP 0 1 ?_;obtain ⟨p,A⟩:∃ p,(R.pr==0)=p:=⟨_,rfl⟩;rw [A];cases p with
 | true =>
   rcases q with q|q;all_goals
    refine fK (Iv.one h) {eq:=[(6,cR .i64 q),(39,an A)]} 80 (R1:=[⟨n,bI R c L,[]⟩]) (λW b=>pA b.row1) λW e w' b d=>⟨_,0,d.1,?_⟩
    exact px (Iv.one d.2.row1) {} 40 λW' a=>⟨rfl,(b.then1 d.2).then1 a⟩
 | false =>rcases q with q | q;all_goals exact gt (R1:=[⟨n,bI {R with wt:=L.op==97} c L,[]⟩]) (Iv.one h) {eq:=[(6,cR .i64 q),(39,an A)]} 80 λW' a=>⟨rfl,a⟩
theorem KF {Rc:I3->N1->I3->Prop} (h:iA ⟨n,bI R c L,[]⟩ w) (q:L.op=95\/L.op=96) (A:∀ W,Iv [n] w [⟨n,bI R c L,[]⟩] W->I1 prog 199 #[.p n 0] W (Rc W)) (d:∀ W e w',Iv [n] w [⟨n,bI R c L,[]⟩] W->Rc W e w'->e=.returned (.tuple #[])):I1 prog 166 #[.p n 0] w λe w'=>e=.returned (.tuple #[])/\∃ W,Iv [n] w [⟨n,bI R c L,[]⟩] W/\Rc W e w':=by
 refine fy (args:=[.p n 0]) (λ_=>True) func166 ?_;refine aP 0 1 ?_;rcases q with q | q;all_goals
  refine fK (Iv.one h) {eq:=[(6,cR .i64 q)]} 80 (R1:=[⟨n,bI R c L,[]⟩]) A λW e w' a b=>?_
  obtain rfl:=d W e w' a b
  exact ⟨_,0,rfl,iL {} 40 ba ba rfl ⟨rfl,W,a,b⟩⟩
theorem bj.swap (h:bj n E w (L1++r::L2)) (q:FRow) (f:w.ownsRow E q.t 1 q.v q.n q.xs) (o:n<=E) (p:E<=V) (t:w.heap.size<=V):bj n V w (L1++q::L2):=by
 have d:∀ s ∈ L1++q::L2,s=q\/s ∈ L1++r::L2:=λs c=>by
  simp only [C6,A6] at c ⊢;rcases c with c|c|c;·exact Or.inr (Or.inl c)
  ·exact Or.inl c
  ·exact Or.inr (Or.inr (Or.inr c))
 refine ⟨λs c=>?_,λs c k e=>?_,?_⟩
 ·rcases d s c with rfl|c;·exact cQ f o
  ·exact h.own s c
 ·rcases d s c with rfl|c;·exact D3 (f.lt k e).2 t
  ·exact D3 (h.hi s c k e) p
 ·have j:=h.ne;rw [List.pairwise_append,List.pairwise_cons] at j ⊢;obtain ⟨l,⟨u,m⟩,B⟩:=j;refine ⟨l,⟨λs c k e e2=>?_,m⟩,λa i b g k e e2=>?_⟩;·have:=(f.lt k e).1;have:=h.hi s (by simp [c]) k e2;omega
  ·rcases A6.1 g with rfl|g;·have:=(f.lt k e2).1;have:=h.hi a (by simp [i]) k e;omega
   ·exact B a i b (by simp [g]) k e e2
theorem bj.other (h:bj n E w k) (hk:∀ q ∈ k,∀ L,q.v.ownBlock=some L->B.heap[L]?=w.heap[L]?):bj n E B k:=⟨λr a=>dQ (h.own r a) (hk r a),h.hi,h.ne⟩
theorem AZ {g:Nat} {r q:FRow} (h:∀ s ∈ L1++r::L2,s.v.ownBlock≠some g) (b:q.v.ownBlock≠some g):∀ s ∈ L1++q::L2,s.v.ownBlock≠some g:=λs a=>by
 simp only [C6,A6] at a;rcases a with a|rfl|a;·exact h s (by simp [a])
 ·exact b
 ·exact h s (by simp [a])
structure Tq (B g:Nat) (w0:I3) (M:MV) (A:MA) (t:TV) (w:I3):Prop where
 row:iA ⟨g,bI M A t,[]⟩ w
 fam:bj B w.heap.size w (aF M A)
 ne:∀ q ∈ aF M A,q.v.ownBlock≠some g
 le:B<=w.heap.size
 os:w.os=w0.os
 tape:w.tape=w0.tape
 output:w.output=w0.output
 size:w0.heap.size<=w.heap.size
 block:∀ k,k<B->k≠g->w.heap[k]?=w0.heap[k]?
 t0:pu w0
 tb:0<B
 tn:0≠g
theorem Tq.tab (h:Tq n E B R c L w):pu w:=λj a=>by have:=h.t0 j a;simp only [R8,h.block _ h.tb h.tn];exact this
theorem Tq.sl (h:Tq n E B R A L w):oe w R A:=by obtain ⟨a,b,c,d,e⟩:=bj.rsl (A:=A) (x:=R.x) (cs:=R.cs) (ram:=R.ram) (xs:=R.d.xs) (ys:=R.d.ys) h.fam;exact ⟨a,b,c,d,e⟩
theorem Tq.glt (h:Tq n E B R c L w):E<w.heap.size:=let ⟨_,a⟩:=h.row;(D1.1 a).1
theorem Tq.other (h:Tq n V B R c L w) (t:bj n E w (aF R c)) (k:Iv [V] w f W):bj n E W (aF R c):=t.other λq a i e=>k.ag.block i ((t.own q a).lt i e).2 (by rw [A5];exact λe2=>h.ne q a (by rw [e,e2]))
theorem Tq.iv1 {A':MA} (h:Tq n E B R c L w) (k:Iv [E] w [⟨E,bI M' A' b,[]⟩] W) (f:bj n W.heap.size W (aF M' A')) (a:∀ q ∈ aF M' A',q.v.ownBlock≠some E):Tq n E B M' A' b W :=
 ⟨k.row1,f,a,D4 h.le k.ag.size,k.ag.os.trans h.os,k.ag.tape.trans h.tape,k.ag.output.trans h.output,D4 h.size k.ag.size,λi A t'=>(k.ag.block i (D3 A h.le) (by rw [A5];exact t')).trans (h.block i A t'),h.t0,h.tb,h.tn⟩
theorem Tq.iv {M':MV} (h:Tq n E B R c L w) (k:Iv [E] w [⟨E,bI M' c b,[]⟩] W) (a:aF M' c=aF R c):Tq n E B M' c b W :=
 h.iv1 k (by rw [a];exact (h.other h.fam k).low (D2 _) k.ag.size) (by rw [a];exact h.ne)
theorem Tq.new {M':MV} {A':MA} (h:Tq n E B R c L w) (k:Iv [E] w [⟨E,bI M' A' b,[]⟩] W) (f:bj w.heap.size W.heap.size W (aF M' A')):Tq n E B M' A' b W:=h.iv1 k (f.low h.le (D2 _)) (λq a e=>by have:=((f.own q a).lt E e).1;have:=h.glt;omega)
theorem Tq.iv0 (h:Tq n E B R c L w):Iv [E] w [⟨E,bI R c L,[]⟩] w:=Iv.one h.row
theorem Tq.below (h:Tq n g B R c L w) (hb:Bw w W):Tq n g B R c L W:=h.iv (h.iv0.below hb) rfl
theorem Tq.ram (h:Tq n E B R A L w) {zs:List Int} {a:Option O1} {c:Nat} (k:Iv [E] w [⟨E,bI {R with ram:=zs} {A with ar:=a,cr:=c} b,[]⟩] W) (o:W.ownsRow w.heap.size 5 1 (.slice a zs.length c) zs.length (zs.map (F0 .u8))):Tq n E B (bN R zs) {A with ar:=a,cr:=c} b W:=by refine h.iv1 (M':=bN R zs) k ?_ (AZ (L1:=[aG A.ax R.x.length A.cx R.x,aG A.ac R.cs.length A.cc R.cs]) (L2:=[aE A.ai R.d.xs.length A.ci R.d.xs,aE A.ao R.d.ys.length A.co R.d.ys]) (r:=aE A.ar R.ram.length A.cr R.ram) (q:=aE a zs.length c zs) h.ne λe=>by have:=(o.lt E e).1;have:=h.glt;omega);have f:=h.other h.fam k;exact bj.swap (L1:=[aG A.ax R.x.length A.cx R.x,aG A.ac R.cs.length A.cc R.cs]) (r:=aE A.ar R.ram.length A.cr R.ram) (L2:=[aE A.ai R.d.xs.length A.ci R.d.xs,aE A.ao R.d.ys.length A.co R.d.ys]) f (aE a zs.length c zs) o h.le k.ag.size (D2 _)
theorem Tq.csrs {t':TV} (h:Tq n E B R c L w) {zs:List Int} {b:Option O1} {A:Nat} (a:M'.x=R.x/\M'.cs=zs/\M'.ram=R.ram/\M'.d=R.d) (k:Iv [E] w [⟨E,bI M' {c with ac:=b,cc:=A} t',[]⟩] W) (o:W.ownsRow w.heap.size 24 1 (.slice b zs.length A) zs.length (zs.map (F0 .u64))):Tq n E B M' {c with ac:=b,cc:=A} t' W:=by
 have d:=AZ (L1:=[aG c.ax R.x.length c.cx R.x]) (L2:=[aE c.ar R.ram.length c.cr R.ram,aE c.ai R.d.xs.length c.ci R.d.xs,aE c.ao R.d.ys.length c.co R.d.ys]) (r:=aG c.ac R.cs.length c.cc R.cs) (q:=aG b zs.length A zs) h.ne λe=>by have:=(o.lt E e).1;have:=h.glt;omega
 have f:=h.other h.fam k;have s:=bj.swap (L1:=[aG c.ax R.x.length c.cx R.x]) (r:=aG c.ac R.cs.length c.cc R.cs) (L2:=[aE c.ar R.ram.length c.cr R.ram,aE c.ai R.d.xs.length c.ci R.d.xs,aE c.ao R.d.ys.length c.co R.d.ys]) f (aG b zs.length A zs) o h.le k.ag.size (D2 _);refine h.iv1 k ?_ ?_;·unfold aF;rw [a.1,a.2.1,a.2.2.1,a.2.2.2];exact s
 ·unfold aF;rw [a.1,a.2.1,a.2.2.1,a.2.2.2];exact d
theorem pK {a:Option O1} {xs:List Int} (h:w.ownsRow E 24 1 (.slice a xs.length V) xs.length (xs.map (F0 .u64))) (hn:xs.length=n) (i:0<n):∃ b,a=some ⟨b,0,none⟩/\E<=b/\∀ j,j<n->w.cell? ⟨b,j,none⟩=some (.u (xs.getD j 0))/\w.frozen? ⟨b,j,none⟩=false:=by obtain ⟨b,g,e,f⟩:=jV h ab;simp only [Value.slice.injEq,true_and] at e;obtain ⟨d,e2⟩:=e;refine ⟨b,d,f,λj k=>?_⟩;rw [d] at h;refine ⟨?_,h.frozenAt j⟩;rw [h.cellAt j ab];rw [List.getElem?_map,C5 (show j<xs.length by omega),List.getD_eq_getElem?_getD,C5 (show j<xs.length by omega)];rfl
theorem Tq.atX (h:Tq n E B R c L w) (a:R.x.length=32):∃ b,c.ax=some ⟨b,0,none⟩/\b≠E/\∀ j,j<32->w.cell? ⟨b,j,none⟩=some (.u (R.x.getD j 0))/\w.frozen? ⟨b,j,none⟩=false:=by have f:w.ownsRow n 24 1 (.slice c.ax R.x.length c.cx) R.x.length (R.x.map (F0 .u64)):=h.fam.own (aG c.ax R.x.length c.cx R.x) ef;obtain ⟨b,A,i,d⟩:=pK f a ab;exact ⟨b,A,λe=>h.ne (aG c.ax R.x.length c.cx R.x) ef (by show (F3 c.ax R.x.length c.cx).ownBlock=_;rw [A,e];rfl),d⟩
theorem Tq.atC (h:Tq n E B R c L w) (a:R.cs.length=22):∃ b,c.ac=some ⟨b,0,none⟩/\b≠E/\∀ j,j<22->w.cell? ⟨b,j,none⟩=some (.u (R.cs.getD j 0))/\w.frozen? ⟨b,j,none⟩=false:=by have f:w.ownsRow n 24 1 (.slice c.ac R.cs.length c.cc) R.cs.length (R.cs.map (F0 .u64)):=h.fam.own (aG c.ac R.cs.length c.cc R.cs) ef;obtain ⟨b,A,i,d⟩:=pK f a ab;exact ⟨b,A,λe=>h.ne (aG c.ac R.cs.length c.cc R.cs) ef (by show (F3 c.ac R.cs.length c.cc).ownBlock=_;rw [A,e];rfl),d⟩
theorem Tq.good (h:Tq n E B R c L w):xh R.ram.length c.ar c.cr:=DI (h.fam.own (aE c.ar R.ram.length c.cr R.ram) ef)
theorem Tq.setX (h:Tq n E B R c L w) {b:Nat} (hb:c.ax=some ⟨b,0,none⟩) (i:Nat) (v:Int):Tq n E B (xM R (R.x.set i v)) c L (w.setCell ⟨b,i,none⟩ (.u v)):=by
 have j:w.ownsRow n 24 1 (.slice c.ax R.x.length c.cx) R.x.length (R.x.map (F0 .u64)):=h.fam.own (aG c.ax R.x.length c.cx R.x) ef;rw [hb] at j;have f:=j.stored i (.u v);rw [lC] at f;have u:=(j.lt b rfl).1;have x:w.grownBy (w.setCell ⟨b,i,none⟩ (.u v)) (aG c.ax R.x.length c.cx R.x).v.ownBlock:=by simp only [aG];rw [hb];exact f.2
 have y:=bj.mark (L1:=[]) (r:=aG c.ax R.x.length c.cx R.x) (L2:=[aG c.ac R.cs.length c.cc R.cs,aE c.ar R.ram.length c.cr R.ram,aE c.ai R.d.xs.length c.ci R.d.xs,aE c.ao R.d.ys.length c.co R.d.ys]) h.fam x ((R.x.set i v).map (F0 .u64)) ti;have a:(w.setCell ⟨b,i,none⟩ (.u v)).heap.size=w.heap.size:=aO _ _ _;have m:aF (xM R (R.x.set i v)) c=[]++⟨(aG c.ax R.x.length c.cx R.x).t,(aG c.ax R.x.length c.cx R.x).v,(aG c.ax R.x.length c.cx R.x).n,(R.x.set i v).map (F0 .u64)⟩::[aG c.ac R.cs.length c.cc R.cs,aE c.ar R.ram.length c.cr R.ram,aE c.ai R.d.xs.length c.ci R.d.xs,aE c.ao R.d.ys.length c.co R.d.ys]:=by simp [aF,xM,aG]
 have A:∀ k,k≠b->(w.setCell ⟨b,i,none⟩ (.u v)).heap[k]?=w.heap[k]?:=λk A=>H8 w _ _ k A;have d:E≠b:=λe=>h.ne (aG c.ax R.x.length c.cx R.x) ef (by show (F3 c.ax R.x.length c.cx).ownBlock=_;rw [hb,e];rfl);refine ⟨?_,?_,(λq z=>by obtain ⟨C,g,l⟩:=i7 (M:=R) (M':=xM R (R.x.set i v)) (A:=c) (show (R.x.set i v).length=R.x.length by simp) rfl rfl rfl rfl q z;rw [<- l];exact h.ne C g),by rw [a];exact h.le,h.os,h.tape,h.output,by rw [a];exact h.size,λk o p=>(A k ab).trans (h.block k o p),h.t0,h.tb,h.tn⟩;·obtain ⟨T,s⟩:=h.row;refine ⟨T,(A E d).trans (s.trans ?_)⟩;simp [bI,xM]
 ·rw [m,a];exact y.1
theorem Tq.setC (h:Tq n E B R c L w) {b:Nat} (hb:c.ac=some ⟨b,0,none⟩) (i:Nat) (v:Int):Tq n E B (cM R (R.cs.set i v)) c L (w.setCell ⟨b,i,none⟩ (.u v)):=by
 have j:w.ownsRow n 24 1 (.slice c.ac R.cs.length c.cc) R.cs.length (R.cs.map (F0 .u64)):=h.fam.own (aG c.ac R.cs.length c.cc R.cs) ef;rw [hb] at j;have f:=j.stored i (.u v);rw [lC] at f;have u:=(j.lt b rfl).1;have x:w.grownBy (w.setCell ⟨b,i,none⟩ (.u v)) (aG c.ac R.cs.length c.cc R.cs).v.ownBlock:=by simp only [aG];rw [hb];exact f.2
 have y:=bj.mark (L1:=[aG c.ax R.x.length c.cx R.x]) (r:=aG c.ac R.cs.length c.cc R.cs) (L2:=[aE c.ar R.ram.length c.cr R.ram,aE c.ai R.d.xs.length c.ci R.d.xs,aE c.ao R.d.ys.length c.co R.d.ys]) h.fam x ((R.cs.set i v).map (F0 .u64)) ti;have a:(w.setCell ⟨b,i,none⟩ (.u v)).heap.size=w.heap.size:=aO _ _ _;have m:aF (cM R (R.cs.set i v)) c=[aG c.ax R.x.length c.cx R.x]++⟨(aG c.ac R.cs.length c.cc R.cs).t,(aG c.ac R.cs.length c.cc R.cs).v,(aG c.ac R.cs.length c.cc R.cs).n,(R.cs.set i v).map (F0 .u64)⟩::[aE c.ar R.ram.length c.cr R.ram,aE c.ai R.d.xs.length c.ci R.d.xs,aE c.ao R.d.ys.length c.co R.d.ys]:=by simp [aF,cM,aG]
 have A:∀ k,k≠b->(w.setCell ⟨b,i,none⟩ (.u v)).heap[k]?=w.heap[k]?:=λk A=>H8 w _ _ k A;have d:E≠b:=λe=>h.ne (aG c.ac R.cs.length c.cc R.cs) ef (by show (F3 c.ac R.cs.length c.cc).ownBlock=_;rw [hb,e];rfl);refine ⟨?_,?_,(λq z=>by obtain ⟨C,g,l⟩:=i7 (M:=R) (M':=cM R (R.cs.set i v)) (A:=c) rfl (show (R.cs.set i v).length=R.cs.length by simp) rfl rfl rfl q z;rw [<- l];exact h.ne C g),by rw [a];exact h.le,h.os,h.tape,h.output,by rw [a];exact h.size,λk o p=>(A k ab).trans (h.block k o p),h.t0,h.tb,h.tn⟩;·obtain ⟨T,s⟩:=h.row;refine ⟨T,(A E d).trans (s.trans ?_)⟩;simp [bI,cM]
 ·rw [m,a];exact y.1
theorem Tq.acc (h:Tq n E B R c L w) (a:Gd R) {addr size kind x:Int} (f:jt size) (b:1<=kind) (A:kind<=3) (d:kind=1->size=4) (i:U addr) (hx:U x): I1 prog 181 #[.func (.func 122) #[] #[],.agg (ak R c),.u addr,.i size,.i kind,.u x] w (yc w (aH R addr size kind x)):=by
 have q:wZ R size kind:=by
  unfold wZ;rw [a.ok,f,decide_eq_true ⟨b,A⟩];by_cases e:kind=1;·rw [d e];simp
  ·simp [e]
 have e:uI R addr size kind x=aH R addr size kind x:=by unfold uI;rw [JZ8 q]
 rw [<- e];exact AY R c addr size kind x w a.len h.sl a.mw a.hd i hx h.tab (λ_=>h.good)
def wN (op:Int):Nat:=2^((ce (op-1).toNat).f3z%4).toNat
def wS (op:Int):Bool:=decide ((ce (op-1).toNat).f3z<4)
def eM (op:Int):K1 :=
 if op<3 then .iface 206 (.agg #[])
 else if op<11 then .iface 207 (.agg #[])
 else if op<18 then nu .ld (wN op) (wS op)
 else if op<22 then nu .st (wN op) (wS op)
 else if op<63 then .iface 206 (.agg #[])
 else if op<85 then (if op=63\/op=74 then nu .hd (wN op) (wS op) else if op=64\/op=75 then nu .sc (wN op) (wS op) else nu .am (wN op) (wS op))
 else if op<87 then .iface 218 (.agg #[])
 else if op<93 then .iface 219 (.agg #[])
 else .iface 220 (.agg #[])
theorem Ou:∀ k,k<98->0<=(ce k).f3z/\(ce k).f3z<8/\((10<=k/\k<=16)->wN ((k:Nat)+1:Int)=jP ((k:Nat)+1:Int)/\wS ((k:Nat)+1:Int)=decide (k<14))/\((17<=k/\k<=20)->wN ((k:Nat)+1:Int)=2^(k-17))/\((62<=k/\k<=83)->wN ((k:Nat)+1:Int)=bC ((k:Nat)+1:Int)/\wS ((k:Nat)+1:Int)):=by
 have h:(List.range 98).all (λk=>decide (0<=(ce k).f3z/\(ce k).f3z<8/\((10<=k/\k<=16)->wN ((k:Nat)+1:Int)=jP ((k:Nat)+1:Int)/\wS ((k:Nat)+1:Int)=decide (k<14))/\((17<=k/\k<=20)->wN ((k:Nat)+1:Int)=2^(k-17))/\((62<=k/\k<=83)->wN ((k:Nat)+1:Int)=bC ((k:Nat)+1:Int)/\wS ((k:Nat)+1:Int)))):=ba
 intro k a;exact of_decide_eq_true (List.all_eq_true.1 h k ta)
theorem Iy (a:1<=s) (h:s<=98):0<=(ce (s-1).toNat).f3z/\(ce (s-1).toNat).f3z<8/\((11<=s/\s<=17)->wN s=jP s/\wS s=decide (s-11<4))/\((18<=s/\s<=21)->wN s=2^(s-18).toNat)/\((63<=s/\s<=84)->wN s=bC s/\wS s):=by
 obtain ⟨k,rfl⟩:∃ k:Nat,s=(k:Int)+1:=⟨(s-1).toNat,ab⟩;obtain ⟨a,c,d,f,g⟩:=Ou k ab;rw [show ((k:Int)+1-1).toNat=k from ab];refine ⟨a,c,λe=>?_,λe=>?_,λe=>g ab⟩
 ·obtain ⟨b,e2⟩:=d ab;refine ⟨b,e2.trans ?_⟩;by_cases q:k<14;·rw [decide_eq_true q,decide_eq_true ab]
  ·rw [decide_eq_false q,decide_eq_false ab]
 ·rw [f ab,show ((k:Int)+1-18).toNat=k-17 from ab]
theorem t9 (J:1<=p) (u:p<=98) (w:I3):CB 186 #[.i p] w (.agg #[.i (wN p:Nat),.bool (wS p)]):=by
 obtain ⟨N,Z,_⟩:=Iy J u;have B:rW p:=decide_eq_true ⟨J,u⟩;have f:=λW=>yx p (tW ab ab) W;have H:xB p=(ce (p-1).toNat).val:=by unfold xB;rw [B];rfl
 rw [H,B] at f;unfold wN wS;generalize ce (p-1).toNat=R at *;obtain ⟨i,I,o,z,m⟩:=R;unfold Row.val at f;dsimp only at f;generalize Fm.str I=l at f;generalize (Row.mk i I o z m).f3z=y at *;refine br (S:=Bs w [(#[.i 0,.bool false],209)]) (args:=[.i p]) [(#[.i 0,.bool false],209)] func186 ?_;refine aT Bs.eng {} 40 (Bs.start _ _) (λG _=>f G) ?_;rintro G e Y L ⟨rfl,M⟩;refine ⟨_,0,rfl,gi ba,?_⟩;have v:=L.below M;refine ae Bs.eng {} 3 v λb q=>?_;refine dt 2 (ct (T:=234) (z:=noRow) ba b) ?_;refine bE (av (g:=b.heap.size) (t:=234) (ty:=234) (old:=#[.string ⟨#[]⟩,.string ⟨#[]⟩,.u 0,.u 0,.u 0]) (cells:=#[.string i,.string l,.u o,.u y,.u m]) (I4 _ _) ba rfl ba) ?_;have X:w.heap.size<b.heap.size:=(D1.1 (q.1 0 _ rfl)).1;have D:Bw b ((b.alloc (.cells noRow.cells 234)).setRow b.heap.size #[.string i,.string l,.u o,.u y,.u m]):=aI (bal _ _) (D2 _) _;have E:iA ⟨b.heap.size,#[.string i,.string l,.u o,.u y,.u m],[]⟩ ((b.alloc (.cells noRow.cells 234)).setRow b.heap.size #[.string i,.string l,.u o,.u y,.u m]):=⟨_,L0 _ _ _ _ _ _ (I4 _ _)⟩;generalize (b.alloc (.cells noRow.cells 234)).setRow b.heap.size #[.string i,.string l,.u o,.u y,.u m]=r at D E ⊢;have j:=q.below D;have op:Iv [w.heap.size,b.heap.size] r [⟨w.heap.size,#[.i 0,.bool false],[]⟩,⟨b.heap.size,#[.string i,.string l,.u o,.u y,.u m],[]⟩] r:=Iv.two ⟨_,j.1 0 _ rfl⟩ E ab;refine aL (Iv [w.heap.size,b.heap.size] r [⟨w.heap.size,#[.i 0,.bool false],[]⟩,⟨b.heap.size,#[.string i,.string l,.u o,.u y,.u m],[]⟩]) ?_;refine aj (R:=[]) trivial {} 3 ?_;refine zU ?_;have fin:∀ (n:Nat) (s:Bool) (k:List KI) (F:Fr) (c:I3),Iv [w.heap.size,b.heap.size] r [⟨w.heap.size,#[.i 0,.bool false],[]⟩,⟨b.heap.size,#[.string i,.string l,.u o,.u y,.u m],[]⟩] c->iw k->((cw prog ({}:Hw prog (Ag [w.heap.size,b.heap.size] c)) Tryz.f186.ntmps 40 k (xF 2 1 F) [⟨w.heap.size,#[.i 0,.bool false],[]⟩,⟨b.heap.size,#[.string i,.string l,.u o,.u y,.u m],[]⟩]).1.1,(cw prog ({}:Hw prog (Ag [w.heap.size,b.heap.size] c)) Tryz.f186.ntmps 40 k (xF 2 1 F) [⟨w.heap.size,#[.i 0,.bool false],[]⟩,⟨b.heap.size,#[.string i,.string l,.u o,.u y,.u m],[]⟩]).1.2.2.2)=(true,[⟨w.heap.size,#[.i n,.bool s],[]⟩,⟨b.heap.size,#[.string i,.string l,.u o,.u y,.u m],[]⟩]) ->
  (cw prog ({}:Hw prog (Ag [w.heap.size,b.heap.size] c)) Tryz.f186.ntmps 40 k (xF 2 1 F) [⟨w.heap.size,#[.i 0,.bool false],[]⟩,⟨b.heap.size,#[.string i,.string l,.u o,.u y,.u m],[]⟩]).2.map S2=(cw prog ({}:Hw prog (Ag [w.heap.size,b.heap.size] c)) Tryz.f186.ntmps 40 k (xF 2 1 F) [⟨w.heap.size,#[.i 0,.bool false],[]⟩,⟨b.heap.size,#[.string i,.string l,.u o,.u y,.u m],[]⟩]).2.map S5 ->
  (lk (cw prog ({}:Hw prog (Ag [w.heap.size,b.heap.size] c)) Tryz.f186.ntmps 40 k (xF 2 1 F) [⟨w.heap.size,#[.i 0,.bool false],[]⟩,⟨b.heap.size,#[.string i,.string l,.u o,.u y,.u m],[]⟩]).1.2.2.1 2).map S2=some (.p w.heap.size 0) ->
  n=2^(y%4).toNat/\s=decide (y<4)->Wg prog (Iv [w.heap.size,b.heap.size] r [⟨w.heap.size,#[.i 0,.bool false],[]⟩,⟨b.heap.size,#[.string i,.string l,.u o,.u y,.u m],[]⟩]) (L6 prog Tryz.f186 λe w'=>e=.returned (.agg #[.i (2^(y%4).toNat:Nat),.bool (decide (y<4))])/\Bw w w') Tryz.f186.ntmps k F c:=by
  intro n s k F c d hn hx he U A
  refine aL (λ_=>True) (hn:=hn) ?_
  refine aP 2 1 ?_
  have O:=Iv.two (d.rows _ (A8 ..)) (d.rows _ (List.mem_cons_of_mem _ (A8 ..))) (λe=>by have:=d.nd;simp [e] at this)
  refine iS O {} 40 (hx:=hx) (he:=he) λQ a K C=>?_
  obtain ⟨P,V⟩:=K.rows _ (A8 ..)
  have x:=d.ag.trans K.ag
  refine ⟨_,results_cell_row results186 a.tmps Q w.heap.size P _ (0,0) _ (C.slot U) V underlying209 rfl rfl,by rw [<- A.1,<- A.2],?_⟩
  exact ⟨x.os.trans j.2.os,x.tape.trans j.2.tape,x.output.trans j.2.output,D4 j.2.size x.size,λk C=>(x.block k (D3 C j.2.size) oi).trans (j.2.block k C)⟩
 have MU:=λW=>(bJ y 0 2 N ab bc bc W).mono λe w' k=>And.intro k.1 (show Bw W w' by rw [k.2];exact (G1 _ _).drew);have h:=λW=>(bJ y 2 1 N ab bc bc W).mono λe w' k=>And.intro k.1 (show Bw W w' by rw [k.2];exact (G1 _ _).drew);clear L v q M H f X D E;obtain rfl | rfl | rfl | rfl | rfl | rfl | rfl | rfl:y=0\/y=1\/y=2\/y=3\/y=4\/y=5\/y=6\/y=7:=ab
 ·refine ae Iv.eng {cv:=[(12,iQ Iv.below λW _=>MU W),(16,iQ Iv.below λW _=>h W)]} 40 (op.below (G1 _ _).drew) λc d=>?_;exact fin 1 true _ _ c d ba ba ba ba cp
 ·refine ae Iv.eng {cv:=[(12,iQ Iv.below λW _=>MU W),(16,iQ Iv.below λW _=>h W)]} 40 (op.below (G1 _ _).drew) λc d=>?_;exact fin 2 true _ _ c d ba ba ba ba cp
 ·refine ae Iv.eng {cv:=[(12,iQ Iv.below λW _=>MU W),(16,iQ Iv.below λW _=>h W)]} 40 (op.below (G1 _ _).drew) λc d=>?_;exact fin 4 true _ _ c d ba ba ba ba cp
 ·refine ae Iv.eng {cv:=[(12,iQ Iv.below λW _=>MU W),(16,iQ Iv.below λW _=>h W)]} 40 (op.below (G1 _ _).drew) λc d=>?_;exact fin 8 true _ _ c d ba ba ba ba cp
 ·refine ae Iv.eng {cv:=[(12,iQ Iv.below λW _=>MU W),(16,iQ Iv.below λW _=>h W)]} 40 (op.below (G1 _ _).drew) λc d=>?_;exact fin 1 false _ _ c d ba ba ba ba cp
 ·refine ae Iv.eng {cv:=[(12,iQ Iv.below λW _=>MU W),(16,iQ Iv.below λW _=>h W)]} 40 (op.below (G1 _ _).drew) λc d=>?_;exact fin 2 false _ _ c d ba ba ba ba cp
 ·refine ae Iv.eng {cv:=[(12,iQ Iv.below λW _=>MU W),(16,iQ Iv.below λW _=>h W)]} 40 (op.below (G1 _ _).drew) λc d=>?_;exact fin 4 false _ _ c d ba ba ba ba cp
 ·refine ae Iv.eng {cv:=[(12,iQ Iv.below λW _=>MU W),(16,iQ Iv.below λW _=>h W)]} 40 (op.below (G1 _ _).drew) λc d=>?_;exact fin 8 false _ _ c d ba ba ba ba cp
theorem sU (b:63<=p) (c:p<=84) (w:I3):CB 187 #[.i p] w (if p=63\/p=74 then nu .hd (wN p) (wS p) else if p=64\/p=75 then nu .sc (wN p) (wS p) else nu .am (wN p) (wS p)):=by
 have a:=λW (_:Bw w W)=>t9 p ab ab W;generalize wN p=n at *;generalize wS p=s at *;refine br (S:=Bs w []) (args:=[.i p]) [] func187 ?_;by_cases d:p=63;·rw [JZ8 ab];exact bn (t:=2) (v:=nu .hd n s) Bs.eng {eq:=[(5,an (show (p==63)=true by simp;omega))],cv:=[(8,fM a),(15,fM a),(19,fM a)]} 60 (Bs.start w []) λw' h=>⟨rfl,h.2⟩
 by_cases f:p=74;·rw [JZ8 ab];exact bn (t:=2) (v:=nu .hd n s) Bs.eng {eq:=[(5,an (show (p==63)=false by simp;omega)),(6,an (show (p==74)=true by simp;omega))],cv:=[(8,fM a),(15,fM a),(19,fM a)]} 60 (Bs.start w []) λw' h=>⟨rfl,h.2⟩
 by_cases g:p=64;·rw [JZ9 ab,JZ8 ab];exact bn (t:=2) (v:=nu .sc n s) Bs.eng {eq:=[(5,an (show (p==63)=false by simp;omega)),(6,an (show (p==74)=false by simp;omega)),(12,an (show (p==64)=true by simp;omega))],cv:=[(8,fM a),(15,fM a),(19,fM a)]} 60 (Bs.start w []) λw' h=>⟨rfl,h.2⟩
 by_cases i:p=75;·rw [JZ9 ab,JZ8 ab];exact bn (t:=2) (v:=nu .sc n s) Bs.eng {eq:=[(5,an (show (p==63)=false by simp;omega)),(6,an (show (p==74)=false by simp;omega)),(12,an (show (p==64)=false by simp;omega)),(13,an (show (p==75)=true by simp;omega))],cv:=[(8,fM a),(15,fM a),(19,fM a)]} 60 (Bs.start w []) λw' h=>⟨rfl,h.2⟩
 rw [JZ9 ab,JZ9 ab];exact bn (t:=2) (v:=nu .am n s) Bs.eng {eq:=[(5,an (show (p==63)=false by simp;omega)),(6,an (show (p==74)=false by simp;omega)),(12,an (show (p==64)=false by simp;omega)),(13,an (show (p==75)=false by simp;omega))],cv:=[(8,fM a),(15,fM a),(19,fM a)]} 60 (Bs.start w []) λw' h=>⟨rfl,h.2⟩
theorem Gg (op:Int) (g:1<=op) (d:op<=98) (w:I3):CB 154 #[.i op] w (eM op):=by
 have a:=λW (_:Bw w W)=>t9 op g d W;have i:=λW (b:63<=op) (c:op<=84)=>sU op b c W;unfold eM;generalize wN op=n at *;generalize wS op=s at *;refine br (S:=Bs w []) (args:=[.i op]) [] func154 ?_;by_cases k:op<3;·rw [JZ8 ab];exact bn (t:=2) (v:=.iface 206 (.agg #[])) Bs.eng {eq:=[(5,an (show decide (op<3)=true by rw [JZ6];omega))]} 100 (Bs.start w []) λw' h=>⟨rfl,h.2⟩
 by_cases l:op<11;·rw [JZ9 ab,JZ8 ab];exact bn (t:=2) (v:=.iface 207 (.agg #[])) Bs.eng {eq:=[(5,an (show decide (op<3)=false by rw [JZ7];omega)),(10,an (show decide (op<11)=true by rw [JZ6];omega))]} 100 (Bs.start w []) λw' h=>⟨rfl,h.2⟩
 by_cases m:op<18;·rw [JZ9 ab,JZ9 ab,JZ8 ab];exact bn (t:=2) (v:=nu .ld n s) Bs.eng {eq:=[(5,an (show decide (op<3)=false by rw [JZ7];omega)),(10,an (show decide (op<11)=false by rw [JZ7];omega)),(15,an (show decide (op<18)=true by rw [JZ6];omega))],cv:=[(17,fM a),(24,fM a)]} 100 (Bs.start w []) λw' h=>⟨rfl,h.2⟩
 by_cases o:op<22;·rw [JZ9 ab,JZ9 ab,JZ9 ab,JZ8 ab];exact bn (t:=2) (v:=nu .st n s) Bs.eng {eq:=[(5,an (show decide (op<3)=false by rw [JZ7];omega)),(10,an (show decide (op<11)=false by rw [JZ7];omega)),(15,an (show decide (op<18)=false by rw [JZ7];omega)),(22,an (show decide (op<22)=true by rw [JZ6];omega))],cv:=[(17,fM a),(24,fM a)]} 100 (Bs.start w []) λw' h=>⟨rfl,h.2⟩
 by_cases p:op<63;·rw [JZ9 ab,JZ9 ab,JZ9 ab,JZ9 ab,JZ8 ab];exact bn (t:=2) (v:=.iface 206 (.agg #[])) Bs.eng {eq:=[(5,an (show decide (op<3)=false by rw [JZ7];omega)),(10,an (show decide (op<11)=false by rw [JZ7];omega)),(15,an (show decide (op<18)=false by rw [JZ7];omega)),(22,an (show decide (op<22)=false by rw [JZ7];omega)),(29,an (show decide (op<63)=true by rw [JZ6];omega))]} 100 (Bs.start w []) λw' h=>⟨rfl,h.2⟩
 by_cases q:op<85;·rw [JZ9 ab,JZ9 ab,JZ9 ab,JZ9 ab,JZ9 ab,JZ8 ab];have j:=λW (_:Bw w W)=>i W ab ab;generalize (if op=63\/op=74 then nu .hd n s else if op=64\/op=75 then nu .sc n s else nu .am n s)=f at *;exact bn (t:=2) (v:=f) Bs.eng {eq:=[(5,an (show decide (op<3)=false by rw [JZ7];omega)),(10,an (show decide (op<11)=false by rw [JZ7];omega)),(15,an (show decide (op<18)=false by rw [JZ7];omega)),(22,an (show decide (op<22)=false by rw [JZ7];omega)),(29,an (show decide (op<63)=false by rw [JZ7];omega)),(34,an (show decide (op<85)=true by rw [JZ6];omega))],cv:=[(36,fM j)]} 100 (Bs.start w []) λw' h=>⟨rfl,h.2⟩
 by_cases r:op<87;·rw [JZ9 ab,JZ9 ab,JZ9 ab,JZ9 ab,JZ9 ab,JZ9 ab,JZ8 ab];exact bn (t:=2) (v:=.iface 218 (.agg #[])) Bs.eng {eq:=[(5,an (show decide (op<3)=false by rw [JZ7];omega)),(10,an (show decide (op<11)=false by rw [JZ7];omega)),(15,an (show decide (op<18)=false by rw [JZ7];omega)),(22,an (show decide (op<22)=false by rw [JZ7];omega)),(29,an (show decide (op<63)=false by rw [JZ7];omega)),(34,an (show decide (op<85)=false by rw [JZ7];omega)),(39,an (show decide (op<87)=true by rw [JZ6];omega))]} 100 (Bs.start w []) λw' h=>⟨rfl,h.2⟩
 by_cases u:op<93;·rw [JZ9 ab,JZ9 ab,JZ9 ab,JZ9 ab,JZ9 ab,JZ9 ab,JZ9 ab,JZ8 ab];exact bn (t:=2) (v:=.iface 219 (.agg #[])) Bs.eng {eq:=[(5,an (show decide (op<3)=false by rw [JZ7];omega)),(10,an (show decide (op<11)=false by rw [JZ7];omega)),(15,an (show decide (op<18)=false by rw [JZ7];omega)),(22,an (show decide (op<22)=false by rw [JZ7];omega)),(29,an (show decide (op<63)=false by rw [JZ7];omega)),(34,an (show decide (op<85)=false by rw [JZ7];omega)),(39,an (show decide (op<87)=false by rw [JZ7];omega)),(44,an (show decide (op<93)=true by rw [JZ6];omega))]} 100 (Bs.start w []) λw' h=>⟨rfl,h.2⟩
 rw [JZ9 ab,JZ9 ab,JZ9 ab,JZ9 ab,JZ9 ab,JZ9 ab,JZ9 ab,JZ9 ab];exact bn (t:=2) (v:=.iface 220 (.agg #[])) Bs.eng {eq:=[(5,an (show decide (op<3)=false by rw [JZ7];omega)),(10,an (show decide (op<11)=false by rw [JZ7];omega)),(15,an (show decide (op<18)=false by rw [JZ7];omega)),(22,an (show decide (op<22)=false by rw [JZ7];omega)),(29,an (show decide (op<63)=false by rw [JZ7];omega)),(34,an (show decide (op<85)=false by rw [JZ7];omega)),(39,an (show decide (op<87)=false by rw [JZ7];omega)),(44,an (show decide (op<93)=false by rw [JZ7];omega))]} 100 (Bs.start w []) λw' h=>⟨rfl,h.2⟩
def ut (cf:Bool) (M:MV) (t:TV):MV × Int :=
 if t.up=true then (aR M t.cz.toNat false t.vl,2)
 else (⟨t.nx,if t.rd=0 then M.x else M.x.set t.rd.toNat t.rs,M.pr,if cf=true then M.cs else M.cs.set 21 (Uz.wrap (M.cs.getD 21 0+1)),M.ram,M.d,M.hd,M.hl,M.wt⟩,1)
def t0 (M:MV) (i:Ins) (wd:Int):TV:=⟨.func (.func 122) #[] #[],wd,i.op,i.rd,i.a,i.b,i.imm,eM i.op,M.x.getD i.rd.toNat 0,Uz.wrap (M.pc+4),false,false,0,0⟩
structure Pf (cf:Bool) (V:MV × Int) (i:Ins) (M':MV) (t':TV):Prop where
 e:ut cf M' t'=V
 g:Gd M'
 rd:t'.rd=i.rd
 fm:t'.fm=eM i.op
 c:t'.up->∃ k:Nat,k<16/\t'.cz=k
def TR (B g:Nat) (w0:I3) (P:MV->TV->Prop) (e:N1) (w':I3):Prop:=e=.returned (.tuple #[])/\∃ M' A' t',P M' t'/\Tq B g w0 M' A' t' w'
theorem Tq.eng {fn:Func} {dr:Bool}:n6 P (Tq n E w R c L) (Tq n E w R c L) [⟨E,bI R c L,[]⟩] dr (L6 P fn Rs):=
 ⟨λ_ h=>h,λW h r a=>by rw [A5] at a;subst a;exact h.row.in_,λ_ W h=>h.below (G1 _ _).drew,cD⟩
def ue {B g:Nat} {w0:I3} {M:MV} {A:MA} {t:TV} {P:R6} {f:Nat} {args:Array K1} {v:K1} (h:∀ W,Tq B g w0 M A t W->I1 P f args W λe w'=>e=.returned v/\Iv [g] W [⟨g,bI M A t,[]⟩] w'):Cv P (Tq B g w0 M A t):=⟨f,args,v,0,λW a=>(h W a).mono λe w' k=>⟨k.1,a.iv k.2 rfl⟩⟩
def O0 {B g:Nat} {w0:I3} {M:MV} {A:MA} {t:TV} {P:R6} {f:Nat} {args:Array K1} {v:K1} (h:∀ W,Tq B g w0 M A t W->I1 P f args W λe w'=>e=.returned v/\Bw W w'):Cv P (Tq B g w0 M A t):=⟨f,args,v,0,λW a=>(h W a).mono λe w' k=>⟨k.1,a.below k.2⟩⟩
theorem TM (h:Tq n E B R c L w) (a:R.x.length=32) (d:0<=L.ra) (f:L.ra<=31):I1 prog 158 #[.p E 0] w λe w'=>e=.returned (.u (R.x.getD L.ra.toNat 0))/\Iv [E] w [⟨E,bI R c L,[]⟩] w':=by obtain ⟨b,i,A,j⟩:=h.atX a;have:=L9 (x:=R.x.getD (0+L.ra.toNat) 0) h.row i ⟨d,ab⟩ A (j (0+L.ra.toNat) ab).1;rw [D8] at this;exact this
theorem We (h:Tq n E B R c L w) (a:R.x.length=32) (d:0<=L.rb) (f:L.rb<=31):I1 prog 161 #[.p E 0] w λe w'=>e=.returned (.u (R.x.getD L.rb.toNat 0))/\Iv [E] w [⟨E,bI R c L,[]⟩] w':=by obtain ⟨b,i,A,j⟩:=h.atX a;have:=Vl (x:=R.x.getD (0+L.rb.toNat) 0) h.row i ⟨d,ab⟩ A (j (0+L.rb.toNat) ab).1;rw [D8] at this;exact this
def xj (M:MV) (i:Ins):Int:=if i.op=1 then Uz.wrap i.imm else if i.op=2 then Uz.wrap (M.pc+Uz.wrap i.imm) else nD i.op (M.x.getD i.a.toNat 0) (if (fq i.op).toList=[82] then M.x.getD i.b.toNat 0 else Uz.wrap i.imm)
theorem Gh (wd:Int) (C:jT e) (h:Tq n E B R c (t0 R e wd) w) (g:Gd R):I1 prog 155 #[.p E 0] w λi w'=>i=.returned (.u (xj R e))/\Tq n E B R c (t0 R e wd) w':=by
 obtain ⟨H,F,G,s,y,l,z,m,D,w0,_⟩:=C;have A:=g.x32;have k:=g.ux e.a.toNat;have u:=g.ux e.b.toNat;have x:U (Uz.wrap e.imm):=aW _;have q:=λW (h:Tq n E B R c (t0 R e wd) W)=>TM h A y l;have r:=λW (h:Tq n E B R c (t0 R e wd) W)=>We h A z m;have j:=λW (h:Tq n E B R c (t0 R e wd) W)=>tE h.row;unfold xj;refine br (S:=Tq n E B R c (t0 R e wd)) (args:=[.p E 0]) [] func155 ?_;refine aP 0 1 ?_;by_cases o:e.op=1;·rw [JZ8 o];exact bn (t:=2) (v:=.u (Uz.wrap e.imm)) (Tq.eng (dr:=true)) {eq:=[(12,an (show (e.op==1)=true by simp;omega))],cv:=[(14,ue j)]} 100 h λw' h=>⟨rfl,h⟩
 rw [JZ9 o];have a:(e.op==1)=false:=by simp;omega
 by_cases p:e.op=2;·rw [JZ8 p];exact bn (t:=2) (v:=.u (Uz.wrap (R.pc+Uz.wrap e.imm))) (Tq.eng (dr:=true)) {eq:=[(12,an a),(16,an (show (e.op==2)=true by simp;omega))],cv:=[(23,ue j)]} 100 h λw' h=>⟨rfl,h⟩
 rw [JZ9 p];have b:(e.op==2)=false:=by simp;omega
 have f:=λW (_:Tq n E B R c (t0 R e wd) W)=>zH e.op (tW ab ab) W;cases d:((fq e.op).toList==(⟨#[82]⟩:ByteArray).toList) with
 | true =>rw [JZ8 (show (fq e.op).toList=[82] from (eq_of_beq d).trans cp)];exact bn (t:=2) (v:=.u (nD e.op (R.x.getD e.a.toNat 0) (R.x.getD e.b.toNat 0))) (Tq.eng (dr:=true)) {eq:=[(12,an a),(16,an b),(33,an d)],cv:=[(26,ue j),(32,O0 f),(35,ue r),(43,ue q),(45,O0 λW _=>tT e.op _ _ (tW ab ab) k.1 k.2 u.1 u.2 W)]} 200 h λw' h=>⟨rfl,h⟩
 | false =>rw [JZ9 (show ¬ (fq e.op).toList=[82] from λi=>by rw [i] at d;exact absurd d cp)];exact bn (t:=2) (v:=.u (nD e.op (R.x.getD e.a.toNat 0) (Uz.wrap e.imm))) (Tq.eng (dr:=true)) {eq:=[(12,an a),(16,an b),(33,an d)],cv:=[(26,ue j),(32,O0 f),(35,ue r),(43,ue q),(45,O0 λW _=>tT e.op _ _ (tW ab ab) k.1 k.2 x.1 x.2 W)]} 200 h λw' h=>⟨rfl,h⟩
section
variable {l l' : List Int} (h : ∀ j, j≠9 -> l.getD j 0 = l'.getD j 0)
include h
theorem Iz (i:Nat):dW l i=dW l' i:=by unfold dW;rw [h 16 ab]
theorem Ow (i:Nat):jn l i=jn l' i:=by unfold jn;rw [Iz h]
theorem Ox (i:Nat):dj l i=dj l' i:=by unfold dj lm;rw [Ow h,h (17+i) ab,h (16+i) ab]
theorem Ba (p x y kind:Int):∀ n k,aJ l p x y kind n k=aJ l' p x y kind n k
 | 0,_=>rfl
 | n+1,k=>by rw [aJ,aJ,Ox h,Iz h,Ba p x y kind n (k+1)]
theorem Oy (p va kind e x:Int) (lv:Nat):du l p va kind e x lv=du l' p va kind e x lv:=by unfold du hZ ic;rw [h 0 ab,Ba h]
theorem IA (zs:List Int) (n:Nat) (p va kind:Int):∀ a T,bT zs n l p va kind a T=bT zs n l' p va kind a T
 | 0,T=>by rw [bT,bT,Ba h,Oy h]
 | a+1,T=>by rw [bT,bT,Ba h,Oy h,IA zs n p va kind a]
theorem QU (zs:List Int) (n:Nat) (p va kind:Int):cj zs n l p va kind=cj zs n l' p va kind:=by unfold cj n9;rw [h 15 ab,IA h]
theorem TN (p kind:Int):gg l p kind=gg l' p kind:=by unfold gg;rw [h 0 ab]
end
theorem QV (b:(tG X p q 2 z).2.2=0):(tG X p q 2 z).2.1.ram=X.ram/\(tG X p q 2 z).2.1.pr=X.pr/\∀ j,j≠9->(tG X p q 2 z).2.1.cs.getD j 0=X.cs.getD j 0:=by
 unfold tG at b ⊢;split;·exact ⟨rfl,rfl,λ_ _=>rfl⟩
 ·rename_i c;rw [JZ9 c] at b;split
  ·rename_i a;split;·exact ⟨rfl,rfl,λj d=>j7 _ 9 j _ (Ne.symm d)⟩
   ·exact ⟨rfl,rfl,λ_ _=>rfl⟩
  ·rename_i a;exact absurd rfl a
theorem Gi (r:Gd R) {a n:Int} (b:(aH R a n 2 0).2.2=0):(cq (aH R a n 2 0).2.1 a 2).code=0:=by
 have p:∀ i,0<=R.ram.getD i 0/\R.ram.getD i 0<=255:=F7 r.mw.ram;have key:∀ F:Fd,F=cj R.ram R.ram.length R.cs (gg R.cs R.pr 2) a 2->F.code=0->∀ N:MV,N.ram=bz R.ram F->N.pr=R.pr->(∀ j,j≠9->N.cs.getD j 0=R.cs.getD j 0)->(cq N a 2).code=0:=by
  intro F hF l N m o h;unfold cq;rw [m,o,kB,QU h,TN h];rcases Fp R.ram R.ram.length rfl p R.cs (gg R.cs R.pr 2) a 2 with ⟨_,e,_⟩|⟨e,_⟩;·rw [hF,e]
  ·rw [<- hF] at e;exact absurd l e
 unfold aH at b ⊢;split;·rename_i q;rw [JZ8 q] at b;exact absurd b (show ¬ oM 2=0 by decide)
 ·rename_i q;rw [JZ9 q] at b;unfold zX at b ⊢;split;·rename_i f;rw [JZ8 f] at b;exfalso;obtain ⟨c,k,e⟩:=l5 R.ram R.ram.length R.cs (gg R.cs R.pr 2) a 2;have d:wrap64 ((cj R.ram R.ram.length R.cs (gg R.cs R.pr 2) a 2).code+16)=0:=b;rw [e] at d;unfold wrap64 at d;omega
  ·rename_i f;rw [JZ9 f] at b;have s:(cj R.ram R.ram.length R.cs (gg R.cs R.pr 2) a 2).code=0:=kd;split;·rename_i g;rw [JZ8 g] at b;exact absurd b (show ¬ ig 2=0 by decide)
   ·rename_i g;rw [JZ9 g] at b;obtain ⟨t,u,v⟩:=QV _ _ _ _ b;exact key _ rfl s _ t u v
theorem Wh (h:Tq n E B R c L w) (b:R.x.length=32) (A:0<=L.ra) (a:L.ra<=31) {v:Int} (hv:R.x.getD L.ra.toNat 0=v):I1 prog 158 #[.p E 0] w λe w'=>e=.returned (.u v)/\Iv [E] w [⟨E,bI R c L,[]⟩] w':=by subst hv;exact TM h b A a
theorem Ww (h:Tq n E B R c L w) (b:R.x.length=32) (A:0<=L.rb) (a:L.rb<=31) {v:Int} (hv:R.x.getD L.rb.toNat 0=v):I1 prog 161 #[.p E 0] w λe w'=>e=.returned (.u v)/\Iv [E] w [⟨E,bI R c L,[]⟩] w':=by subst hv;exact We h b A a
theorem Oz (h:Tq n E B R c L w) (g:Gd R) (d:L.ld=.func (.func 122) #[] #[]) (addr size kind x:Int) (i:jt size) (a:1<=kind) (b:kind<=3) (A:kind=1->size=4) (m:U addr) (hx:U x):
 I1 prog 151 #[.p E 0,.u addr,.i size,.i kind,.u x] w λe w'=>∃ C,e=.returned (.tuple #[.u (if (aH R addr size kind x).2.2 != 0 then 0 else (aH R addr size kind x).1),.bool (!((aH R addr size kind x).2.2 != 0))])/\Tq n E B (aH R addr size kind x).2.1 C (nU L (aH R addr size kind x) addr) w' :=
 (xi (aH R addr size kind x) addr size kind x d h.row (λW l=>(h.iv l rfl).acc g i a b A m hx)).mono λe w' ⟨C,j,k,f⟩=>⟨C,j,h.new k f⟩
theorem RT (hn:n=1\/n=2\/n=4\/n=8):jt (n:Int):=by rcases hn with rfl|rfl|rfl|rfl<;>decide
theorem Gj (h:Tq n E B R c L w) (j:Gd R) (a:L.ld=.func (.func 122) #[] #[]) (f:Wf) (g:Nat) (s:Bool) (hn:g=1\/g=2\/g=4\/g=8) (i:L.fm=nu f g s) (addr:Int) (d:U addr):
 I1 prog 157 #[.p E 0,.u addr] w λe w'=>∃ C,e=.returned (.tuple #[.u (if (aH R addr g 2 0).2.2 != 0 then 0 else (aH R addr g 2 0).1),.bool (!((aH R addr g 2 0).2.2 != 0))])/\Tq n E B (aH R addr g 2 0).2.1 C (t8 L (aH R addr g 2 0) addr g s) w' :=
 (TJ (aH R addr g 2 0) f g s hn i addr a h.row (λW A=>(h.iv A rfl).acc j (RT hn) bc bc (λe=>yn) d me)).mono λe w' ⟨C,b,k,f⟩=>⟨C,b,h.new k f⟩
theorem Bb (h:Tq n E B R c L w) (j:Gd R) (a:L.ld=.func (.func 122) #[] #[]) (f:Wf) (g:Nat) (s:Bool) (hn:g=1\/g=2\/g=4\/g=8) (i:L.fm=nu f g s) (addr x:Int) (d:U addr) (hx:U x):
 I1 prog 160 #[.p E 0,.u addr,.u x] w λe w'=>∃ C,e=.returned (.bool (!((aH R addr g 3 x).2.2 != 0)))/\Tq n E B (aH R addr g 3 x).2.1 C (nU L (aH R addr g 3 x) addr) w' :=
 (QS (aH R addr g 3 x) f g s i addr x a h.row (λW A=>(h.iv A rfl).acc j (RT hn) bc bc (λe=>yn) d hx)).mono λe w' ⟨C,b,k,f⟩=>⟨C,b,h.new k f⟩
theorem OA {A:MA} (h:Tq n E B R A L w) (a:Gd R) (l:L.ld=.func (.func 122) #[] #[]) (addr kind:Int) (i:1<=kind) (j:kind<=3) (s:U addr): I1 prog 193 #[.p E 0,.u addr,.i kind] w λe w'=>∃ C,e=.returned (.tuple #[.u (if (cq R addr kind).code != 0 then 0 else (cq R addr kind).addr),.bool (!((cq R addr kind).code != 0))])/\Tq n E B (dA R addr kind) C (zi L (cq R addr kind).code addr) w':=by
 obtain ⟨f,d,g,v,_,_⟩:=aN a.ok;have m:bm R.cs.length R.cs R.pr:=(db a.ok).2.2.1;have u:=wi (a.mw.cs 0) d g kind;have r:LU R.cs.length R.cs R.pr kind=gg R.cs R.pr kind:=by unfold LU;rw [m,decide_eq_true ⟨i,j⟩];rfl
 have p:nG R.ram.length R.cs.length R.cs (gg R.cs R.pr kind) kind:=by unfold nG bm;rw [v,f,d,u];unfold jp;rcases (show kind=1\/kind=2\/kind=3 by omega) with rfl|rfl|rfl<;>rfl
 refine (TK (cq R addr kind).addr (cq R addr kind).code (gg R.cs R.pr kind) (bz R.ram (cq R addr kind)) addr kind l h.row (λW b=>?_) (λW b=>?_)).mono λe w' ⟨x,c,q,k,o⟩=>⟨_,q,h.ram k o⟩;·have:=mC A.ac R.cs.length A.cc R.cs R.pr kind W rfl (h.iv b rfl).sl.cs a.mw.cs;rw [r] at this;exact this
 ·have:=rH A.ar R.ram.length A.cr R.ram A.ac R.cs.length A.cc R.cs (gg R.cs R.pr kind) addr kind W rfl a.len.ram (h.iv b rfl).sl.ram a.mw.ram rfl (h.iv b rfl).sl.cs a.mw.cs s (h.iv b rfl).tab h.good;unfold GW GX vI at this;rw [p,JZ8 rfl,JZ8 rfl,JZ8 rfl] at this;exact this
theorem DK (h:Tq n E B R c L w) (d:R.x.length=32) (q:0<=L.ra) (A:L.ra<=31) (f:Wf) (g:Nat) (s:Bool) (hn:g=4\/g=8) (z:L.fm=nu f g s) (hz:((R.x.getD L.ra.toNat 0).tmod g != 0)): I1 prog 194 #[.p E 0] w λe w'=>e=.returned (.tuple #[.u 0,.bool false])/\Tq n E B R c {L with up:=true,cz:=6,vl:=R.x.getD L.ra.toNat 0} w':=by
 have m:=λW (h:Tq n E B R c L W)=>TM h d q A;generalize R.x.getD L.ra.toNat 0=a at *;have C:Uz.wrap (g:Int)=g:=by rw [IntKind.wrap_u64];omega
 have j:(g:Int)≠0:=ab
 refine br (S:=Tq n E B R c L) (args:=[.p E 0]) [] func194 ?_;refine aP 0 1 ?_;cases f;all_goals
  refine ae (Tq.eng (dr:=true)) {cv:=[(5,ue m),(7,ue λW i=>rD _ g s z i.row)]} 60 h λp r=>?_
  refine oK (AJ g s p) ba λe F b=>⟨_,0,b.1,gi ba,?_⟩
  have u:=r.below b.2
  refine aT (Tq.eng (dr:=true)) {eq:=[(9,cR .u64 C),(11,an hz)],ov:=[(10,Lh .u64 a g j)],cv:=[(13,O0 λW _=>(hC 3 (.inr (.inr rfl)) W).mono λe w' k=>⟨k.1,by rw [k.2];exact G1 _ _⟩),(15,ue m)]} 60 u (λW i=>km 6 a i.row) λD e G x b=>⟨_,0,b.1,gi ba,?_⟩
  have l:=x.iv b.2 rfl
  refine aL (λ_=>True) ?_
  exact iS (Iv.one l.row) {} 40 λw0 a y o=>⟨.tuple #[.u 0,.bool false],by rw [I5 rfl,o.slot (v:=.u 0) ba,o.slot (v:=.bool false) ba],rfl,l.iv y rfl⟩
theorem IB {M:MV} (h:Tq n E B M c L w) (d:Gd M) (i:L.ld=.func (.func 122) #[] #[]) (u:0<=L.ra) (b:L.ra<=31) (f:Wf) (g:Nat) (s:Bool) (hn:g=4\/g=8) (w0:L.fm=nu f g s) (hz:((M.x.getD L.ra.toNat 0).tmod g != 0)=false): I1 prog 194 #[.p E 0] w λe w'=>∃ C,e=.returned (.tuple #[.u (if (cq M (M.x.getD L.ra.toNat 0) 3).code != 0 then 0 else (cq M (M.x.getD L.ra.toNat 0) 3).addr),.bool (!((cq M (M.x.getD L.ra.toNat 0) 3).code != 0))])/\Tq n E B (dA M (M.x.getD L.ra.toNat 0) 3) C (zi L (cq M (M.x.getD L.ra.toNat 0) 3).code (M.x.getD L.ra.toNat 0)) w':=by
 have A:=d.x32;have l:=λW (h:Tq n E B M c L W)=>TM h A u b;have k:=λW (h:Tq n E B M c L W)=>OA h d i (M.x.getD L.ra.toNat 0) 3 bc bc (d.ux _);generalize M.x.getD L.ra.toNat 0=a at *;have F:Uz.wrap (g:Int)=g:=by rw [IntKind.wrap_u64];omega
 have j:(g:Int)≠0:=ab
 generalize (if (cq M a 3).code != 0 then 0 else (cq M a 3).addr)=p at *;generalize (!((cq M a 3).code != 0))=q at *;refine br (S:=Tq n E B M c L) (args:=[.p E 0]) [] func194 ?_;refine aP 0 1 ?_;cases f;all_goals
  refine ae (Tq.eng (dr:=true)) {cv:=[(5,ue l),(7,ue λW D=>rD _ g s w0 D.row)]} 60 h λr x=>?_
  refine oK (AJ g s r) ba λe I o=>⟨_,0,o.1,gi ba,?_⟩
  have y:=x.below o.2
  refine aT (Tq.eng (dr:=true)) {eq:=[(9,cR .u64 F),(11,an hz)],ov:=[(10,Lh .u64 a g j)],cv:=[(19,ue l)]} 60 y k ?_
  rintro G e J H ⟨C,rfl,z⟩
  refine ⟨_,0,rfl,gi ba,?_⟩
  refine ix (R:=[]) trivial {} 40 λa m=>⟨.tuple #[.u p,.bool q],by rw [I5 rfl,m.slot (v:=.u p) ba,m.slot (v:=.bool q) ba],C,rfl,z⟩
theorem iM {cf:Bool} {k:Nat} (h:L.up) (a:L.cz=k):ut cf R L=(aR R k false L.vl,2):=by unfold ut;rw [JZ8 h,a,Int.toNat_natCast]
theorem jk (h:t.up=false):ut false R t=(aZ R t.rd t.rs t.nx,1):=by unfold ut;rw [h];rfl
theorem lF {rd to:Int}:aZ M rd (M.x.getD rd.toNat 0) to=aZ M 0 0 to:=by
 unfold aZ;congr 1;by_cases e:rd=0;·rw [JZ8 e,JZ8 rfl]
 ·rw [JZ9 e,JZ8 rfl];by_cases a:rd.toNat<M.x.length;·exact mY M.x rd.toNat a
  ·exact List.set_eq_of_length_le ab
theorem nj {cf:Bool} {i:Ins} {X:Int × MV × Int} {a n kind:Int} (f:aH M a n kind x=X) (g:Gd M) (e:(X.2.2 != 0)) (d:t.rd=i.rd) (b:t.fm=eM i.op):Pf cf (cH X 0 a) i X.2.1 (nU t X a):=by subst f;have c:=kq (M:=M) (addr:=a) (size:=n) (kind:=kind) (x:=x) rfl e;unfold nU;rw [e];exact ⟨iM rfl c.1,g.acc a n kind x,d,b,λ_=>⟨_,c.2,c.1⟩⟩
theorem Gk {F:MV->TV->Prop} {R:List Rw} (b:fN w R) (H:Hn S (λx=>x=w) (λx=>x=w)) (m:Nat) (hx:(iw o,(be S R H n false m o Q).1.1)=(true,true)) (he:(be S R H n false m o Q).2.map S2=(be S R H n false m o Q).2.map S5) (hr:l.results=#[]) {M':MV} {A':MA} {t':TV} (h:Tq E V B M' A' t' w) (c:F M' t'):Wg S a (L6 S l (TR E V B F)) n o Q w :=
 ix b H m (hx:=hx) (he:=he) λP _=>⟨_,R4 hr _ _ _,rfl,M',A',t',c,h⟩
theorem TO {M:MV} (m:jT e) (z:e.op=63\/e.op=74) (h:Tq n E B M c (t0 M e p) w) (l:Gd M) (hd:Ud M.d): I1 prog 162 #[.p E 0] w (TR n E B (Pf false (UR M e (M.x.getD e.a.toNat 0)) e)):=by
 obtain ⟨g,r⟩:∃ g,g=bC e.op:=⟨_,rfl⟩;have hn:g=4\/g=8:=by rw [r];unfold bC;split<;>simp
 obtain ⟨wn,ws⟩:=(Iy m.op1 m.op98).2.2.2.2 ab;have V:eM e.op=nu .hd g true:=by unfold eM;rw [JZ9 ab,JZ9 ab,JZ9 ab,JZ9 ab,JZ9 ab,JZ8 ab,JZ8 z,wn,ws,r]
 have o:=l.x32;have F:=l.ux e.a.toNat;have s:=λW (h:Tq n E B M c (t0 M e p) W)=>TM h o m.a0 m.a31;have Y:=λW (h:Tq n E B M c (t0 M e p) W)=>Gj h l rfl .hd g true ab V (M.x.getD e.a.toNat 0) F;have H:UR M e (M.x.getD e.a.toNat 0)=if ((aH M (M.x.getD e.a.toNat 0) g 2 0).2.2 != 0)=true then cH (aH M (M.x.getD e.a.toNat 0) g 2 0) 0 (M.x.getD e.a.toNat 0) else (aZ (cn (dA (aH M (M.x.getD e.a.toNat 0) g 2 0).2.1 (M.x.getD e.a.toNat 0) 2) true (cq (aH M (M.x.getD e.a.toNat 0) g 2 0).2.1 (M.x.getD e.a.toNat 0) 2).addr) e.rd (ay (8*g) (aH M (M.x.getD e.a.toNat 0) g 2 0).1) (Uz.wrap (M.pc+4)),1):=by rw [r];rfl
 rw [H];clear H;have I:=l.acc (M.x.getD e.a.toNat 0) g 2 0;have K:=(jc M (M.x.getD e.a.toNat 0) g 2 0).2.1;have v:=Gi l (a:=M.x.getD e.a.toNat 0) (n:=g);have w0:=λX (T:aH M (M.x.getD e.a.toNat 0) g 2 0=X) k=>nj (cf:=false) (i:=e) (t:=t0 M e p) T l k rfl rfl;generalize P:M.x.getD e.a.toNat 0=a at *;generalize aH M a g 2 0=X at *;obtain ⟨y,N,A⟩:=X;dsimp only at *;refine fy (args:=[.p E 0]) (Tq n E B M c (t0 M e p)) func162 ?_;refine aP 0 1 ?_;refine aT (Tq.eng (dr:=true)) {cv:=[(7,ue s)]} 60 h Y ?_;rintro W1 i W2 h1 ⟨C,rfl,d⟩;refine ⟨_,0,rfl,gi ba,?_⟩;cases k:(A != 0) with
 | true =>rw [JZ8 rfl];unfold t8 at d;dsimp only at d;rw [k,JZ8 rfl] at d;exact Gk (R:=[]) trivial {} 40 ba ba rfl d (w0 _ rfl k)
 | false =>rw [JZ9 bc];unfold t8 at d;dsimp only at d;rw [k,JZ9 bc,JZ8 rfl] at d;have O:A=0:=(by simpa using k);have u:=v O;obtain ⟨f,b⟩:∃ f:TV,f={t0 M e p with rs:=ay (8*g) y}:=⟨_,rfl⟩;have j:f.ra=e.a:=(by rw [b];rfl);have x:f.ld=.func (.func 122) #[] #[]:=(by rw [b];rfl);rw [<- b] at d;have wd:=λW (h:Tq n E B N C f W)=>TM h (by rw [K];exact o) (by rw [j];exact m.a0) (by rw [j];exact m.a31);rw [j,K,P] at wd;have q:=λW (h:Tq n E B N C f W)=>OA h I x a 2 bc bc F;have Q:Gd (dA N a 2):=I.marked _;have Z:U (cq N a 2).addr:=uE _ _ _ _ _ _ F;rw [u] at q;generalize (cq N a 2).addr=L at *;generalize dA N a 2=G at *;refine aL (Tq n E B N C f) ?_;refine aT (Tq.eng (dr:=true)) {cv:=[(18,ue wd)]} 60 d q ?_;rintro W3 i W4 h3 ⟨D,rfl,J⟩;refine ⟨_,0,rfl,gi ba,?_⟩;refine aL (λ_=>True) ?_;refine gt (R1:=[⟨E,bI (cn G true L) D f,[]⟩]) (Iv.one J.row) {} 60 λW5 S=>⟨rfl,cn G true L,D,f,?_,J.iv S rfl⟩;refine ⟨?_,Q.hold Z (Or.inl rfl),by rw [b];rfl,by rw [b];rfl,λi=>by rw [b] at i;cases i⟩;rw [jk (by rw [b];rfl),b];rfl
