/- Own lemmas. -/
import Derived.Test.YtjifdmoehfbihaaGreatDoorAut
import Derived.Test.YtjifdmoehfbihaaGreatDoorK26
import Derived.Test.YtjifdmoehfbihaaGreatDoorK28
set_option maxRecDepth 100000
set_option maxHeartbeats 12800000
namespace Go.Proofs.YtjifdmoehfbihaaGreatDoor
open Go.RowKit Tryz
open IntKind renaming u64->Uz
set_option linter.unusedVariables false
theorem zC (M:MV) (A:MA) (B r:Nat) (w:World) (a:M.cs.length=22) (hl:j7 M) (h:Mp B r M A w):Calls prog 254 #[.p r 0] w λe b=>e=.returned (.tuple #[])/\Mp B r (hO M) A b/\Kx r (aI M A) (aI (hO M) A) w b:=by have d:=jj (M:=M) (M':=hO M) (A:=A) rfl (IT M) rfl rfl rfl;refine (wZ M A r B w.heap.size w a hl h.row h.fam h.ne).mono λe b ⟨i,j,k,c⟩=>⟨i,⟨j,k.low (Nat.le_refl _) c.size,?_,h.lo⟩,Kx.of_keepL c d⟩;intro q l e;obtain ⟨m,g,f⟩:=d q l;exact h.ne m g (by rw [f];exact e)
structure Un (M:MV):Prop where
 h22:M.cs.length=22
 U9:U (M.cs.getD 9 0)
 bells:ls M=true
 ok:nD M.d.xs.length M.d.ys.length M.d.ir=true
 ram:aU M.ram.length=true
 len:j7 M
 wram:∀ y ∈ M.ram,(Lit.int .u8 y).wf=true
 wd:dH M.d
 hd:U M.hd
theorem Mp.shape {B r:Nat} {M:MV} {A:MA} {w:World} (h:Mp B r M A w) (k:0<M.ram.length):∃ g,A.ar=some ⟨g,0,none⟩/\M.ram.length<=A.cr/\A.cr<=9223372036854775807:=by
 have f:=h.fam.own (aF A.ar M.ram.length A.cr M.ram) dm;have d:=B9 (w:=w) (a:=A.ar) (c:=A.cr) f;rcases f.2 with ⟨e,j⟩|⟨b,cap,i,e,_⟩;·have:M.ram.length=0:=j;omega
 ·have e2:Value.slice A.ar M.ram.length A.cr=.slice (some ⟨b,0,none⟩) M.ram.length cap:=e;injection e2 with e3
  exact ⟨b,e3,d.2.1,by have:=d.2.2;unfold maxLen at this;exact this⟩
theorem RS {B r:Nat} {M:MV} {A:MA} {w:World} (a:Un M) (pa size:Int) (c:U pa) (h:Mp B r M A w):CB 188 #[.slice A.ar M.ram.length A.cr,.u pa,.i size] w (.tuple #[.u (mt M.ram M.ram.length pa size),.bool (gn M.ram.length pa size)]):=by obtain ⟨g,b,f,i⟩:=h.shape (Ew a.ram);have d:=h.fam.msl.ram;rw [b] at d;rw [b];exact pK g M.ram.length A.cr M.ram pa size w rfl a.len.ram d a.wram f i c.1 (by have:=c.2;omega)
theorem Jg (M:MV) (A:MA) (B r:Nat) (pa size kind x:Int) (w:World) (hm:Mp B r M A w) (d:Un M) (L:iW size=true) (hk:kind=1\/kind=2\/kind=3) (o:U pa) (hx:U x):Calls prog 235 #[.p r 0,.u pa,.i size,.i kind,.u x] w λe a=>e=.returned (.tuple #[.u (BM M pa size kind x).1,.bool (BM M pa size kind x).2.1])/\∃ c,Mp B r (BM M pa size kind x).2.2 c a/\Kx r (aI M A) (aI (BM M pa size kind x).2.2 c) w a:=by
 have f:=d.len
 have q:uo M.d pa size=jc M.d (gj pa size):=by unfold uo;rw [d.ok];rfl
 have u:qX M.d pa size x=fI M.d x (gj pa size):=by unfold qX;rw [d.ok];rfl
 have D:=λa (h:Mp B r M A a)=>RS (A:=A) (w:=a) d pa size o h
 rcases hk with rfl|rfl|rfl
 ·refine (Ob M A B r pa size x _ _ w hm D).mono λe a h=>?_
  unfold BM mt at *
  revert h
  cases gn M.ram.length pa size<;>intro h<;>exact h
 ·obtain ⟨g,i⟩:∃ X,X=if (jc M.d (gj pa size)).2.2=true then cP M (jc M.d (gj pa size)).2.1 else M:=⟨_,rfl⟩
  have p:g.cs.length=22:=by rw [i];split<;>exact d.h22
  have z:j7 g:=by
   rw [i]
   have:=LF M.d (gj pa size) f.xs f.ys
   split
   ·exact ⟨f.x,f.cs,f.ram,this.1,this.2⟩
   ·exact f
  have G:∀ a,Mp B r M A a->Calls prog 253 #[.p r 5,.u pa,.i size] a λe b=>e=.returned (.tuple #[.u (jc M.d (gj pa size)).1,.bool (jc M.d (gj pa size)).2.2])/\∃ c,Mp B r g c b/\Kx r (aI M A) (aI g c) a b:=λa h=>by
   rw [i]
   refine N8 M A B r pa size _ (jc M.d (gj pa size)).2.1 _ a h (λb k=>?_)
   have l:=tw M.d A.ai A.ci A.ao A.co pa size b f.xs f.ys d.wd k.fam.msl.xs k.fam.msl.ys
   rw [q] at l
   exact l
  have v:=λ(c:MA) a (h:Mp B r g c a)=>zC g c B r a p z h
  refine (Oc M A B r pa size x _ _ g (hO g) _ _ w hm D G v).mono λe a h=>?_
  have e3:hO g=if (jc M.d (gj pa size)).2.2=true then cC (cP M (jc M.d (gj pa size)).2.1) else M:=by
   rw [i]
   cases m:(jc M.d (gj pa size)).2.2 with
   | true=>rw [if_pos rfl,if_pos rfl];exact qD (Gq M.d _ d.ok m)
   | false=>rw [if_neg bb,if_neg bb];rw [qD d.ok];exact ye d.h22 d.U9 d.bells
  rw [e3] at h
  have C:(jc M.d (gj pa size)).2.2=false->(jc M.d (gj pa size)).1=0:=RL M.d _
  unfold BM mt at *
  revert h C
  cases gn M.ram.length pa size<;>cases (jc M.d (gj pa size)).2.2<;>intro h C
  ·rw [C rfl] at h;exact h
  ·exact h
  ·exact h
  ·exact h
 ·obtain ⟨R,j⟩:∃ R,R=kj M.ram M.ram.length pa size x:=⟨_,rfl⟩
  have s:R.length<=1048576:=by rw [j];exact CJ _ _ _ _ _ rfl f.ram
  have n:=Gi M.d x f.xs (yB d.ok).2.1 (gj pa size)
  have t:=λa (h:Mp B r M A a)=>wq A.ar M.ram.length A.cr M.ram pa size x a rfl f.ram h.fam.msl.ram o.1 (by have:=o.2;omega) hx.1 (by have:=hx.2;omega)
  unfold iC at t
  simp only [<- j] at t
  have I:=λa (h:Mp B r M A a)=>N9 M A B r pa size x (fI M.d x (gj pa size)).1 (fI M.d x (gj pa size)).2 a h (λb k=>by
   have l:=rG M.d A.ai A.ci A.ao A.co pa size x b f.xs f.ys d.wd k.fam.msl.xs k.fam.msl.ys
   rw [u] at l
   exact l)
  have v:∀ (X:MV) (c:MA) a,Mp B r X c a->(X=bL M R\/X=cP M (fI M.d x (gj pa size)).1)->Calls prog 254 #[.p r 0] a λe b=>e=.returned (.tuple #[])/\Mp B r (hO X) c b/\Kx r (aI X c) (aI (hO X) c) a b:=λX c a h y=>by
   rcases y with rfl|rfl
   ·exact zC _ c B r a d.h22 ⟨f.x,f.cs,s,f.xs,f.ys⟩ h
   ·exact zC _ c B r a d.h22 ⟨f.x,f.cs,f.ram,n.1,n.2⟩ h
  have F:∀ (X:MV) (c:MA) a,Mp B r X c a->(X=hO (bL M R)\/X=hO (cP M (fI M.d x (gj pa size)).1))->Calls prog 284 #[.p r 0,.u pa] a λe b=>e=.returned (.tuple #[])/\Mp B r (mB X pa) c b/\Kx r (aI X c) (aI (mB X pa) c) a b:=λX c a h y=>by
   have K:U X.hd:=by rcases y with rfl|rfl<;>exact d.hd
   exact Ku X c B r pa (lq X pa) a h (OT X pa o K)
  have H:=λa (h:Mp B r M A a)=>Q6 M A B r pa size x R (fI M.d x (gj pa size)).1 (gn M.ram.length pa size) (fI M.d x (gj pa size)).2 hO (λX=>mB X pa) a h t I v F
  refine (Oa M _ A B r pa size x _ w hm H).mono λe a h=>?_
  have E:hO (bL M R)=bL M R:=by
   have J:ls (bL M R)=true:=d.bells
   rw [qD (M:=bL M R) d.ok]
   exact ye (M:=bL M R) d.h22 d.U9 J
  have e2:(fI M.d x (gj pa size)).2=true->hO (cP M (fI M.d x (gj pa size)).1)=cC (cP M (fI M.d x (gj pa size)).1):=λm=>qD (M:=cP M (fI M.d x (gj pa size)).1) (Gr M.d x pa size d.ok m)
  have e4:gn M.ram.length pa size=true->R=jZ M.ram (pa-2147483648).toNat x size.toNat:=λm=>by rw [j];unfold kj;rw [m];rfl
  rw [E] at h
  unfold BM
  revert h e2 e4
  cases gn M.ram.length pa size<;>cases (fI M.d x (gj pa size)).2<;>intro h e2 e4
  ·exact h
  ·rw [e2 rfl] at h;exact h
  ·rw [e4 rfl] at h;exact h
  ·rw [e4 rfl] at h;exact h
structure Sa (w:World) (cs:Array Value) (W:World):Prop where
 m:W.heap[w.heap.size]?=some (.cells cs 32 (0,0))
 r:∃ old,old.size=14/\W.heap[w.heap.size+1]?=some (.cells old 32 (0,0))
 b:Bw w W
section
variable {w W W' : World} {cs : Array Value}
theorem Sa.below (h:Sa w cs W) (hb:Bw W W'):Sa w cs W' :=
 ⟨bA hb h.m,let ⟨o,a,b⟩:=h.r;⟨o,a,bA hb b⟩,aa h.b hb⟩
theorem Sa.out (h:Sa w cs W) (d:Array Value) (hd:d.size=14):Sa w cs (W.setRow (w.heap.size+1) d):=
 ⟨(setRow_other W _ _ d ab).trans h.m,let ⟨o,b,a⟩:=h.r;⟨d,hd,setRow_heap _ _ o _ _ _ a⟩,bm h.b ab d⟩
theorem Sa.ez:Ez (Sa w cs) [⟨w.heap.size,cs,[]⟩]:=
 ⟨λW h r a=>by rw [List.mem_singleton] at a;subst a;exact ⟨_,_,h.m⟩,λW h=>h.below (Below.refl _ _).drew⟩
theorem Sa.eng {P:Program} {fn:Func} {Rs:Ending->World->Prop}:nE P (Sa w cs) (Sa w cs) [⟨w.heap.size,cs,[]⟩] true (bodyPost P fn Rs):=⟨λ_ h=>h,Sa.ez.rows,λ_=>Sa.ez.drew,ct⟩
theorem Sa.start:Sa w cs (bM w [(cs,32),(aq zeroM zeroA,32)]):=by obtain ⟨a,b⟩:=Bs.start w [(cs,32),(aq zeroM zeroA,32)];exact ⟨a 0 _ rfl,⟨_,rfl,a 1 _ rfl⟩,b⟩
theorem Sa.two (h:Sa w cs W):w.heap.size+2<=W.heap.size:=by obtain ⟨o,_,a⟩:=h.r;have:=(Array.getElem?_eq_some_iff.1 a).1;omega
end
structure Sc (w:World) (cs:Array Value) (B r:Nat) (M:MV) (A:MA) (W:World):Prop where
 a:Sa w cs W
 mp:Mp B r M A W
 lo:w.heap.size+2<=B
section
variable {w W W' : World} {cs : Array Value} {B r : Nat} {M : MV} {A : MA}
theorem Sc.below (h:Sc w cs B r M A W) (hb:Bw W W'):Sc w cs B r M A W':=⟨h.a.below hb,h.mp.below hb,h.lo⟩
theorem Sc.out (h:Sc w cs B r M A W) (d:Array Value) (hd:d.size=14):Sc w cs B r M A (W.setRow (w.heap.size+1) d):=by have a:=h.mp.lo;have f:=h.lo;refine ⟨h.a.out d hd,⟨(setRow_other W _ _ d ab).trans h.mp.row,?_,h.mp.ne,h.mp.lo⟩,h.lo⟩;exact (h.mp.fam.mono λk b c e=>setRow_other W _ _ d ab).low (Nat.le_refl _) la
theorem Sc.ez:Ez (Sc w cs B r M A) [⟨w.heap.size,cs,[]⟩,⟨r,aq M A,[]⟩]:=
 ⟨λW h q a=>by
  simp only [List.mem_cons,List.not_mem_nil,or_false] at a
  rcases a with rfl|rfl
  ·exact ⟨_,_,h.a.m⟩
  ·exact ⟨_,_,h.mp.row⟩,λW h=>h.below (Below.refl _ _).drew⟩
theorem Sc.eng {P:Program} {fn:Func} {Rs:Ending->World->Prop}:nE P (Sc w cs B r M A) (Sc w cs B r M A) [⟨w.heap.size,cs,[]⟩,⟨r,aq M A,[]⟩] true (bodyPost P fn Rs):=⟨λ_ h=>h,Sc.ez.rows,λ_=>Sc.ez.drew,ct⟩
end
theorem bx.set1 {B E g:Nat} {w:World} {L:List FRow} (h:bx B E w L) (cs:Array Value) (b:g<B):bx B E (w.setRow g cs) L:=h.mono λk a _ _=>setRow_other w g k cs ab
theorem Dw.fam {B E:Nat} {w W:World} {L:List FRow} (h:bx B E w L) (d:Dw w W):bx B E W L:=by obtain ⟨j,rfl⟩:=d;exact h.mono λ_ _ _ _=>rfl
theorem Dw.size {w W:World} (d:Dw w W):W.heap.size=w.heap.size:=by obtain ⟨j,rfl⟩:=d;rfl
theorem Sa.dw {w W V:World} {cs:Array Value} (h:Sa w cs W) (d:Dw W V):Sa w cs V:=by obtain ⟨j,rfl⟩:=d;exact ⟨h.m,h.r,⟨h.b.os,h.b.tape,h.b.output,h.b.size,h.b.block⟩⟩
abbrev xe (w:World) (V:Int × MV × Int):Ending->World->Prop:=λe a=>∃ C,e=.returned (.tuple #[.u V.1,.agg (aq V.2.1 C),.i V.2.2])/\bx w.heap.size a.heap.size a (aI V.2.1 C)/\Bw w a
theorem Sc.fin {w W d V:World} {cs:Array Value} {B r:Nat} {M:MV} {A:MA} {y c:Int} {U:Int × MV × Int} (h:Sc w cs B r M A W) (a:Dw W d) (b:Dw (d.setRow (w.heap.size+1) (aq M A)) V) (e:U=(y,M,c)):xe w U (.returned (.tuple #[.u y,.agg (aq M A),.i c])) V:=by subst e;have i:=(a.fam h.mp.fam).set1 (g:=w.heap.size+1) (aq M A) (by have:=h.lo;omega);have f:=bm (h.a.dw a).b (g:=w.heap.size+1) ab (aq M A);refine ⟨A,rfl,(b.fam i).low (by have:=h.lo;omega) ?_,b.below f⟩;rw [b.size,setRow_size,a.size];exact Nat.le_refl _
theorem zD (M:MV) (A:MA) (addr size kind x:Int) (w:World) (hl:j7 M) (hs:sa w M A) (r:MW M) (c:vC M size kind=false):Calls prog 200 #[.func (.func 40) #[] #[],.agg (aq M A),.u addr,.i size,.i kind,.u x] w (xe w (0,zeroM,99)):=by
 have f:=λW (h:Sa w (aq M A) W)=>gT M A W hl (hs.below h.b) r.cs;have g:=λW (_:Sa w (aq M A) W)=>gx size W;have e:=λW (_:Sa w (aq M A) W)=>BZ kind W;unfold vC at c;generalize ey M=i at *;generalize iW size=j at *;generalize decide (1<=kind/\kind<=3)=k at *;generalize n:(kind==1)=l at *;generalize q:(size != 4)=m at *;refine bz (S:=Sa w (aq M A)) [(aq M A,32),(aq zeroM zeroA,32)] func200 ?_;cases i;case' true =>
  cases j;case' true =>
   cases k;case' true =>
    cases l;case' false=>cases c
    case' true =>cases m;case' false=>cases c
 all_goals
  refine ae Sa.eng {eq:=[(37,aj n),(40,aj q)],cv:=[(23,jy Sa.below f),(27,jS g),(32,jS e)]} 300 Sa.start λt d=>?_
  refine lR (s:=12) (p:=13) (u:=14) (T:=32) (cs:=aq zeroM zeroA) (v1:=.u 0) (v2:=.i 99) Sa.ez d {} 40 (λW h=>h.out _ rfl) (λW h=>let ⟨o,a,b⟩:=h.r;⟨o,_,a,b⟩) al (eX _ _) underlying32 rfl rfl al al al λW V a b=>?_
  exact ⟨zeroA,rfl,oU _ _ _,b.below (bm (d.dw a).b ab _)⟩
theorem Sa.fin {w W d V:World} {cs:Array Value} {B:Nat} {M:MV} {A:MA} {y c:Int} {U:Int × MV × Int} (h:Sa w cs W) (i:bx B W.heap.size W (aI M A)) (k:w.heap.size+2<=B) (a:Dw W d) (b:Dw (d.setRow (w.heap.size+1) (aq M A)) V) (e:U=(y,M,c)):xe w U (.returned (.tuple #[.u y,.agg (aq M A),.i c])) V:=by subst e;have j:=(a.fam i).set1 (g:=w.heap.size+1) (aq M A) ab;have f:=bm (h.dw a).b (g:=w.heap.size+1) ab (aq M A);refine ⟨A,rfl,(b.fam j).low ab ?_,b.below f⟩;rw [b.size,setRow_size,a.size];exact Nat.le_refl _
theorem Sa.set {w W:World} {cs:Array Value} (h:Sa w cs W) (r:Nat) (hr:w.heap.size+2<=r) (d:Array Value):Sa w cs (W.setRow r d):=
 ⟨(setRow_other W _ _ d ab).trans h.m,let ⟨o,a,b⟩:=h.r;⟨o,a,(setRow_other W _ _ d ab).trans b⟩,bm h.b ab d⟩
theorem xf (M:MV) (A:MA) (addr size kind x:Int) (w:World) (hl:j7 M) (hs:sa w M A) (I:MW M) (hhd:U M.hd) (ha:U addr) (hx:U x) (hT:qV w) (hgd:vL M.ram.length A.ar A.cr) (hmk:ey M=true) (N:iW size=true) (L:1<=kind/\kind<=3) (b4 b5:Bool) (h4:(kind==1)=b4) (h5:(size != 4)=b5) (h45:(b4&&b5)=false):Calls prog 200 #[.func (.func 40) #[] #[],.agg (aq M A),.u addr,.i size,.i kind,.u x] w (xe w (aC M addr size kind x)):=by
 have HK:=λW (h:Sa w (aq M A) W)=>gT M A W hl (hs.below h.b) I.cs;have HS:=λW (_:Sa w (aq M A) W)=>gx size W;have HI:=λW (_:Sa w (aq M A) W)=>BZ kind W;rw [hmk] at HK;rw [N] at HS;rw [decide_eq_true L] at HI;obtain ⟨n,P,hpr,hr0,hd0,hb0⟩:=ay hmk;have f:kind=1\/kind=2\/kind=3:=ab
 have hs5:size=1\/size=2\/size=4\/size=8:=of_decide_eq_true N;have hp:=vt (I.cs 0) P hpr kind;obtain ⟨V,Y⟩:∃ V,V=aC M addr size kind x:=⟨_,rfl⟩;rw [<- Y];unfold aC at Y;have hwr:Uz.wrap size=size:=by rcases hs5 with rfl|rfl|rfl|rfl<;>decide +kernel
 have hmod:addr.tmod size=addr%size:=by rw [Int.tmod_eq_emod_of_nonneg ha.1]
 obtain ⟨p,Q⟩:∃ p,fR M.cs M.pr kind=p:=⟨_,rfl⟩;obtain ⟨G,hG⟩:∃ G,bW M.ram M.ram.length M.cs p addr kind=G:=⟨_,rfl⟩;have hga:U G.addr:=by rw [<- hG];exact tM _ _ _ _ _ _ ha
 have hlg:aX 22 M.cs p=true:=by unfold aX;rw [P,<- Q,hp];rfl
 have hwk:mY M.ram.length M.cs.length M.cs p kind=true:=by unfold mY;rw [hr0,n,hlg];unfold iU;simpa using L
 have HE:∀ W,Sa w (aq M A) W->CB 234 #[.slice A.ac M.cs.length A.cc,.i M.pr,.i kind] W (.i p):=λW h=>by have h:=lW A.ac M.cs.length A.cc M.cs M.pr kind W rfl (hs.cs.below h.b) I.cs;unfold Kj at h;rw [n,show aX 22 M.cs M.pr=true by unfold aX;rw [P,hpr];rfl,decide_eq_true L,Q] at h;rw [n];exact h
 have HW:∀ W,Sa w (aq M A) W->Calls prog 40 #[.slice A.ar M.ram.length A.cr,.slice A.ac M.cs.length A.cc,.i p,.u addr,.i kind] W λe c=>∃ D E,e=.returned (.tuple #[.u G.addr,.i G.code,.slice D (bn M.ram G).length E])/\bx W.heap.size c.heap.size c [aF D (bn M.ram G).length E (bn M.ram G)]/\Bw W c:=λW h=>by have h:=qL A.ar M.ram.length A.cr M.ram A.ac M.cs.length A.cc M.cs p addr kind W rfl hl.ram (hs.ram.below h.b) I.ram rfl (hs.cs.below h.b) I.cs ha (hT.below h.b) hgd;unfold FC FD uT at h;rw [hwk] at h;simp only [if_true,hG] at h;exact h.mono λe c ⟨D,E,h1,h2,h3⟩=>⟨D,E,h1,(bx.nil W.heap.size W.heap.size c).snoc (aF D (bn M.ram G).length E (bn M.ram G)) _ _ h2 (Nat.le_refl _) (Nat.le_refl _) (Nat.le_refl _) h3.size,h3⟩
 have HP:∀ W,Sa w (aq M A) W->CB 189 #[.slice A.ac M.cs.length A.cc,.i p,.u G.addr,.i size,.i kind] W (.bool (!Ir M.cs p G.addr size kind)):=λW h=>by have h:=ky A.ac M.cs.length A.cc M.cs p G.addr size kind W rfl (hs.cs.below h.b) I.cs hga (hT.below h.b);rw [n,LT M.cs p G.addr size kind hlg N (decide_eq_true L)] at h;rw [n];exact h
 have HCC:=λW (_:True)=>gJ kind f W;have HAC:=λW (_:True)=>mZ kind f W;have qc:IntKind.i64.wrap ((if kind=1 then 0 else if kind=2 then 4 else 6)+16)=n8 kind:=by rcases f with rfl | rfl | rfl<;>decide +kernel
 have qa:IntKind.i64.wrap ((if kind=2 then 5 else if kind=3 then 7 else 1)+16)=gR kind:=by rcases f with rfl|rfl|rfl<;>decide +kernel
 have qg:IntKind.i64.wrap (G.code+16)=wrap64 (G.code+16):=by simp only [IntKind.wrap_i64,wrap64]
 rw [Q,hG] at Y;refine bz (S:=Sa w (aq M A)) [(aq M A,32),(aq zeroM zeroA,32)] func200 ?_;generalize h6:(addr%size != 0)=b6 at *;have h6':(addr.tmod size != 0)=b6:=by rw [hmod];exact h6
 cases b6 with
 | true =>
   cases b4<;>cases b5;case true.true=>cases h45
   all_goals
    refine aN (Rc:=λW e g=>∃ (a':Option Addr) (c':Nat),e=.returned (.slice a' M.ram.length c')/\g.ownsRow W.heap.size 5 1 (.slice a' M.ram.length c') M.ram.length (M.ram.map (Value.int .u8))/\Bw W g) Sa.eng {eq:=[(37,aj h4),(40,aj h5),(46,dI .u64 hwr),(48,aj h6')],ov:=[(47,NC .u64 addr size ab)],cv:=[(23,jy Sa.below HK),(27,jS HS),(32,jS HI)]} 300 Sa.start (λW h=>oT A.ar _ A.cr M.ram W rfl hl.ram (hs.ram.below h.b)) λi e w1 F B=>?_
    obtain ⟨a1,c1,rfl,ho1,l⟩:=B
    have J:=F.below l
    refine ⟨_,0,rfl,λ_=>J,?_⟩
    have F1:=(bx.nil i.heap.size i.heap.size w1).snoc (aF a1 M.ram.length c1 M.ram) _ w1.heap.size ho1 (Nat.le_refl _) (Nat.le_refl _) (Nat.le_refl _) l.size
    refine tH (Rc:=λW e g=>∃ C:MA,C.ar=a1/\C.cr=c1/\e=.returned (.agg (aq (tz M M.ram) C))/\bx i.heap.size g.heap.size g (aI (tz M M.ram) C)/\(∀ q ∈ aI (tz M M.ram) C,∀ k,q.v.ownBlock=some k->W.heap.size<=k\/(Value.slice a1 M.ram.length c1).ownBlock=some k)/\Bw W g) Sa.ez J {} 60 (λW d=>rJ M A M.ram a1 M.ram.length c1 i.heap.size W hl (hs.below (J.dw d).b) (by rw [d.size];exact d.fam F1) (by rw [d.size];exact l.size) rfl) λW1 e w2 d1 B=>?_
    obtain ⟨C,hC1,hC2,rfl,Z,F2n,H⟩:=B
    have O:=(J.dw d1).below H
    refine ⟨_,0,rfl,O,?_⟩
    refine lR (s:=12) (p:=13) (u:=14) (T:=32) (cs:=aq M C) (v1:=.u 0) (v2:=.i (n8 kind)) Sa.ez O {eq:=[(56,dI .i64 qc)],cv:=[(55,jS λW _=>gJ kind f W)]} 60 (λW h=>h.out _ rfl) (λW h=>let ⟨o,a,b⟩:=h.r;⟨o,_,a,b⟩) al (eX _ _) underlying32 rfl rfl al al al λW V a b=>?_
    exact Sa.fin O Z F.two a b (by rw [Y,if_pos rfl])
 | false =>
   have r:V=if (G.code != 0)=true then (0,bL M (bn M.ram G),wrap64 (G.code+16)) else if Ir M.cs p G.addr size kind=true then (0,bL M (bn M.ram G),gR kind) else if (BM (bL M (bn M.ram G)) G.addr size kind x).2.1=true then ((BM (bL M (bn M.ram G)) G.addr size kind x).1,(BM (bL M (bn M.ram G)) G.addr size kind x).2.2,0) else (0,(BM (bL M (bn M.ram G)) G.addr size kind x).2.2,gR kind):=by rw [Y,if_neg bb];unfold wP;rw [RM]
   clear Y;have hRm:Un (bL M (bn M.ram G)):=⟨n,I.cs 9,hb0,hd0,by show aU (bn M.ram G).length=true;rw [j9];exact hr0,⟨hl.x,hl.cs,by show (bn M.ram G).length<=_;rw [j9];exact hl.ram,hl.xs,hl.ys⟩,zu M.ram I.ram G,⟨I.xs,I.ys⟩,hhd⟩;generalize h7:(G.code != 0)=b7 at *;generalize Ir M.cs p G.addr size kind=b8 at *;rcases hrch:BM (bL M (bn M.ram G)) G.addr size kind x with ⟨y,ok,X⟩;rw [hrch] at r;dsimp only at r;cases b4<;>cases b5;case true.true=>cases h45
   all_goals
    refine aN (Rc:=λW e g=>∃ D E,e=.returned (.tuple #[.u G.addr,.i G.code,.slice D (bn M.ram G).length E])/\bx W.heap.size g.heap.size g [aF D (bn M.ram G).length E (bn M.ram G)]/\Bw W g) Sa.eng {eq:=[(37,aj h4),(40,aj h5),(46,dI .u64 hwr),(48,aj h6')],ov:=[(47,NC .u64 addr size ab)],cv:=[(23,jy Sa.below HK),(27,jS HS),(32,jS HI),(62,jy Sa.below HE)]} 300 Sa.start HW λi e w1 F B=>?_
    obtain ⟨D,E,rfl,F1,l⟩:=B
    have J:=F.below l
    refine ⟨_,0,rfl,λ_=>J,?_⟩
    refine tH (Rc:=λW e g=>∃ C:MA,C.ar=D/\C.cr=E/\e=.returned (.agg (aq (tz M (bn M.ram G)) C))/\bx i.heap.size g.heap.size g (aI (tz M (bn M.ram G)) C)/\(∀ q ∈ aI (tz M (bn M.ram G)) C,∀ k,q.v.ownBlock=some k->W.heap.size<=k\/(Value.slice D (bn M.ram G).length E).ownBlock=some k)/\Bw W g) Sa.ez J {} 60 (λW d=>rJ M A (bn M.ram G) D (bn M.ram G).length E i.heap.size W hl (hs.below (J.dw d).b) (by rw [d.size];exact d.fam F1) (by rw [d.size];exact l.size) rfl) λW1 e w2 d1 B=>?_
    obtain ⟨C,hC1,hC2,rfl,Z,F2n,H⟩:=B
    have O:=(J.dw d1).below H
    refine ⟨_,0,rfl,O,?_⟩
    refine P8 (v:=λW=>.p W.heap.size 0) Sa.ez O {} 60 2 (λW=>W.alloc (.cells (aq zeroM zeroA) 32)) (λW d=>dW (z:=.agg (aq zeroM zeroA)) al W) λm d2=>?_
    have S3:Sa w (aq M A) (m.alloc (.cells (aq zeroM zeroA) 32)):=(O.dw d2).below (bal _ _)
    refine ⟨S3,?_⟩
    have z2:m.heap.size=w2.heap.size:=d2.size
    have hN:=O.two
    refine Fk Sa.ez S3 {} 60 (λW=>W.setRow m.heap.size (aq (bL M (bn M.ram G)) C)) (λW d=>aG (t:=32) (ty:=32) (old:=aq zeroM zeroA) (by obtain ⟨j,rfl⟩:=d;exact heap_alloc_new _ _) al rfl (eX _ _)) λW3 d3=>?_
    refine ⟨(S3.dw d3).set _ ab _,?_⟩
    have S4:Sc w (aq M A) i.heap.size m.heap.size (bL M (bn M.ram G)) C (W3.setRow m.heap.size (aq (bL M (bn M.ram G)) C)):=by
     have z3:W3.heap.size=m.heap.size+1:=by rw [d3.size,World.size_alloc]
     refine ⟨(S3.dw d3).set _ ab _,⟨?_,?_,λq hq e=>?_,?_⟩,F.two⟩
     ·exact setRow_heap _ _ _ _ _ _ (by obtain ⟨j,rfl⟩:=d3;exact heap_alloc_new _ _)
     ·have f3:bx i.heap.size w2.heap.size W3 (aI (tz M (bn M.ram G)) C):=d3.fam ((d2.fam Z).mono λk _ h2 h3=>(heap_alloc_old _ _ h3))
      exact (f3.mono λk _ h2 _=>setRow_other _ _ _ _ ab).low (Nat.le_refl _) (by rw [setRow_size,z3];omega)
     ·have:=Z.hi q hq _ e;omega
     ·have:=H.size;have:=d1.size;have:=l.size;omega
    refine aH (Sc w (aq M A) i.heap.size m.heap.size (bL M (bn M.ram G)) C) ?_
    clear Z F2n F1 H
    cases b7 with
    | true =>
      refine lR (s:=12) (p:=13) (u:=14) (T:=32) (cs:=aq (bL M (bn M.ram G)) C) (v1:=.u 0) (v2:=.i (wrap64 (G.code+16))) Sc.ez S4 {eq:=[(80,aj h7),(83,dI .i64 qg)]} 60 (λW h=>h.out _ rfl) (λW h=>let ⟨o,a,b⟩:=h.a.r;⟨o,_,a,b⟩) al (eX _ _) underlying32 rfl rfl al al al λW V a b=>?_
      exact S4.fin a b (by rw [r,if_pos rfl])
    | false =>
      have HP':=λW (h:Sc w (aq M A) i.heap.size m.heap.size (bL M (bn M.ram G)) C W)=>HP W h.a
      cases b8 with
      | true =>
        refine ae Sc.eng {eq:=[(80,aj h7)],cv:=[(90,jy Sc.below HP')]} 60 S4 λw5 K=>?_
        refine lR (s:=12) (p:=13) (u:=14) (T:=32) (cs:=aq (bL M (bn M.ram G)) C) (v1:=.u 0) (v2:=.i (gR kind)) Sc.ez K {eq:=[(95,dI .i64 qa)],cv:=[(94,jS λW _=>mZ kind f W)]} 60 (λW h=>h.out _ rfl) (λW h=>let ⟨o,a,b⟩:=h.a.r;⟨o,_,a,b⟩) al (eX _ _) underlying32 rfl rfl al al al λW V a b=>?_
        exact K.fin a b (by rw [r,if_neg bb,if_pos rfl])
      | false =>
        refine aN (Rc:=λW e g=>e=.returned (.tuple #[.u y,.bool ok])/\∃ A',Mp i.heap.size m.heap.size X A' g/\Kx m.heap.size (aI (bL M (bn M.ram G)) C) (aI X A') W g) Sc.eng {eq:=[(80,aj h7)],cv:=[(90,jy Sc.below HP')]} 60 S4 (λW h=>by have B:=Jg (bL M (bn M.ram G)) C i.heap.size m.heap.size G.addr size kind x W h.mp hRm N f hga hx;rw [hrch] at B;exact B) λW5 e w6 K B=>?_
        obtain ⟨rfl,A2,m6,k6⟩:=B
        have R:=K.mp.under k6
        have hlo:=K.lo
        have S6:Sc w (aq M A) i.heap.size m.heap.size X A2 w6:=by
         refine ⟨⟨(R.block _ ab).trans K.a.m,?_,K.a.b.trans ⟨R.os,R.tape,R.output,R.size,λk hk=>R.block k ab⟩⟩,m6,K.lo⟩
         obtain ⟨o,a,b⟩:=K.a.r
         exact ⟨o,a,(R.block _ ab).trans b⟩
        refine ⟨_,0,rfl,gm al,?_⟩
        refine aH (Sc w (aq M A) i.heap.size m.heap.size X A2) ?_
        cases ok with
        | true =>
          refine lR (s:=12) (p:=13) (u:=14) (T:=32) (cs:=aq X A2) (v1:=.u y) (v2:=.i 0) Sc.ez S6 {} 60 (λW h=>h.out _ rfl) (λW h=>let ⟨o,a,b⟩:=h.a.r;⟨o,_,a,b⟩) al (eX _ _) underlying32 rfl rfl al al al λW V a b=>?_
          exact S6.fin a b (by rw [r,if_neg bb,if_neg bb,if_pos rfl])
        | false =>
          refine lR (s:=12) (p:=13) (u:=14) (T:=32) (cs:=aq X A2) (v1:=.u 0) (v2:=.i (gR kind)) Sc.ez S6 {eq:=[(109,dI .i64 qa)],cv:=[(108,jS λW _=>mZ kind f W)]} 60 (λW h=>h.out _ rfl) (λW h=>let ⟨o,a,b⟩:=h.a.r;⟨o,_,a,b⟩) al (eX _ _) underlying32 rfl rfl al al al λW V a b=>?_
          exact S6.fin a b (by rw [r,if_neg bb,if_neg bb,if_neg bb])
theorem zE (M:MV) (A:MA) (addr size kind x:Int) (w:World) (hl:j7 M) (hs:sa w M A) (d:MW M) (c:U M.hd) (f:U addr) (hx:U x) (e:qV w) (b:ey M=true->vL M.ram.length A.ar A.cr):Calls prog 200 #[.func (.func 40) #[] #[],.agg (aq M A),.u addr,.i size,.i kind,.u x] w (xe w (tN M addr size kind x)):=by
 unfold tN;cases a:vC M size kind with
 | false=>rw [if_neg bb];exact zD M A addr size kind x w hl hs d a
 | true =>rw [if_pos rfl];unfold vC at a;simp only [Bool.and_eq_true,decide_eq_true_eq] at a;exact xf M A addr size kind x w hl hs d c f hx e (b a.1.1.1) a.1.1.1 a.1.1.2 a.1.2 _ _ rfl rfl (by simpa only [Bool.not_eq_true'] using a.2)
theorem Iv.ez {bs:List Nat} {w:World} {R:List Rw}:Ez (Iv bs w R) R:=⟨λ_ h r a=>(h.rows r a).in_,λ_ h=>⟨λr a=>h.rows r a,h.ag.drew,h.sub,h.nd⟩⟩
theorem Iv.two {W:World} {g b:Nat} {cs ds:Array Value} (d:g8 ⟨g,cs,[]⟩ W) (e:g8 ⟨b,ds,[]⟩ W) (c:g≠b):Iv [g,b] W [⟨g,cs,[]⟩,⟨b,ds,[]⟩] W :=
 ⟨λr a=>by
  simp only [List.mem_cons,List.not_mem_nil,or_false] at a
  rcases a with rfl|rfl
  ·exact d
  ·exact e,Ag.refl _ _,λr a=>by
  simp only [List.mem_cons,List.not_mem_nil,or_false] at a
  rcases a with rfl|rfl<;>simp,i5⟩
theorem nl {B E g:Nat} {W W':World} {L:List FRow} {R:List Rw} (k:Iv [g] W R W') (f:bx B E W L) (d:g<B):bx B E W' L:=f.mono λi b c a=>k.ag.block i a (by rw [List.mem_singleton];omega)
theorem tQ {w W W':World} {g b B E:Nat} {cs c:Array Value} {R:List Rw} {L:List FRow} (a:Iv [g] w [⟨g,cs,[]⟩] W) (k:Iv [g,b] W R W') (f:bx B E W L) (hb:w.heap.size<=b) (l:w.heap.size<=B) (m:E<=W.heap.size) (hx:b<B\/E<=b) (p:g<w.heap.size) (row:g8 ⟨g,c,[]⟩ W'):Iv [g] w [⟨g,c,[]⟩] W'/\bx w.heap.size W'.heap.size W' L:=by
 refine ⟨⟨λr d=>by rw [List.mem_singleton] at d;subst d;exact row,⟨k.ag.os.trans a.ag.os,k.ag.tape.trans a.ag.tape,k.ag.output.trans a.ag.output,Nat.le_trans a.ag.size k.ag.size,λi h e=>?_⟩,λr d=>by rw [List.mem_singleton] at d;subst d;simp,cp⟩,?_⟩;·rw [List.mem_singleton] at e;exact (k.ag.block i (Nat.lt_of_lt_of_le h a.ag.size) lx).trans (a.ag.block i h (by rw [List.mem_singleton];exact e))
 ·exact (f.mono λi n o j=>k.ag.block i j lx).low l (Nat.le_trans m k.ag.size)
theorem Iv.dw {bs:List Nat} {w W V:World} {R:List Rw} (h:Iv bs w R W) (d:Dw W V):Iv bs w R V:=h.below (d.below (Below.refl _ _))
theorem Iv.set {bs:List Nat} {w W:World} {R:List Rw} (h:Iv bs w R W) {b:Nat} (hb:b ∉ bs) (g:w.heap.size<=b) (cs:Array Value):Iv bs w R (W.setRow b cs):=
 ⟨λr c=>let ⟨t,a⟩:=h.rows r c;⟨t,(setRow_other W _ _ cs (λe=>hb (by rw [<- e];exact h.sub r c))).trans a⟩,⟨h.ag.os,h.ag.tape,h.ag.output,by rw [setRow_size];exact h.ag.size,λk f d=>(setRow_other W _ _ cs ab).trans (h.ag.block k f d)⟩,h.sub,h.nd⟩
def ns (t:TV) (V:Int × MV × Int) (addr:Int):TV:=if V.2.2 != 0 then {t with up:=true,cz:=IntKind.i64.wrap (V.2.2-16),vl:=addr} else t
section
variable {w : World} {g : Nat} {M : MV} {A : MA} {t : TV}
theorem vM (V:Int × MV × Int) (addr size kind x:Int) (X:t.ld=.func (.func 40) #[] #[]) (h:g8 ⟨g,bH M A t,[]⟩ w) (hA:∀ W,Iv [g] w [⟨g,bH M A t,[]⟩] W->Calls prog 200 #[.func (.func 40) #[] #[],.agg (aq M A),.u addr,.i size,.i kind,.u x] W (xe W V)):Calls prog 149 #[.p g 0,.u addr,.i size,.i kind,.u x] w λe w'=>∃ C,e=.returned (.tuple #[.u (if V.2.2 != 0 then 0 else V.1),.bool (!(V.2.2 != 0))])/\Iv [g] w [⟨g,bH V.2.1 C (ns t V addr),[]⟩] w'/\bx w.heap.size w'.heap.size w' (aI V.2.1 C):=by
 have c:g<w.heap.size:=let ⟨_,f⟩:=h;(Array.getElem?_eq_some_iff.1 f).1;refine fT (args:=[.p g 0,.u addr,.i size,.i kind,.u x]) (Iv [g] w [⟨g,bH M A t,[]⟩]) func149 ?_;refine aL 0 1 ?_;refine ae Iv.eng {eq:=[(19,⟨_,_,0,X⟩)]} 60 (Iv.one h) λl B=>?_;refine rv (i:=12) (j:=17) ?_ ?_
 ·refine qb (hA l B) λe w1 f=>?_;obtain ⟨C,rfl,F1,u⟩:=f;refine ⟨_,0,rfl,B.below u,?_⟩;refine P8 (v:=λW=>.p W.heap.size 0) Iv.ez (B.below u) {} 60 2 (λW=>W.alloc (.cells (aq zeroM zeroA) 32)) (λW _=>dW (z:=.agg (aq zeroM zeroA)) al W) λo O=>?_;have s:=((B.below u).dw O).below (bal o (.cells (aq zeroM zeroA) 32));refine ⟨s,?_⟩;have z2:=O.size;have s0:=B.ag.size;have s1:=u.size;refine Fk Iv.ez s {} 60 (λW=>W.setRow o.heap.size (aq V.2.1 C)) (λW d=>aG (t:=32) (ty:=32) (old:=aq zeroM zeroA) (by obtain ⟨j,rfl⟩:=d;exact heap_alloc_new _ _) al rfl (eX _ _)) λq r=>?_;have z3:q.heap.size=o.heap.size+1:=(by rw [r.size,World.size_alloc]);have D:=(s.dw r).set (b:=o.heap.size) (by rw [List.mem_singleton];omega) ab (aq V.2.1 C);refine ⟨D,?_⟩;have Y:g8 ⟨o.heap.size,aq V.2.1 C,[]⟩ (q.setRow o.heap.size (aq V.2.1 C)):=⟨32,setRow_heap _ _ _ _ _ _ (by obtain ⟨j,rfl⟩:=r;exact heap_alloc_new _ _)⟩;have P:bx l.heap.size w1.heap.size (q.setRow o.heap.size (aq V.2.1 C)) (aI V.2.1 C):=(r.fam ((O.fam F1).mono λk _ _ s=>heap_alloc_old _ _ s)).mono λk _ _ _=>setRow_other _ _ _ _ ab;have z4:(q.setRow o.heap.size (aq V.2.1 C)).heap.size=q.heap.size:=setRow_size _ _ _;refine ae (sf Iv.ez D) {} 60 (Dw.refl _) λK d5=>?_;refine aH (λ_=>True) ?_;refine aL 13 2 ?_;have E:=D.dw d5;have H:=d5.fam P;have z5:=d5.size;have Z:g8 ⟨o.heap.size,aq V.2.1 C,[]⟩ K:=let ⟨T,S⟩:=Y;⟨T,by obtain ⟨j,rfl⟩:=d5;exact S⟩;have G:=Iv.two E.row1 Z ab;unfold ns;obtain ⟨y,m⟩:∃ y,(V.2.2 != 0)=y:=⟨_,rfl⟩;rw [m];cases y with
  | true =>refine fx (R1:=[⟨g,bH V.2.1 C t,[]⟩,⟨o.heap.size,aq V.2.1 C,[]⟩]) G {eq:=[(37,aj m)]} 60 (λW U=>jT (IntKind.i64.wrap (V.2.2-16)) addr (M:=V.2.1) (A:=C) (t:=t) (U.rows ⟨g,bH V.2.1 C t,[]⟩ cp)) λW6 e w7 I f=>⟨_,0,f.1,?_⟩;obtain ⟨R,Q⟩:=tQ E I H ab ab ab ab c (I.rows ⟨g,bH V.2.1 C t,[]⟩ cp);refine iw (Iv.one f.2.row1) {} 40 λL a n p=>⟨.tuple #[.u 0,.bool false],kr,C,rfl,(R.then1 f.2).then1 n,?_⟩;exact (nl n (nl f.2 Q c) c).low (Nat.le_refl _) (Nat.le_trans f.2.ag.size n.ag.size)
  | false =>refine iw (R1:=[⟨g,bH V.2.1 C t,[]⟩,⟨o.heap.size,aq V.2.1 C,[]⟩]) G {eq:=[(37,aj m)]} 60 λL a n p=>⟨.tuple #[.u V.1,.bool true],kp,C,rfl,?_⟩;exact tQ E n H ab ab ab ab c (n.rows ⟨g,bH V.2.1 C t,[]⟩ cp)
 ·have J:=B.below (bal l (.cells (aq zeroM zeroA) 32));refine uS (v:=.p l.heap.size 0) 2 (dW (T:=32) (z:=.agg (aq zeroM zeroA)) al l) J ?_;refine tH (Rc:=λW=>xe W V) Iv.ez J {} 60 (λW d=>hA W (J.dw d)) λW1 e w2 N f=>?_;obtain ⟨C,rfl,F2,F⟩:=f;have s:=(J.dw N).below F;refine ⟨_,0,rfl,s,?_⟩;have s0:=B.ag.size;have z1:W1.heap.size=l.heap.size+1:=(by rw [N.size,World.size_alloc]);have s2:=F.size;have q2:w2.heap[l.heap.size]?=some (.cells (aq zeroM zeroA) 32 (0,0)):=bA F (by obtain ⟨j,rfl⟩:=N;exact heap_alloc_new _ _);refine Fk Iv.ez s {} 60 (λW=>W.setRow l.heap.size (aq V.2.1 C)) (λW d=>aG (t:=32) (ty:=32) (old:=aq zeroM zeroA) (by obtain ⟨j,rfl⟩:=d;exact q2) al rfl (eX _ _)) λq r=>?_;have z3:=r.size;have D:=(s.dw r).set (b:=l.heap.size) (by rw [List.mem_singleton];omega) ab (aq V.2.1 C);refine ⟨D,?_⟩;have Y:g8 ⟨l.heap.size,aq V.2.1 C,[]⟩ (q.setRow l.heap.size (aq V.2.1 C)):=⟨32,setRow_heap _ _ _ _ _ _ (by obtain ⟨j,rfl⟩:=r;exact q2)⟩;have P:bx W1.heap.size w2.heap.size (q.setRow l.heap.size (aq V.2.1 C)) (aI V.2.1 C):=(r.fam F2).mono λk _ _ _=>setRow_other _ _ _ _ ab;have z4:(q.setRow l.heap.size (aq V.2.1 C)).heap.size=q.heap.size:=setRow_size _ _ _;refine ae (sf Iv.ez D) {} 60 (Dw.refl _) λK d5=>?_;refine aH (λ_=>True) ?_;refine aL 13 2 ?_;have E:=D.dw d5;have H:=d5.fam P;have z5:=d5.size;have Z:g8 ⟨l.heap.size,aq V.2.1 C,[]⟩ K:=let ⟨T,S⟩:=Y;⟨T,by obtain ⟨j,rfl⟩:=d5;exact S⟩;have G:=Iv.two E.row1 Z ab;unfold ns;obtain ⟨y,m⟩:∃ y,(V.2.2 != 0)=y:=⟨_,rfl⟩;rw [m];cases y with
  | true =>refine fx (R1:=[⟨g,bH V.2.1 C t,[]⟩,⟨l.heap.size,aq V.2.1 C,[]⟩]) G {eq:=[(37,aj m)]} 60 (λW U=>jT (IntKind.i64.wrap (V.2.2-16)) addr (M:=V.2.1) (A:=C) (t:=t) (U.rows ⟨g,bH V.2.1 C t,[]⟩ cp)) λW6 e w7 I f=>⟨_,0,f.1,?_⟩;obtain ⟨R,Q⟩:=tQ E I H ab ab ab ab c (I.rows ⟨g,bH V.2.1 C t,[]⟩ cp);refine iw (Iv.one f.2.row1) {} 40 λL a n p=>⟨.tuple #[.u 0,.bool false],kr,C,rfl,(R.then1 f.2).then1 n,?_⟩;exact (nl n (nl f.2 Q c) c).low (Nat.le_refl _) (Nat.le_trans f.2.ag.size n.ag.size)
  | false =>refine iw (R1:=[⟨g,bH V.2.1 C t,[]⟩,⟨l.heap.size,aq V.2.1 C,[]⟩]) G {eq:=[(37,aj m)]} 60 λL a n p=>⟨.tuple #[.u V.1,.bool true],kp,C,rfl,?_⟩;exact tQ E n H ab ab ab ab c (n.rows ⟨g,bH V.2.1 C t,[]⟩ cp)
end
section
variable {w : World} {g : Nat} {M : MV} {A : MA} {t : TV}
theorem Pg (V:Int × MV × Int) (f:Wf) (n:Int) (s:Bool) (u:t.fm=mN f n s) (addr x:Int) (k:t.ld=.func (.func 40) #[] #[]) (h:g8 ⟨g,bH M A t,[]⟩ w) (r:∀ W,Iv [g] w [⟨g,bH M A t,[]⟩] W->Calls prog 200 #[.func (.func 40) #[] #[],.agg (aq M A),.u addr,.i n,.i 3,.u x] W (xe W V)):Calls prog 158 #[.p g 0,.u addr,.u x] w λe b=>∃ C,e=.returned (.bool (!(V.2.2 != 0)))/\Iv [g] w [⟨g,bH V.2.1 C (ns t V addr),[]⟩] b/\bx w.heap.size b.heap.size b (aI V.2.1 C):=by
 have j:g<w.heap.size:=let ⟨_,c⟩:=h;(Array.getElem?_eq_some_iff.1 c).1;refine fT (args:=[.p g 0,.u addr,.u x]) (Iv [g] w [⟨g,bH M A t,[]⟩]) func158 ?_;refine aL 0 1 ?_;cases f;all_goals
  refine ae Iv.eng {cv:=[(13,wk λW a=>qn _ n s u a.row1)]} 60 (Iv.one h) λm p=>?_
  refine n0 (zg n s m) al λe z c=>⟨_,0,c.1,gm al,?_⟩
  have q:=p.below c.2
  refine aN (Rc:=λW e b=>∃ C,e=.returned (.tuple #[.u (if V.2.2 != 0 then 0 else V.1),.bool (!(V.2.2 != 0))])/\Iv [g] W [⟨g,bH V.2.1 C (ns t V addr),[]⟩] b/\bx W.heap.size b.heap.size b (aI V.2.1 C)) Iv.eng {} 60 q (λW a=>vM V addr n 3 x k a.row1 λW' i=>r W' (a.then1 i)) λW e B a c=>?_
  obtain ⟨C,rfl,l,o⟩:=c
  refine ⟨_,0,rfl,gm al,?_⟩
  refine aH (λ_=>True) ?_
  exact uR (t:=6) (v:=.bool (!(V.2.2 != 0))) (Iv.one l.row1) {} 40 λy d=>⟨C,rfl,(a.then1 l).then1 d,(nl d o (Nat.lt_of_lt_of_le j a.ag.size)).low a.ag.size d.ag.size⟩
def sQ (t:TV) (V:Int × MV × Int) (addr:Int) (n:Nat) (s:Bool):TV:=if V.2.2 != 0 then ns t V addr else {t with rs:=if s then ap (8*n) V.1 else V.1}
theorem RT (V:Int × MV × Int) (f:Wf) (n:Nat) (s:Bool) (hn:n=1\/n=2\/n=4\/n=8) (D:t.fm=mN f n s) (addr:Int) (y:t.ld=.func (.func 40) #[] #[]) (h:g8 ⟨g,bH M A t,[]⟩ w) (I:∀ W,Iv [g] w [⟨g,bH M A t,[]⟩] W->Calls prog 200 #[.func (.func 40) #[] #[],.agg (aq M A),.u addr,.i n,.i 2,.u 0] W (xe W V)):Calls prog 155 #[.p g 0,.u addr] w λe i=>∃ C,e=.returned (.tuple #[.u (if V.2.2 != 0 then 0 else V.1),.bool (!(V.2.2 != 0))])/\Iv [g] w [⟨g,bH V.2.1 C (sQ t V addr n s),[]⟩] i/\bx w.heap.size i.heap.size i (aI V.2.1 C):=by
 have j:g<w.heap.size:=let ⟨_,d⟩:=h;(Array.getElem?_eq_some_iff.1 d).1;have c:∀ W,Iv [g] w [⟨g,bH M A t,[]⟩] W->_:=λW b=>vM V addr n 2 0 y b.row1 λW' u=>I W' (b.then1 u);unfold sQ;unfold ns at *;obtain ⟨p,x⟩:∃ p,(V.2.2 != 0)=p:=⟨_,rfl⟩;simp only [x] at c ⊢;refine fT (args:=[.p g 0,.u addr]) (Iv [g] w [⟨g,bH M A t,[]⟩]) func155 ?_;refine aL 0 1 ?_;cases f;all_goals
  refine ae Iv.eng {cv:=[(12,wk λW b=>qn _ n s D b.row1)]} 60 (Iv.one h) λF H=>?_
  refine n0 (zg n s F) al λe K d=>⟨_,0,d.1,gm al,?_⟩
  have B:=H.below d.2
  cases p
  ·refine aN (Rc:=λW e i=>∃ C,e=.returned (.tuple #[.u V.1,.bool true])/\Iv [g] W [⟨g,bH V.2.1 C t,[]⟩] i/\bx W.heap.size i.heap.size i (aI V.2.1 C)) Iv.eng {} 60 B c λW e E b d=>?_
   obtain ⟨C,rfl,k,q⟩:=d
   refine ⟨_,0,rfl,gm al,?_⟩
   refine aH (Iv [g] E [⟨g,bH V.2.1 C t,[]⟩]) ?_
   have G:=(nl (Iv.one k.row1) q (Nat.lt_of_lt_of_le j b.ag.size)).low (B':=w.heap.size) b.ag.size (Nat.le_refl _)
   refine ae Iv.eng {cv:=[(20,wk λW b=>qn _ n s D b.row1)]} 60 (Iv.one k.row1) λz l=>?_
   refine n0 (Iw n s V.1 hn z) al λe L d=>⟨_,0,d.1,gm al,?_⟩
   have o:=l.below d.2
   refine aH (λ_=>True) ?_
   refine iw (R1:=[⟨g,bH V.2.1 C {t with rs:=if s then ap (8*n) V.1 else V.1},[]⟩]) (Iv.one o.row1) {} 60 λJ a r m=>⟨.tuple #[.u V.1,.bool true],by rw [results_tmp2 rfl,m.slot (v:=.u V.1) al,m.slot (v:=.bool true) al],C,rfl,((b.then1 k).then1 o).then1 r,?_⟩
   exact (nl r (nl o G j) j).low (Nat.le_refl _) (Nat.le_trans o.ag.size r.ag.size)
  ·refine aN (Rc:=λW e i=>∃ C,e=.returned (.tuple #[.u 0,.bool false])/\Iv [g] W [⟨g,bH V.2.1 C _,[]⟩] i/\bx W.heap.size i.heap.size i (aI V.2.1 C)) Iv.eng {} 60 B c λW e E b d=>?_
   obtain ⟨C,rfl,k,q⟩:=d
   refine ⟨_,0,rfl,gm al,?_⟩
   refine aH (λ_=>True) ?_
   refine iw (Iv.one k.row1) {} 40 λz a l m=>⟨.tuple #[.u 0,.bool false],by rw [results_tmp2 rfl,m.slot (v:=.u 0) al,m.slot (v:=.bool false) al],C,rfl,(b.then1 k).then1 l,(nl l q (Nat.lt_of_lt_of_le j b.ag.size)).low b.ag.size l.ag.size⟩
end
def yj (t:TV) (code addr:Int):TV:=if code != 0 then {t with up:=true,cz:=code,vl:=addr} else t
section
variable {w : World} {g : Nat} {M : MV} {A : MA} {t : TV}
theorem RU (to code z:Int) (zs:List Int) (addr kind:Int) (x:t.ld=.func (.func 40) #[] #[]) (h:g8 ⟨g,bH M A t,[]⟩ w) (G:∀ W,Iv [g] w [⟨g,bH M A t,[]⟩] W->CB 234 #[.slice A.ac M.cs.length A.cc,.i M.pr,.i kind] W (.i z)) (s:∀ W,Iv [g] w [⟨g,bH M A t,[]⟩] W->Calls prog 40 #[.slice A.ar M.ram.length A.cr,.slice A.ac M.cs.length A.cc,.i z,.u addr,.i kind] W λe l=>∃ (b:Option Addr) (c:Nat),e=.returned (.tuple #[.u to,.i code,.slice b zs.length c])/\l.ownsRow W.heap.size 5 1 (.slice b zs.length c) zs.length (zs.map (Value.int .u8))/\Bw W l):Calls prog 212 #[.p g 0,.u addr,.i kind] w λe l=>∃ (b:Option Addr) (c:Nat),e=.returned (.tuple #[.u (if code != 0 then 0 else to),.bool (!(code != 0))])/\Iv [g] w [⟨g,bH {M with ram:=zs} {A with ar:=b,cr:=c} (yj t code addr),[]⟩] l/\l.ownsRow w.heap.size 5 1 (.slice b zs.length c) zs.length (zs.map (Value.int .u8)):=by
 have H:g<w.heap.size:=let ⟨_,d⟩:=h;(Array.getElem?_eq_some_iff.1 d).1;refine fT (args:=[.p g 0,.u addr,.i kind]) (Iv [g] w [⟨g,bH M A t,[]⟩]) func212 ?_;refine aL 0 1 ?_;refine aN Iv.eng {eq:=[(15,⟨_,_,0,x⟩)],cv:=[(37,jy Iv.below G)]} 60 (Iv.one h) s λJ e L B d=>?_;obtain ⟨b,c,rfl,I,u⟩:=d;have r:=B.below u;refine ⟨_,0,rfl,λ_=>r,?_⟩;refine ae (sf Iv.ez r) {} 60 (Dw.refl _) λE y=>?_;refine aH (λ_=>True) ?_;have p:=r.dw y;have D:E.ownsRow w.heap.size 5 1 (.slice b zs.length c) zs.length (zs.map (Value.int .u8)):=by obtain ⟨j,rfl⟩:=y;exact fH (cN I B.ag.size) λk _=>rfl
 have keep:∀ {W V:World} {R:List Rw},Iv [g] W R V->W.ownsRow w.heap.size 5 1 (.slice b zs.length c) zs.length (zs.map (Value.int .u8))->V.ownsRow w.heap.size 5 1 (.slice b zs.length c) zs.length (zs.map (Value.int .u8)):=λ{W V R} k o=>fH o λi e=>k.ag.block i (o.lt i e).2 (by rw [List.mem_singleton];have:=(o.lt i e).1;omega);unfold yj;obtain ⟨q,f⟩:∃ q,(code != 0)=q:=⟨_,rfl⟩;rw [f];cases q with
 | true =>refine fx (R1:=[⟨g,bH {M with ram:=zs} {A with ar:=b,cr:=c} t,[]⟩]) (Iv.one p.row1) {eq:=[(50,aj f)]} 60 (λW s=>jT code addr s.row1) λK e N C d=>⟨_,0,d.1,?_⟩;exact iw (Iv.one d.2.row1) {} 40 λF a m n=>⟨.tuple #[.u 0,.bool false],by rw [results_tmp2 rfl,n.slot (v:=.u 0) al,n.slot (v:=.bool false) al],b,c,rfl,((p.then1 C).then1 d.2).then1 m,keep m (keep d.2 (keep C D))⟩
 | false =>exact iw (R1:=[⟨g,bH {M with ram:=zs} {A with ar:=b,cr:=c} t,[]⟩]) (Iv.one p.row1) {eq:=[(50,aj f)]} 60 λF a m n=>⟨.tuple #[.u to,.bool true],by rw [results_tmp2 rfl,n.slot (v:=.u to) al,n.slot (v:=.bool true) al],b,c,rfl,p.then1 m,keep m D⟩
end
def pj (op a y:Int):Int:=if op=88\/op=91 then bits .or .u64 a y else if op=89\/op=92 then bits .andNot .u64 a y else y
section
variable {w : World} {g : Nat} {M : MV} {A : MA} {t : TV}
theorem Jh {b o:Nat} {x:Int} (c:Int) (h:g8 ⟨g,bH M A t,[]⟩ w) (l:t.op=87\/t.op=88\/t.op=89\/t.op=90\/t.op=91\/t.op=92) (f:A.ax=some ⟨b,o,none⟩) (j:0<=t.ra/\t.ra<M.x.length) (hb:b≠g) (hx:w.cell? ⟨b,o+t.ra.toNat,none⟩=some (.u x)):Calls prog 217 #[.p g 0,.u c] w λe d=>e=.returned (.u (pj t.op c (if 90<=t.op then Uz.wrap t.ra else x)))/\Iv [g] w [⟨g,bH M A t,[]⟩] d:=by
 have i:∀ (p:Addr) v,p.block=b->w.cell? p=some v->∀ W,Iv [g] w [⟨g,bH M A t,[]⟩] W->W.cell? p=some v:=λp v n m W a=>by rw [<- m];simp only [World.cell?,a.ag.block p.block (lj m) (by rw [n];simpa using hb)]
 refine fT (args:=[.p g 0,.u c]) (Iv [g] w [⟨g,bH M A t,[]⟩]) func217 ?_;refine aL 0 1 ?_;rcases l with q | q | q | q | q | q;·exact aY (t:=4) (v:=.u x) Iv.eng {eq:=[(12,dI .i64 q),(24,dI .i64 q)],cv:=[(7,wk λW a=>Kt a.row1 f j hb (i _ _ rfl hx W a))]} 200 (Iv.one h) λd k=>⟨by simp [pj,q],k⟩
 ·exact aY (t:=4) (v:=.u (bits .or .u64 c x)) Iv.eng {eq:=[(12,dI .i64 q),(24,dI .i64 q)],cv:=[(7,wk λW a=>Kt a.row1 f j hb (i _ _ rfl hx W a))]} 200 (Iv.one h) λd k=>⟨by simp [pj,q],k⟩
 ·exact aY (t:=4) (v:=.u (bits .andNot .u64 c x)) Iv.eng {eq:=[(12,dI .i64 q),(24,dI .i64 q)],cv:=[(7,wk λW a=>Kt a.row1 f j hb (i _ _ rfl hx W a))]} 200 (Iv.one h) λd k=>⟨by simp [pj,q],k⟩
 ·exact aY (t:=4) (v:=.u (Uz.wrap t.ra)) Iv.eng {eq:=[(12,dI .i64 q),(24,dI .i64 q)],cv:=[(7,wk λW a=>Kt a.row1 f j hb (i _ _ rfl hx W a))]} 200 (Iv.one h) λd k=>⟨by simp [pj,q],k⟩
 ·exact aY (t:=4) (v:=.u (bits .or .u64 c (Uz.wrap t.ra))) Iv.eng {eq:=[(12,dI .i64 q),(24,dI .i64 q)],cv:=[(7,wk λW a=>Kt a.row1 f j hb (i _ _ rfl hx W a))]} 200 (Iv.one h) λd k=>⟨by simp [pj,q],k⟩
 ·exact aY (t:=4) (v:=.u (bits .andNot .u64 c (Uz.wrap t.ra))) Iv.eng {eq:=[(12,dI .i64 q),(24,dI .i64 q)],cv:=[(7,wk λW a=>Kt a.row1 f j hb (i _ _ rfl hx W a))]} 200 (Iv.one h) λd k=>⟨by simp [pj,q],k⟩
theorem Ph (cs:List Int) (pr pc:Int) (m:Bool) (h:g8 ⟨g,bH M A t,[]⟩ w) (v:∀ W,Iv [g] w [⟨g,bH M A t,[]⟩] W->Calls prog 249 #[.slice A.ac M.cs.length A.cc,.i M.pr,.bool (t.op==96)] W λe d=>∃ (a:Option Addr) (c:Nat),e=.returned (.tuple #[.slice a cs.length c,.i pr,.u pc,.bool m])/\(m=true->d.ownsRow W.heap.size 22 1 (.slice a cs.length c) cs.length (cs.map (Value.int .u64)))/\Bw W d):Calls prog 218 #[.p g 0] w λe d=>e=.returned (.tuple #[])/\if m then ∃ (a:Option Addr) (c:Nat),Iv [g] w [⟨g,bH {M with cs:=cs,pr:=pr} {A with ac:=a,cc:=c} {t with nx:=pc},[]⟩] d/\d.ownsRow w.heap.size 22 1 (.slice a cs.length c) cs.length (cs.map (Value.int .u64)) else Iv [g] w [⟨g,bH M A {t with up:=true,cz:=2,vl:=t.wd},[]⟩] d:=by
 have y:g<w.heap.size:=let ⟨_,b⟩:=h;(Array.getElem?_eq_some_iff.1 b).1;refine fT (args:=[.p g 0]) (Iv [g] w [⟨g,bH M A t,[]⟩]) func218 ?_;refine aL 0 1 ?_;refine aN Iv.eng {} 60 (Iv.one h) v λB e E r b=>?_;obtain ⟨a,c,rfl,z,n⟩:=b;have f:=r.below n;refine ⟨_,0,rfl,λ_=>f,?_⟩;cases m with
 | true =>refine ae (sf Iv.ez f) {} 60 (Dw.refl _) λp q=>?_;refine aH (λ_=>True) ?_;have l:=f.dw q;have o:p.ownsRow w.heap.size 22 1 (.slice a cs.length c) cs.length (cs.map (Value.int .u64)):=(by obtain ⟨j,rfl⟩:=q;exact fH (cN (z rfl) r.ag.size) λk _=>rfl);exact fY (R1:=[⟨g,bH {M with cs:=cs,pr:=pr} {A with ac:=a,cc:=c} {t with nx:=pc},[]⟩]) (Iv.one l.row1) {} 60 λC s=>⟨rfl,a,c,l.then1 s,fH o λi e=>s.ag.block i (o.lt i e).2 (by rw [List.mem_singleton];have:=(o.lt i e).1;omega)⟩
 | false =>refine aN Iv.eng {} 60 f (λW x=>oM x.row1) λp e F l b=>⟨_,0,b.1,gm al,?_⟩;refine aH (λ_=>True) ?_;exact oL (Iv.one b.2.row1) {} 40 λD u=>⟨rfl,(l.then1 b.2).then1 u⟩
end
theorem lY {P:Program} {S:World->Prop} {n:Nat} {fn:Func} {Rs:Ending->World->Prop} {k:List KI} {F:Fr} {w:World} (H:Hn P (λx=>x=w) (λx=>x=w)) (m:Nat) (hx:(gZ k,(be P [] H n false m k F).1.1,gZ (be P [] H n false m k F).1.2.1,(be P [] H n false m k F).1.2.1.isEmpty)=(true,false,true,true)) (he:(be P [] H n false m k F).2.map Prod.fst=(be P [] H n false m k F).2.map Prod.snd) (hr:fn.results=#[]) (h:Rs (.returned (.tuple #[])) w):Wg P S (bodyPost P fn Rs) n k F w:=by simp only [Prod.mk.injEq] at hx;refine an (R:=[]) (by simp [g6]) H m (hx:=by rw [hx.1,hx.2.1,hx.2.2.1]) (he:=he) λa b=>?_;rw [List.isEmpty_iff.1 hx.2.2.2];exact bodyPost_end (results_none hr _ _ _) b.nod h
section
variable {w : World} {g : Nat} {M : MV} {A : MA} {t : TV}
theorem Mo (h:g8 ⟨g,bH M A t,[]⟩ w) (q:t.op=93):Calls prog 164 #[.p g 0] w λe d=>e=.returned (.tuple #[])/\Iv [g] w [⟨g,bH M A {t with up:=true,cz:=IntKind.i64.wrap (8+M.pr),vl:=0},[]⟩] d:=by refine fT (args:=[.p g 0]) (λ_=>True) func164 ?_;refine aL 0 1 ?_;refine fx (Iv.one h) {eq:=[(6,dI .i64 q)]} 80 (R1:=[⟨g,bH M A t,[]⟩]) (λW a=>jT (IntKind.i64.wrap (8+M.pr)) 0 a.row1) λW e d a c=>⟨_,0,c.1,?_⟩;exact fY (Iv.one c.2.row1) {} 40 λW' b=>⟨rfl,(a.then1 c.2).then1 b⟩
theorem Ji (h:g8 ⟨g,bH M A t,[]⟩ w) (q:t.op=94):Calls prog 164 #[.p g 0] w λe d=>e=.returned (.tuple #[])/\Iv [g] w [⟨g,bH M A {t with up:=true,cz:=3,vl:=M.pc},[]⟩] d:=by refine fT (args:=[.p g 0]) (λ_=>True) func164 ?_;refine aL 0 1 ?_;refine fx (Iv.one h) {eq:=[(6,dI .i64 q)]} 80 (R1:=[⟨g,bH M A t,[]⟩]) (λW a=>jT 3 M.pc a.row1) λW e d a c=>⟨_,0,c.1,?_⟩;exact fY (Iv.one c.2.row1) {} 40 λW' b=>⟨rfl,(a.then1 c.2).then1 b⟩
theorem Mq (h:g8 ⟨g,bH M A t,[]⟩ w) (q:t.op=97\/t.op=98):Calls prog 164 #[.p g 0] w λe f=>e=.returned (.tuple #[])/\Iv [g] w [⟨g,if M.pr==0 then bH M A {t with up:=true,cz:=2,vl:=t.wd} else bH {M with wt:=t.op==97} A t,[]⟩] f:=by
 refine fT (args:=[.p g 0]) (λ_=>True) func164 ?_;refine aL 0 1 ?_;obtain ⟨p,c⟩:∃ p,(M.pr==0)=p:=⟨_,rfl⟩;rw [c];cases p with
 | true =>
   rcases q with q|q;all_goals
    refine fx (Iv.one h) {eq:=[(6,dI .i64 q),(39,aj c)]} 80 (R1:=[⟨g,bH M A t,[]⟩]) (λW b=>oM b.row1) λW e f b d=>⟨_,0,d.1,?_⟩
    exact oL (Iv.one d.2.row1) {} 40 λW' a=>⟨rfl,(b.then1 d.2).then1 a⟩
 | false =>rcases q with q | q;all_goals exact fY (R1:=[⟨g,bH {M with wt:=t.op==97} A t,[]⟩]) (Iv.one h) {eq:=[(6,dI .i64 q),(39,aj c)]} 80 λW' a=>⟨rfl,a⟩
theorem Jj {Rc:World->Ending->World->Prop} (h:g8 ⟨g,bH M A t,[]⟩ w) (q:t.op=95\/t.op=96) (d:∀ W,Iv [g] w [⟨g,bH M A t,[]⟩] W->Calls prog 218 #[.p g 0] W (Rc W)) (f:∀ W e a,Iv [g] w [⟨g,bH M A t,[]⟩] W->Rc W e a->e=.returned (.tuple #[])):Calls prog 164 #[.p g 0] w λe a=>e=.returned (.tuple #[])/\∃ W,Iv [g] w [⟨g,bH M A t,[]⟩] W/\Rc W e a:=by
 refine fT (args:=[.p g 0]) (λ_=>True) func164 ?_;refine aL 0 1 ?_;rcases q with q | q;all_goals
  refine fx (Iv.one h) {eq:=[(6,dI .i64 q)]} 80 (R1:=[⟨g,bH M A t,[]⟩]) d λW e a b c=>?_
  obtain rfl:=f W e a b c
  exact ⟨_,0,rfl,lY {} 40 al al rfl ⟨rfl,W,b,c⟩⟩
end
end Go.Proofs.YtjifdmoehfbihaaGreatDoor
