/- Own lemmas. -/
import Derived.Test.YtjifdmoehfbihaaGreatDoorAut
import Derived.Test.YtjifdmoehfbihaaGreatDoorK25
import Derived.Test.YtjifdmoehfbihaaGreatDoorK27
import Derived.Test.YtjifdmoehfbihaaGreatDoorK28
set_option maxRecDepth 100000
set_option maxHeartbeats 12800000
namespace Go.Proofs.YtjifdmoehfbihaaGreatDoor
open Go.RowKit Tryz
open IntKind renaming u64->Uz
set_option linter.unusedVariables false
theorem ym (M:MV) (A:MA) (B r:Nat) (w:World) (a:M.cs.length=22) (hl:jF M) (h:Mp B r M A w):Calls prog 254 #[.p r 0] w λe b=>e=.returned (.tuple #[])/\Mp B r (gK M) A b/\Kx r (aH M A) (aH (gK M) A) w b:=by have d:=iS (M:=M) (M':=gK M) (A:=A) rfl (Gr M) rfl rfl rfl;refine (vj M A r B w.heap.size w a hl h.row h.fam h.ne).mono λe b ⟨i,j,k,c⟩=>⟨i,⟨j,k.low (Nat.le_refl _) c.size,?_,h.lo⟩,Kx.of_keepL c d⟩;intro q l e;obtain ⟨m,g,f⟩:=d q l;exact h.ne m g (by rw [f];exact e)
structure Qs (M:MV):Prop where
 h22:M.cs.length=22
 U9:U (M.cs.getD 9 0)
 bells:kB M=true
 ok:kq M.d.xs.length M.d.ys.length M.d.ir=true
 ram:be M.ram.length=true
 len:jF M
 wram:∀ y ∈ M.ram,(Lit.int .u8 y).wf=true
 wd:dO M.d
 hd:U M.hd
theorem Mp.shape {B r:Nat} {M:MV} {A:MA} {w:World} (h:Mp B r M A w) (l:0<M.ram.length):∃ g,A.ar=some ⟨g,0,none⟩/\M.ram.length<=A.cr/\A.cr<=9223372036854775807:=by
 have f:=h.fam.own (aB A.ar M.ram.length A.cr M.ram) ck;have d:=AK (w:=w) (a:=A.ar) (c:=A.cr) f;rcases f.2 with ⟨e,j⟩|⟨b,cap,i,e,_⟩;·have:M.ram.length=0:=j;omega
 ·have k:Value.slice A.ar M.ram.length A.cr=.slice (some ⟨b,0,none⟩) M.ram.length cap:=e;injection k with e3
  exact ⟨b,e3,d.2.1,by have:=d.2.2;unfold maxLen at this;exact this⟩
theorem OH {B r:Nat} {M:MV} {A:MA} {w:World} (a:Qs M) (pa size:Int) (c:U pa) (h:Mp B r M A w):CB 188 #[.slice A.ar M.ram.length A.cr,.u pa,.i size] w (.tuple #[.u (lK M.ram M.ram.length pa size),.bool (fQ M.ram.length pa size)]):=by obtain ⟨g,b,f,i⟩:=h.shape (Dc a.ram);have d:=h.fam.msl.ram;rw [b] at d;rw [b];exact oY g M.ram.length A.cr M.ram pa size w rfl a.len.ram d a.wram f i c.1 (by have:=c.2;omega)
theorem GI (M:MV) (A:MA) (B r:Nat) (pa size kind x:Int) (w:World) (hm:Mp B r M A w) (d:Qs M) (P:ic size=true) (hk:kind=1\/kind=2\/kind=3) (p:U pa) (hx:U x):Calls prog 235 #[.p r 0,.u pa,.i size,.i kind,.u x] w λe a=>e=.returned (.tuple #[.u (Av M pa size kind x).1,.bool (Av M pa size kind x).2.1])/\∃ c,Mp B r (Av M pa size kind x).2.2 c a/\Kx r (aH M A) (aH (Av M pa size kind x).2.2 c) w a:=by
 have f:=d.len
 have t:sU M.d pa size=jc M.d (gg pa size):=by unfold sU;rw [d.ok];rfl
 have y:qf M.d pa size x=fy M.d x (gg pa size):=by unfold qf;rw [d.ok];rfl
 have F:=λa (h:Mp B r M A a)=>OH (A:=A) (w:=a) d pa size p h
 rcases hk with rfl|rfl|rfl
 ·refine (Lx M A B r pa size x _ _ w hm F).mono λe a h=>?_
  unfold Av lK at *
  revert h
  cases fQ M.ram.length pa size<;>intro h<;>exact h
 ·obtain ⟨g,i⟩:∃ X,X=if (jc M.d (gg pa size)).2.2=true then dy M (jc M.d (gg pa size)).2.1 else M:=⟨_,rfl⟩
  have s:g.cs.length=22:=by rw [i];split<;>exact d.h22
  have D:jF g:=by
   rw [i]
   have:=JM M.d (gg pa size) f.xs f.ys
   split
   ·exact ⟨f.x,f.cs,f.ram,this.1,this.2⟩
   ·exact f
  have J:∀ a,Mp B r M A a->Calls prog 253 #[.p r 5,.u pa,.i size] a λe b=>e=.returned (.tuple #[.u (jc M.d (gg pa size)).1,.bool (jc M.d (gg pa size)).2.2])/\∃ c,Mp B r g c b/\Kx r (aH M A) (aH g c) a b:=λa h=>by
   rw [i]
   refine Lt M A B r pa size _ (jc M.d (gg pa size)).2.1 _ a h (λb k=>?_)
   have l:=se M.d A.ai A.ci A.ao A.co pa size b f.xs f.ys d.wd k.fam.msl.xs k.fam.msl.ys
   rw [t] at l
   exact l
  have z:=λ(c:MA) a (h:Mp B r g c a)=>ym g c B r a s D h
  refine (Ly M A B r pa size x _ _ g (gK g) _ _ w hm F J z).mono λe a h=>?_
  have H:gK g=if (jc M.d (gg pa size)).2.2=true then dH (dy M (jc M.d (gg pa size)).2.1) else M:=by
   rw [i]
   cases m:(jc M.d (gg pa size)).2.2 with
   | true=>rw [if_pos rfl,if_pos rfl];exact pS (Ev M.d _ d.ok m)
   | false=>rw [if_neg a5,if_neg a5];rw [pS d.ok];exact wI d.h22 d.U9 d.bells
  rw [H] at h
  have E:(jc M.d (gg pa size)).2.2=false->(jc M.d (gg pa size)).1=0:=OE M.d _
  unfold Av lK at *
  revert h E
  cases fQ M.ram.length pa size<;>cases (jc M.d (gg pa size)).2.2<;>intro h E
  ·rw [E rfl] at h;exact h
  ·exact h
  ·exact h
  ·exact h
 ·obtain ⟨R,j⟩:∃ R,R=jL M.ram M.ram.length pa size x:=⟨_,rfl⟩
  have u:R.length<=1048576:=by rw [j];exact Bg _ _ _ _ _ rfl f.ram
  have n:=Em M.d x f.xs (xr d.ok).2.1 (gg pa size)
  have v:=λa (h:Mp B r M A a)=>uS A.ar M.ram.length A.cr M.ram pa size x a rfl f.ram h.fam.msl.ram p.1 (by have:=p.2;omega) hx.1 (by have:=hx.2;omega)
  unfold ii at v
  simp only [<- j] at v
  have L:=λa (h:Mp B r M A a)=>Lu M A B r pa size x (fy M.d x (gg pa size)).1 (fy M.d x (gg pa size)).2 a h (λb k=>by
   have l:=qM M.d A.ai A.ci A.ao A.co pa size x b f.xs f.ys d.wd k.fam.msl.xs k.fam.msl.ys
   rw [y] at l
   exact l)
  have z:∀ (X:MV) (c:MA) a,Mp B r X c a->(X=bz M R\/X=dy M (fy M.d x (gg pa size)).1)->Calls prog 254 #[.p r 0] a λe b=>e=.returned (.tuple #[])/\Mp B r (gK X) c b/\Kx r (aH X c) (aH (gK X) c) a b:=λX c a h C=>by
   rcases C with rfl|rfl
   ·exact ym _ c B r a d.h22 ⟨f.x,f.cs,u,f.xs,f.ys⟩ h
   ·exact ym _ c B r a d.h22 ⟨f.x,f.cs,f.ram,n.1,n.2⟩ h
  have I:∀ (X:MV) (c:MA) a,Mp B r X c a->(X=gK (bz M R)\/X=gK (dy M (fy M.d x (gg pa size)).1))->Calls prog 284 #[.p r 0,.u pa] a λe b=>e=.returned (.tuple #[])/\Mp B r (mX X pa) c b/\Kx r (aH X c) (aH (mX X pa) c) a b:=λX c a h C=>by
   have O:U X.hd:=by rcases C with rfl|rfl<;>exact d.hd
   exact IF X c B r pa (nG X pa) a h (Mi X pa p O)
  have K:=λa (h:Mp B r M A a)=>Oa M A B r pa size x R (fy M.d x (gg pa size)).1 (fQ M.ram.length pa size) (fy M.d x (gg pa size)).2 gK (λX=>mX X pa) a h v L z I
  refine (Lw M _ A B r pa size x _ w hm K).mono λe a h=>?_
  have G:gK (bz M R)=bz M R:=by
   have N:kB (bz M R)=true:=d.bells
   rw [pS (M:=bz M R) d.ok]
   exact wI (M:=bz M R) d.h22 d.U9 N
  have q:(fy M.d x (gg pa size)).2=true->gK (dy M (fy M.d x (gg pa size)).1)=dH (dy M (fy M.d x (gg pa size)).1):=λm=>pS (M:=dy M (fy M.d x (gg pa size)).1) (Ew M.d x pa size d.ok m)
  have o:fQ M.ram.length pa size=true->R=jZ M.ram (pa-2147483648).toNat x size.toNat:=λm=>by rw [j];unfold jL;rw [m];rfl
  rw [G] at h
  unfold Av
  revert h q o
  cases fQ M.ram.length pa size<;>cases (fy M.d x (gg pa size)).2<;>intro h q o
  ·exact h
  ·rw [q rfl] at h;exact h
  ·rw [o rfl] at h;exact h
  ·rw [o rfl] at h;exact h
structure Sa (w:World) (cs:Array Value) (W:World):Prop where
 m:W.heap[w.heap.size]?=some (.cells cs 32 (0,0))
 r:∃ old,old.size=14/\W.heap[w.heap.size+1]?=some (.cells old 32 (0,0))
 b:Bw w W
section
variable {w W W' : World} {cs : Array Value}
theorem Sa.below (h:Sa w cs W) (hb:Bw W W'):Sa w cs W' :=
 ⟨an hb h.m,let ⟨o,a,b⟩:=h.r;⟨o,a,an hb b⟩,aa h.b hb⟩
theorem Sa.out (h:Sa w cs W) (d:Array Value) (hd:d.size=14):Sa w cs (W.setRow (w.heap.size+1) d):=
 ⟨(setRow_other W _ _ d al).trans h.m,let ⟨o,b,a⟩:=h.r;⟨d,hd,setRow_heap _ _ o _ _ _ a⟩,ch h.b al d⟩
theorem Sa.ez:Ez (Sa w cs) [⟨w.heap.size,cs,[]⟩]:=
 ⟨λW h r a=>by rw [List.mem_singleton] at a;subst a;exact ⟨_,_,h.m⟩,λW h=>h.below (Below.refl _ _).drew⟩
theorem Sa.eng {P:Program} {fn:Func} {Rs:Ending->World->Prop}:pd P (Sa w cs) (Sa w cs) [⟨w.heap.size,cs,[]⟩] true (bodyPost P fn Rs):=⟨λ_ h=>h,Sa.ez.rows,λ_=>Sa.ez.drew,dA⟩
theorem Sa.start:Sa w cs (ew w [(cs,32),(aO bx zeroA,32)]):=by obtain ⟨a,b⟩:=Bs.start w [(cs,32),(aO bx zeroA,32)];exact ⟨a 0 _ rfl,⟨_,rfl,a 1 _ rfl⟩,b⟩
theorem Sa.two (h:Sa w cs W):w.heap.size+2<=W.heap.size:=by obtain ⟨o,_,a⟩:=h.r;have:=(Array.getElem?_eq_some_iff.1 a).1;omega
end
structure Sc (w:World) (cs:Array Value) (B r:Nat) (M:MV) (A:MA) (W:World):Prop where
 a:Sa w cs W
 mp:Mp B r M A W
 lo:w.heap.size+2<=B
section
variable {w W W' : World} {cs : Array Value} {B r : Nat} {M : MV} {A : MA}
theorem Sc.below (h:Sc w cs B r M A W) (hb:Bw W W'):Sc w cs B r M A W':=⟨h.a.below hb,h.mp.below hb,h.lo⟩
theorem Sc.out (h:Sc w cs B r M A W) (d:Array Value) (hd:d.size=14):Sc w cs B r M A (W.setRow (w.heap.size+1) d):=by have a:=h.mp.lo;have f:=h.lo;refine ⟨h.a.out d hd,⟨(setRow_other W _ _ d al).trans h.mp.row,?_,h.mp.ne,h.mp.lo⟩,h.lo⟩;exact (h.mp.fam.mono λk b c e=>setRow_other W _ _ d al).low (Nat.le_refl _) (by rw [setRow_size];exact Nat.le_refl _)
theorem Sc.ez:Ez (Sc w cs B r M A) [⟨w.heap.size,cs,[]⟩,⟨r,aO M A,[]⟩]:=
 ⟨λW h q a=>by
  simp only [List.mem_cons,List.not_mem_nil,or_false] at a
  rcases a with rfl|rfl
  ·exact ⟨_,_,h.a.m⟩
  ·exact ⟨_,_,h.mp.row⟩,λW h=>h.below (Below.refl _ _).drew⟩
theorem Sc.eng {P:Program} {fn:Func} {Rs:Ending->World->Prop}:pd P (Sc w cs B r M A) (Sc w cs B r M A) [⟨w.heap.size,cs,[]⟩,⟨r,aO M A,[]⟩] true (bodyPost P fn Rs):=⟨λ_ h=>h,Sc.ez.rows,λ_=>Sc.ez.drew,dA⟩
end
theorem bp.set1 {B E g:Nat} {w:World} {L:List FRow} (h:bp B E w L) (cs:Array Value) (b:g<B):bp B E (w.setRow g cs) L:=h.mono λk a _ _=>setRow_other w g k cs al
theorem Dw.fam {B E:Nat} {w W:World} {L:List FRow} (h:bp B E w L) (d:Dw w W):bp B E W L:=by obtain ⟨j,rfl⟩:=d;exact h.mono λ_ _ _ _=>rfl
theorem Dw.size {w W:World} (d:Dw w W):W.heap.size=w.heap.size:=by obtain ⟨j,rfl⟩:=d;rfl
theorem Sa.dw {w W V:World} {cs:Array Value} (h:Sa w cs W) (d:Dw W V):Sa w cs V:=by obtain ⟨j,rfl⟩:=d;exact ⟨h.m,h.r,⟨h.b.os,h.b.tape,h.b.output,h.b.size,h.b.block⟩⟩
abbrev vu (w:World) (V:Int × MV × Int):Ending->World->Prop:=λe a=>∃ C,e=.returned (.tuple #[.u V.1,.agg (aO V.2.1 C),.i V.2.2])/\bp w.heap.size a.heap.size a (aH V.2.1 C)/\Bw w a
theorem Sc.fin {w W d V:World} {cs:Array Value} {B r:Nat} {M:MV} {A:MA} {y c:Int} {U:Int × MV × Int} (h:Sc w cs B r M A W) (a:Dw W d) (b:Dw (d.setRow (w.heap.size+1) (aO M A)) V) (e:U=(y,M,c)):vu w U (.returned (.tuple #[.u y,.agg (aO M A),.i c])) V:=by subst e;have i:=(a.fam h.mp.fam).set1 (g:=w.heap.size+1) (aO M A) (by have:=h.lo;omega);have f:=ch (h.a.dw a).b (g:=w.heap.size+1) al (aO M A);refine ⟨A,rfl,(b.fam i).low (by have:=h.lo;omega) ?_,b.below f⟩;rw [b.size,setRow_size,a.size];exact Nat.le_refl _
theorem yo (M:MV) (A:MA) (addr size kind x:Int) (w:World) (hl:jF M) (hs:uO w M A) (r:MW M) (c:ui M size kind=false):Calls prog 200 #[.func (.func 40) #[] #[],.agg (aO M A),.u addr,.i size,.i kind,.u x] w (vu w (0,bx,99)):=by
 have f:=λW (h:Sa w (aO M A) W)=>iZ M A W hl (hs.below h.b) r.cs;have g:=λW (_:Sa w (aO M A) W)=>fV size W;have e:=λW (_:Sa w (aO M A) W)=>um kind W;unfold ui at c;generalize gY M=i at *;generalize ic size=j at *;generalize decide (1<=kind/\kind<=3)=k at *;generalize n:(kind==1)=l at *;generalize q:(size != 4)=m at *;refine cn (S:=Sa w (aO M A)) [(aO M A,32),(aO bx zeroA,32)] func200 ?_;cases i;case' true =>
  cases j;case' true =>
   cases k;case' true =>
    cases l;case' false=>cases c
    case' true =>cases m;case' false=>cases c
 all_goals
  refine af Sa.eng {eq:=[(37,au n),(40,au q)],cv:=[(23,lq Sa.below f),(27,mt g),(32,mt e)]} 300 Sa.start λt d=>?_
  refine kS (s:=12) (p:=13) (u:=14) (T:=32) (cs:=aO bx zeroA) (v1:=.u 0) (v2:=.i 99) Sa.ez d {} 40 (λW h=>h.out _ rfl) (λW h=>let ⟨o,a,b⟩:=h.r;⟨o,_,a,b⟩) a3 (gA _ _) underlying32 rfl rfl a3 a3 a3 λW V a b=>?_
  exact ⟨zeroA,rfl,qE _ _ _,b.below (ch (d.dw a).b al _)⟩
theorem Sa.fin {w W d V:World} {cs:Array Value} {B:Nat} {M:MV} {A:MA} {y c:Int} {U:Int × MV × Int} (h:Sa w cs W) (i:bp B W.heap.size W (aH M A)) (k:w.heap.size+2<=B) (a:Dw W d) (b:Dw (d.setRow (w.heap.size+1) (aO M A)) V) (e:U=(y,M,c)):vu w U (.returned (.tuple #[.u y,.agg (aO M A),.i c])) V:=by subst e;have j:=(a.fam i).set1 (g:=w.heap.size+1) (aO M A) al;have f:=ch (h.dw a).b (g:=w.heap.size+1) al (aO M A);refine ⟨A,rfl,(b.fam j).low al ?_,b.below f⟩;rw [b.size,setRow_size,a.size];exact Nat.le_refl _
theorem Sa.set {w W:World} {cs:Array Value} (h:Sa w cs W) (r:Nat) (hr:w.heap.size+2<=r) (d:Array Value):Sa w cs (W.setRow r d):=
 ⟨(setRow_other W _ _ d al).trans h.m,let ⟨o,a,b⟩:=h.r;⟨o,a,(setRow_other W _ _ d al).trans b⟩,ch h.b al d⟩
theorem vx (M:MV) (A:MA) (addr size kind x:Int) (w:World) (hl:jF M) (hs:uO w M A) (I:MW M) (hhd:U M.hd) (ha:U addr) (hx:U x) (hT:qb w) (hgd:uA M.ram.length A.ar A.cr) (hmk:gY M=true) (N:ic size=true) (L:1<=kind/\kind<=3) (b4 b5:Bool) (h4:(kind==1)=b4) (h5:(size != 4)=b5) (h45:(b4&&b5)=false):Calls prog 200 #[.func (.func 40) #[] #[],.agg (aO M A),.u addr,.i size,.i kind,.u x] w (vu w (aC M addr size kind x)):=by
 have HK:=λW (h:Sa w (aO M A) W)=>iZ M A W hl (hs.below h.b) I.cs;have HS:=λW (_:Sa w (aO M A) W)=>fV size W;have HI:=λW (_:Sa w (aO M A) W)=>um kind W;rw [hmk] at HK;rw [N] at HS;rw [decide_eq_true L] at HI;obtain ⟨n,P,hpr,hr0,hd0,hb0⟩:=aF hmk;have f:kind=1\/kind=2\/kind=3:=al
 have hs5:size=1\/size=2\/size=4\/size=8:=of_decide_eq_true N;have hp:=t9 (I.cs 0) P hpr kind;obtain ⟨V,Y⟩:∃ V,V=aC M addr size kind x:=⟨_,rfl⟩;rw [<- Y];unfold aC at Y;have hwr:Uz.wrap size=size:=by rcases hs5 with rfl|rfl|rfl|rfl<;>decide +kernel
 have hmod:addr.tmod size=addr%size:=by rw [Int.tmod_eq_emod_of_nonneg ha.1]
 obtain ⟨p,Q⟩:∃ p,eC M.cs M.pr kind=p:=⟨_,rfl⟩;obtain ⟨G,hG⟩:∃ G,bO M.ram M.ram.length M.cs p addr kind=G:=⟨_,rfl⟩;have hga:U G.addr:=by rw [<- hG];exact sB _ _ _ _ _ _ ha
 have hlg:aQ 22 M.cs p=true:=by unfold aQ;rw [P,<- Q,hp];rfl
 have hwk:mD M.ram.length M.cs.length M.cs p kind=true:=by unfold mD;rw [hr0,n,hlg];unfold iF;simpa using L
 have HE:∀ W,Sa w (aO M A) W->CB 234 #[.slice A.ac M.cs.length A.cc,.i M.pr,.i kind] W (.i p):=λW h=>by have h:=kW A.ac M.cs.length A.cc M.cs M.pr kind W rfl (hs.cs.below h.b) I.cs;unfold zI at h;rw [n,show aQ 22 M.cs M.pr=true by unfold aQ;rw [P,hpr];rfl,decide_eq_true L,Q] at h;rw [n];exact h
 have HW:∀ W,Sa w (aO M A) W->Calls prog 40 #[.slice A.ar M.ram.length A.cr,.slice A.ac M.cs.length A.cc,.i p,.u addr,.i kind] W λe c=>∃ D E,e=.returned (.tuple #[.u G.addr,.i G.code,.slice D (aN M.ram G).length E])/\bp W.heap.size c.heap.size c [aB D (aN M.ram G).length E (aN M.ram G)]/\Bw W c:=λW h=>by have h:=pX A.ar M.ram.length A.cr M.ram A.ac M.cs.length A.cc M.cs p addr kind W rfl hl.ram (hs.ram.below h.b) I.ram rfl (hs.cs.below h.b) I.cs ha (hT.below h.b) hgd;unfold DY DZ tH at h;rw [hwk] at h;simp only [if_true,hG] at h;exact h.mono λe c ⟨D,E,h1,h2,h3⟩=>⟨D,E,h1,(bp.nil W.heap.size W.heap.size c).snoc (aB D (aN M.ram G).length E (aN M.ram G)) _ _ h2 (Nat.le_refl _) (Nat.le_refl _) (Nat.le_refl _) h3.size,h3⟩
 have HP:∀ W,Sa w (aO M A) W->CB 189 #[.slice A.ac M.cs.length A.cc,.i p,.u G.addr,.i size,.i kind] W (.bool (!FQ M.cs p G.addr size kind)):=λW h=>by have h:=jT A.ac M.cs.length A.cc M.cs p G.addr size kind W rfl (hs.cs.below h.b) I.cs hga (hT.below h.b);rw [n,JV M.cs p G.addr size kind hlg N (decide_eq_true L)] at h;rw [n];exact h
 have HCC:=λW (_:True)=>gt kind f W;have HAC:=λW (_:True)=>mE kind f W;have qc:IntKind.i64.wrap ((if kind=1 then 0 else if kind=2 then 4 else 6)+16)=qu kind:=by rcases f with rfl | rfl | rfl<;>decide +kernel
 have qa:IntKind.i64.wrap ((if kind=2 then 5 else if kind=3 then 7 else 1)+16)=jp kind:=by rcases f with rfl|rfl|rfl<;>decide +kernel
 have qg:IntKind.i64.wrap (G.code+16)=wrap64 (G.code+16):=by simp only [IntKind.wrap_i64,wrap64]
 rw [Q,hG] at Y;refine cn (S:=Sa w (aO M A)) [(aO M A,32),(aO bx zeroA,32)] func200 ?_;generalize h6:(addr%size != 0)=b6 at *;have h6':(addr.tmod size != 0)=b6:=by rw [hmod];exact h6
 cases b6 with
 | true =>
   cases b4<;>cases b5;case true.true=>cases h45
   all_goals
    refine aW (Rc:=λW e g=>∃ (a':Option Addr) (c':Nat),e=.returned (.slice a' M.ram.length c')/\g.ownsRow W.heap.size 5 1 (.slice a' M.ram.length c') M.ram.length (M.ram.map (Value.int .u8))/\Bw W g) Sa.eng {eq:=[(37,au h4),(40,au h5),(46,ei .u64 hwr),(48,au h6')],ov:=[(47,Nf .u64 addr size al)],cv:=[(23,lq Sa.below HK),(27,mt HS),(32,mt HI)]} 300 Sa.start (λW h=>oe A.ar _ A.cr M.ram W rfl hl.ram (hs.ram.below h.b)) λi e w1 F B=>?_
    obtain ⟨a1,c1,rfl,ho1,l⟩:=B
    have J:=F.below l
    refine ⟨_,0,rfl,λ_=>J,?_⟩
    have F1:=(bp.nil i.heap.size i.heap.size w1).snoc (aB a1 M.ram.length c1 M.ram) _ w1.heap.size ho1 (Nat.le_refl _) (Nat.le_refl _) (Nat.le_refl _) l.size
    refine sn (Rc:=λW e g=>∃ C:MA,C.ar=a1/\C.cr=c1/\e=.returned (.agg (aO (sa M M.ram) C))/\bp i.heap.size g.heap.size g (aH (sa M M.ram) C)/\(∀ q ∈ aH (sa M M.ram) C,∀ k,q.v.ownBlock=some k->W.heap.size<=k\/(Value.slice a1 M.ram.length c1).ownBlock=some k)/\Bw W g) Sa.ez J {} 60 (λW d=>qH M A M.ram a1 M.ram.length c1 i.heap.size W hl (hs.below (J.dw d).b) (by rw [d.size];exact d.fam F1) (by rw [d.size];exact l.size) rfl) λW1 e w2 d1 B=>?_
    obtain ⟨C,hC1,hC2,rfl,Z,F2n,H⟩:=B
    have O:=(J.dw d1).below H
    refine ⟨_,0,rfl,O,?_⟩
    refine kS (s:=12) (p:=13) (u:=14) (T:=32) (cs:=aO M C) (v1:=.u 0) (v2:=.i (qu kind)) Sa.ez O {eq:=[(56,ei .i64 qc)],cv:=[(55,mt λW _=>gt kind f W)]} 60 (λW h=>h.out _ rfl) (λW h=>let ⟨o,a,b⟩:=h.r;⟨o,_,a,b⟩) a3 (gA _ _) underlying32 rfl rfl a3 a3 a3 λW V a b=>?_
    exact Sa.fin O Z F.two a b (by rw [Y,if_pos rfl])
 | false =>
   have r:V=if (G.code != 0)=true then (0,bz M (aN M.ram G),wrap64 (G.code+16)) else if FQ M.cs p G.addr size kind=true then (0,bz M (aN M.ram G),jp kind) else if (Av (bz M (aN M.ram G)) G.addr size kind x).2.1=true then ((Av (bz M (aN M.ram G)) G.addr size kind x).1,(Av (bz M (aN M.ram G)) G.addr size kind x).2.2,0) else (0,(Av (bz M (aN M.ram G)) G.addr size kind x).2.2,jp kind):=by rw [Y,if_neg a5];unfold xL;rw [OF]
   clear Y;have hRm:Qs (bz M (aN M.ram G)):=⟨n,I.cs 9,hb0,hd0,by show be (aN M.ram G).length=true;rw [jH];exact hr0,⟨hl.x,hl.cs,by show (aN M.ram G).length<=_;rw [jH];exact hl.ram,hl.xs,hl.ys⟩,yc M.ram I.ram G,⟨I.xs,I.ys⟩,hhd⟩;generalize h7:(G.code != 0)=b7 at *;generalize FQ M.cs p G.addr size kind=b8 at *;rcases hrch:Av (bz M (aN M.ram G)) G.addr size kind x with ⟨y,ok,X⟩;rw [hrch] at r;dsimp only at r;cases b4<;>cases b5;case true.true=>cases h45
   all_goals
    refine aW (Rc:=λW e g=>∃ D E,e=.returned (.tuple #[.u G.addr,.i G.code,.slice D (aN M.ram G).length E])/\bp W.heap.size g.heap.size g [aB D (aN M.ram G).length E (aN M.ram G)]/\Bw W g) Sa.eng {eq:=[(37,au h4),(40,au h5),(46,ei .u64 hwr),(48,au h6')],ov:=[(47,Nf .u64 addr size al)],cv:=[(23,lq Sa.below HK),(27,mt HS),(32,mt HI),(62,lq Sa.below HE)]} 300 Sa.start HW λi e w1 F B=>?_
    obtain ⟨D,E,rfl,F1,l⟩:=B
    have J:=F.below l
    refine ⟨_,0,rfl,λ_=>J,?_⟩
    refine sn (Rc:=λW e g=>∃ C:MA,C.ar=D/\C.cr=E/\e=.returned (.agg (aO (sa M (aN M.ram G)) C))/\bp i.heap.size g.heap.size g (aH (sa M (aN M.ram G)) C)/\(∀ q ∈ aH (sa M (aN M.ram G)) C,∀ k,q.v.ownBlock=some k->W.heap.size<=k\/(Value.slice D (aN M.ram G).length E).ownBlock=some k)/\Bw W g) Sa.ez J {} 60 (λW d=>qH M A (aN M.ram G) D (aN M.ram G).length E i.heap.size W hl (hs.below (J.dw d).b) (by rw [d.size];exact d.fam F1) (by rw [d.size];exact l.size) rfl) λW1 e w2 d1 B=>?_
    obtain ⟨C,hC1,hC2,rfl,Z,F2n,H⟩:=B
    have O:=(J.dw d1).below H
    refine ⟨_,0,rfl,O,?_⟩
    refine Nh (v:=λW=>.p W.heap.size 0) Sa.ez O {} 60 2 (λW=>W.alloc (.cells (aO bx zeroA) 32)) (λW d=>gF (z:=.agg (aO bx zeroA)) a3 W) λm d2=>?_
    have S3:Sa w (aO M A) (m.alloc (.cells (aO bx zeroA) 32)):=(O.dw d2).below (bal _ _)
    refine ⟨S3,?_⟩
    have z2:m.heap.size=w2.heap.size:=d2.size
    have hN:=O.two
    refine DL Sa.ez S3 {} 60 (λW=>W.setRow m.heap.size (aO (bz M (aN M.ram G)) C)) (λW d=>bj (t:=32) (ty:=32) (old:=aO bx zeroA) (by obtain ⟨j,rfl⟩:=d;exact heap_alloc_new _ _) a3 rfl (gA _ _)) λW3 d3=>?_
    refine ⟨(S3.dw d3).set _ al _,?_⟩
    have S4:Sc w (aO M A) i.heap.size m.heap.size (bz M (aN M.ram G)) C (W3.setRow m.heap.size (aO (bz M (aN M.ram G)) C)):=by
     have z3:W3.heap.size=m.heap.size+1:=by rw [d3.size,World.size_alloc]
     refine ⟨(S3.dw d3).set _ al _,⟨?_,?_,λq hq e=>?_,?_⟩,F.two⟩
     ·exact setRow_heap _ _ _ _ _ _ (by obtain ⟨j,rfl⟩:=d3;exact heap_alloc_new _ _)
     ·have f3:bp i.heap.size w2.heap.size W3 (aH (sa M (aN M.ram G)) C):=d3.fam ((d2.fam Z).mono λk _ h2 h3=>(heap_alloc_old _ _ h3))
      exact (f3.mono λk _ h2 _=>setRow_other _ _ _ _ al).low (Nat.le_refl _) (by rw [setRow_size,z3];omega)
     ·have:=Z.hi q hq _ e;omega
     ·have:=H.size;have:=d1.size;have:=l.size;omega
    refine aR (Sc w (aO M A) i.heap.size m.heap.size (bz M (aN M.ram G)) C) ?_
    clear Z F2n F1 H
    cases b7 with
    | true =>
      refine kS (s:=12) (p:=13) (u:=14) (T:=32) (cs:=aO (bz M (aN M.ram G)) C) (v1:=.u 0) (v2:=.i (wrap64 (G.code+16))) Sc.ez S4 {eq:=[(80,au h7),(83,ei .i64 qg)]} 60 (λW h=>h.out _ rfl) (λW h=>let ⟨o,a,b⟩:=h.a.r;⟨o,_,a,b⟩) a3 (gA _ _) underlying32 rfl rfl a3 a3 a3 λW V a b=>?_
      exact S4.fin a b (by rw [r,if_pos rfl])
    | false =>
      have HP':=λW (h:Sc w (aO M A) i.heap.size m.heap.size (bz M (aN M.ram G)) C W)=>HP W h.a
      cases b8 with
      | true =>
        refine af Sc.eng {eq:=[(80,au h7)],cv:=[(90,lq Sc.below HP')]} 60 S4 λw5 K=>?_
        refine kS (s:=12) (p:=13) (u:=14) (T:=32) (cs:=aO (bz M (aN M.ram G)) C) (v1:=.u 0) (v2:=.i (jp kind)) Sc.ez K {eq:=[(95,ei .i64 qa)],cv:=[(94,mt λW _=>mE kind f W)]} 60 (λW h=>h.out _ rfl) (λW h=>let ⟨o,a,b⟩:=h.a.r;⟨o,_,a,b⟩) a3 (gA _ _) underlying32 rfl rfl a3 a3 a3 λW V a b=>?_
        exact K.fin a b (by rw [r,if_neg a5,if_pos rfl])
      | false =>
        refine aW (Rc:=λW e g=>e=.returned (.tuple #[.u y,.bool ok])/\∃ A',Mp i.heap.size m.heap.size X A' g/\Kx m.heap.size (aH (bz M (aN M.ram G)) C) (aH X A') W g) Sc.eng {eq:=[(80,au h7)],cv:=[(90,lq Sc.below HP')]} 60 S4 (λW h=>by have B:=GI (bz M (aN M.ram G)) C i.heap.size m.heap.size G.addr size kind x W h.mp hRm N f hga hx;rw [hrch] at B;exact B) λW5 e w6 K B=>?_
        obtain ⟨rfl,A2,m6,k6⟩:=B
        have R:=K.mp.under k6
        have hlo:=K.lo
        have S6:Sc w (aO M A) i.heap.size m.heap.size X A2 w6:=by
         refine ⟨⟨(R.block _ al).trans K.a.m,?_,K.a.b.trans ⟨R.os,R.tape,R.output,R.size,λk hk=>R.block k al⟩⟩,m6,K.lo⟩
         obtain ⟨o,a,b⟩:=K.a.r
         exact ⟨o,a,(R.block _ al).trans b⟩
        refine ⟨_,0,rfl,gp a3,?_⟩
        refine aR (Sc w (aO M A) i.heap.size m.heap.size X A2) ?_
        cases ok with
        | true =>
          refine kS (s:=12) (p:=13) (u:=14) (T:=32) (cs:=aO X A2) (v1:=.u y) (v2:=.i 0) Sc.ez S6 {} 60 (λW h=>h.out _ rfl) (λW h=>let ⟨o,a,b⟩:=h.a.r;⟨o,_,a,b⟩) a3 (gA _ _) underlying32 rfl rfl a3 a3 a3 λW V a b=>?_
          exact S6.fin a b (by rw [r,if_neg a5,if_neg a5,if_pos rfl])
        | false =>
          refine kS (s:=12) (p:=13) (u:=14) (T:=32) (cs:=aO X A2) (v1:=.u 0) (v2:=.i (jp kind)) Sc.ez S6 {eq:=[(109,ei .i64 qa)],cv:=[(108,mt λW _=>mE kind f W)]} 60 (λW h=>h.out _ rfl) (λW h=>let ⟨o,a,b⟩:=h.a.r;⟨o,_,a,b⟩) a3 (gA _ _) underlying32 rfl rfl a3 a3 a3 λW V a b=>?_
          exact S6.fin a b (by rw [r,if_neg a5,if_neg a5,if_neg a5])
theorem yp (M:MV) (A:MA) (addr size kind x:Int) (w:World) (hl:jF M) (hs:uO w M A) (d:MW M) (c:U M.hd) (f:U addr) (hx:U x) (e:qb w) (b:gY M=true->uA M.ram.length A.ar A.cr):Calls prog 200 #[.func (.func 40) #[] #[],.agg (aO M A),.u addr,.i size,.i kind,.u x] w (vu w (sC M addr size kind x)):=by
 unfold sC;cases a:ui M size kind with
 | false=>rw [if_neg a5];exact yo M A addr size kind x w hl hs d a
 | true =>rw [if_pos rfl];unfold ui at a;simp only [Bool.and_eq_true,decide_eq_true_eq] at a;exact vx M A addr size kind x w hl hs d c f hx e (b a.1.1.1) a.1.1.1 a.1.1.2 a.1.2 _ _ rfl rfl (by simpa only [Bool.not_eq_true'] using a.2)
theorem Iv.ez {bs:List Nat} {w:World} {R:List Rw}:Ez (Iv bs w R) R:=⟨λ_ h r a=>(h.rows r a).in_,λ_ h=>⟨λr a=>h.rows r a,h.ag.drew,h.sub,h.nd⟩⟩
theorem Iv.two {W:World} {g b:Nat} {cs d:Array Value} (e:gG ⟨g,cs,[]⟩ W) (f:gG ⟨b,d,[]⟩ W) (c:g≠b):Iv [g,b] W [⟨g,cs,[]⟩,⟨b,d,[]⟩] W :=
 ⟨λr a=>by
  simp only [List.mem_cons,List.not_mem_nil,or_false] at a
  rcases a with rfl|rfl
  ·exact e
  ·exact f,Ag.refl _ _,λr a=>by
  simp only [List.mem_cons,List.not_mem_nil,or_false] at a
  rcases a with rfl|rfl<;>simp,tk⟩
theorem mL {B E g:Nat} {W W':World} {L:List FRow} {R:List Rw} (k:Iv [g] W R W') (f:bp B E W L) (d:g<B):bp B E W' L:=f.mono λi b c a=>k.ag.block i a (by rw [List.mem_singleton];omega)
theorem sF {w W W':World} {g b B E:Nat} {cs c:Array Value} {R:List Rw} {L:List FRow} (a:Iv [g] w [⟨g,cs,[]⟩] W) (k:Iv [g,b] W R W') (f:bp B E W L) (hb:w.heap.size<=b) (l:w.heap.size<=B) (m:E<=W.heap.size) (hx:b<B\/E<=b) (p:g<w.heap.size) (row:gG ⟨g,c,[]⟩ W'):Iv [g] w [⟨g,c,[]⟩] W'/\bp w.heap.size W'.heap.size W' L:=by
 refine ⟨⟨λr d=>by rw [List.mem_singleton] at d;subst d;exact row,⟨k.ag.os.trans a.ag.os,k.ag.tape.trans a.ag.tape,k.ag.output.trans a.ag.output,Nat.le_trans a.ag.size k.ag.size,λi h e=>?_⟩,λr d=>by rw [List.mem_singleton] at d;subst d;simp,bc⟩,?_⟩;·rw [List.mem_singleton] at e;exact (k.ag.block i (Nat.lt_of_lt_of_le h a.ag.size) lh).trans (a.ag.block i h (by rw [List.mem_singleton];exact e))
 ·exact (f.mono λi n o j=>k.ag.block i j lh).low l (Nat.le_trans m k.ag.size)
theorem Iv.dw {bs:List Nat} {w W V:World} {R:List Rw} (h:Iv bs w R W) (d:Dw W V):Iv bs w R V:=h.below (d.below (Below.refl _ _))
theorem Iv.set {bs:List Nat} {w W:World} {R:List Rw} (h:Iv bs w R W) {b:Nat} (hb:b ∉ bs) (g:w.heap.size<=b) (cs:Array Value):Iv bs w R (W.setRow b cs):=
 ⟨λr c=>let ⟨t,a⟩:=h.rows r c;⟨t,(setRow_other W _ _ cs (λe=>hb (by rw [<- e];exact h.sub r c))).trans a⟩,⟨h.ag.os,h.ag.tape,h.ag.output,by rw [setRow_size];exact h.ag.size,λk f d=>(setRow_other W _ _ cs al).trans (h.ag.block k f d)⟩,h.sub,h.nd⟩
def mM (t:TV) (V:Int × MV × Int) (addr:Int):TV:=if V.2.2 != 0 then {t with up:=true,cz:=IntKind.i64.wrap (V.2.2-16),vl:=addr} else t
section
variable {w : World} {g : Nat} {M : MV} {A : MA} {t : TV}
theorem uC (V:Int × MV × Int) (addr size kind x:Int) (Y:t.ld=.func (.func 40) #[] #[]) (h:gG ⟨g,br M A t,[]⟩ w) (hA:∀ W,Iv [g] w [⟨g,br M A t,[]⟩] W->Calls prog 200 #[.func (.func 40) #[] #[],.agg (aO M A),.u addr,.i size,.i kind,.u x] W (vu W V)):Calls prog 149 #[.p g 0,.u addr,.i size,.i kind,.u x] w λe w'=>∃ C,e=.returned (.tuple #[.u (if V.2.2 != 0 then 0 else V.1),.bool (!(V.2.2 != 0))])/\Iv [g] w [⟨g,br V.2.1 C (mM t V addr),[]⟩] w'/\bp w.heap.size w'.heap.size w' (aH V.2.1 C):=by
 have c:g<w.heap.size:=let ⟨_,f⟩:=h;(Array.getElem?_eq_some_iff.1 f).1;refine fD (args:=[.p g 0,.u addr,.i size,.i kind,.u x]) (Iv [g] w [⟨g,br M A t,[]⟩]) func149 ?_;refine aL 0 1 ?_;refine af Iv.eng {eq:=[(19,⟨_,_,0,Y⟩)]} 60 (Iv.one h) λl D=>?_;refine tG (i:=12) (j:=17) ?_ ?_
 ·refine sx (hA l D) λe w1 f=>?_;obtain ⟨C,rfl,F1,y⟩:=f;refine ⟨_,0,rfl,D.below y,?_⟩;refine Nh (v:=λW=>.p W.heap.size 0) Iv.ez (D.below y) {} 60 2 (λW=>W.alloc (.cells (aO bx zeroA) 32)) (λW _=>gF (z:=.agg (aO bx zeroA)) a3 W) λo P=>?_;have u:=((D.below y).dw P).below (bal o (.cells (aO bx zeroA) 32));refine ⟨u,?_⟩;have z2:=P.size;have s0:=D.ag.size;have s1:=y.size;refine DL Iv.ez u {} 60 (λW=>W.setRow o.heap.size (aO V.2.1 C)) (λW d=>bj (t:=32) (ty:=32) (old:=aO bx zeroA) (by obtain ⟨j,rfl⟩:=d;exact heap_alloc_new _ _) a3 rfl (gA _ _)) λq r=>?_;have z3:q.heap.size=o.heap.size+1:=(by rw [r.size,World.size_alloc]);have E:=(u.dw r).set (b:=o.heap.size) (by rw [List.mem_singleton];omega) al (aO V.2.1 C);refine ⟨E,?_⟩;have Z:gG ⟨o.heap.size,aO V.2.1 C,[]⟩ (q.setRow o.heap.size (aO V.2.1 C)):=⟨32,setRow_heap _ _ _ _ _ _ (by obtain ⟨j,rfl⟩:=r;exact heap_alloc_new _ _)⟩;have Q:bp l.heap.size w1.heap.size (q.setRow o.heap.size (aO V.2.1 C)) (aH V.2.1 C):=(r.fam ((P.fam F1).mono λk _ _ u=>heap_alloc_old _ _ u)).mono λk _ _ _=>setRow_other _ _ _ _ al;have z4:(q.setRow o.heap.size (aO V.2.1 C)).heap.size=q.heap.size:=setRow_size _ _ _;refine af (re Iv.ez E) {} 60 (Dw.refl _) λL s=>?_;refine aR (λ_=>True) ?_;refine aL 13 2 ?_;have F:=E.dw s;have I:=s.fam Q;have z5:=s.size;have r5:gG ⟨o.heap.size,aO V.2.1 C,[]⟩ L:=let ⟨T,U⟩:=Z;⟨T,by obtain ⟨j,rfl⟩:=s;exact U⟩;have H:=Iv.two F.row1 r5 al;unfold mM;obtain ⟨B,m⟩:∃ B,(V.2.2 != 0)=B:=⟨_,rfl⟩;rw [m];cases B with
  | true =>refine fG (R1:=[⟨g,br V.2.1 C t,[]⟩,⟨o.heap.size,aO V.2.1 C,[]⟩]) H {eq:=[(37,au m)]} 60 (λW X=>jx (IntKind.i64.wrap (V.2.2-16)) addr (M:=V.2.1) (A:=C) (t:=t) (X.rows ⟨g,br V.2.1 C t,[]⟩ bc)) λW6 e w7 J f=>⟨_,0,f.1,?_⟩;obtain ⟨S,R⟩:=sF F J I al al al al c (J.rows ⟨g,br V.2.1 C t,[]⟩ bc);refine iC (Iv.one f.2.row1) {} 40 λN a n p=>⟨.tuple #[.u 0,.bool false],ka,C,rfl,(S.then1 f.2).then1 n,?_⟩;exact (mL n (mL f.2 R c) c).low (Nat.le_refl _) (Nat.le_trans f.2.ag.size n.ag.size)
  | false =>refine iC (R1:=[⟨g,br V.2.1 C t,[]⟩,⟨o.heap.size,aO V.2.1 C,[]⟩]) H {eq:=[(37,au m)]} 60 λN a n p=>⟨.tuple #[.u V.1,.bool true],i6,C,rfl,?_⟩;exact sF F n I al al al al c (n.rows ⟨g,br V.2.1 C t,[]⟩ bc)
 ·have K:=D.below (bal l (.cells (aO bx zeroA) 32));refine vZ (v:=.p l.heap.size 0) 2 (gF (T:=32) (z:=.agg (aO bx zeroA)) a3 l) K ?_;refine sn (Rc:=λW=>vu W V) Iv.ez K {} 60 (λW d=>hA W (K.dw d)) λW1 e w2 O f=>?_;obtain ⟨C,rfl,F2,G⟩:=f;have u:=(K.dw O).below G;refine ⟨_,0,rfl,u,?_⟩;have s0:=D.ag.size;have z1:W1.heap.size=l.heap.size+1:=(by rw [O.size,World.size_alloc]);have s2:=G.size;have q2:w2.heap[l.heap.size]?=some (.cells (aO bx zeroA) 32 (0,0)):=an G (by obtain ⟨j,rfl⟩:=O;exact heap_alloc_new _ _);refine DL Iv.ez u {} 60 (λW=>W.setRow l.heap.size (aO V.2.1 C)) (λW d=>bj (t:=32) (ty:=32) (old:=aO bx zeroA) (by obtain ⟨j,rfl⟩:=d;exact q2) a3 rfl (gA _ _)) λq r=>?_;have z3:=r.size;have E:=(u.dw r).set (b:=l.heap.size) (by rw [List.mem_singleton];omega) al (aO V.2.1 C);refine ⟨E,?_⟩;have Z:gG ⟨l.heap.size,aO V.2.1 C,[]⟩ (q.setRow l.heap.size (aO V.2.1 C)):=⟨32,setRow_heap _ _ _ _ _ _ (by obtain ⟨j,rfl⟩:=r;exact q2)⟩;have Q:bp W1.heap.size w2.heap.size (q.setRow l.heap.size (aO V.2.1 C)) (aH V.2.1 C):=(r.fam F2).mono λk _ _ _=>setRow_other _ _ _ _ al;have z4:(q.setRow l.heap.size (aO V.2.1 C)).heap.size=q.heap.size:=setRow_size _ _ _;refine af (re Iv.ez E) {} 60 (Dw.refl _) λL s=>?_;refine aR (λ_=>True) ?_;refine aL 13 2 ?_;have F:=E.dw s;have I:=s.fam Q;have z5:=s.size;have r5:gG ⟨l.heap.size,aO V.2.1 C,[]⟩ L:=let ⟨T,U⟩:=Z;⟨T,by obtain ⟨j,rfl⟩:=s;exact U⟩;have H:=Iv.two F.row1 r5 al;unfold mM;obtain ⟨B,m⟩:∃ B,(V.2.2 != 0)=B:=⟨_,rfl⟩;rw [m];cases B with
  | true =>refine fG (R1:=[⟨g,br V.2.1 C t,[]⟩,⟨l.heap.size,aO V.2.1 C,[]⟩]) H {eq:=[(37,au m)]} 60 (λW X=>jx (IntKind.i64.wrap (V.2.2-16)) addr (M:=V.2.1) (A:=C) (t:=t) (X.rows ⟨g,br V.2.1 C t,[]⟩ bc)) λW6 e w7 J f=>⟨_,0,f.1,?_⟩;obtain ⟨S,R⟩:=sF F J I al al al al c (J.rows ⟨g,br V.2.1 C t,[]⟩ bc);refine iC (Iv.one f.2.row1) {} 40 λN a n p=>⟨.tuple #[.u 0,.bool false],ka,C,rfl,(S.then1 f.2).then1 n,?_⟩;exact (mL n (mL f.2 R c) c).low (Nat.le_refl _) (Nat.le_trans f.2.ag.size n.ag.size)
  | false =>refine iC (R1:=[⟨g,br V.2.1 C t,[]⟩,⟨l.heap.size,aO V.2.1 C,[]⟩]) H {eq:=[(37,au m)]} 60 λN a n p=>⟨.tuple #[.u V.1,.bool true],i6,C,rfl,?_⟩;exact sF F n I al al al al c (n.rows ⟨g,br V.2.1 C t,[]⟩ bc)
end
section
variable {w : World} {g : Nat} {M : MV} {A : MA} {t : TV}
theorem MI (V:Int × MV × Int) (f:Wf) (n:Int) (s:Bool) (u:t.fm=ml f n s) (addr x:Int) (k:t.ld=.func (.func 40) #[] #[]) (h:gG ⟨g,br M A t,[]⟩ w) (r:∀ W,Iv [g] w [⟨g,br M A t,[]⟩] W->Calls prog 200 #[.func (.func 40) #[] #[],.agg (aO M A),.u addr,.i n,.i 3,.u x] W (vu W V)):Calls prog 158 #[.p g 0,.u addr,.u x] w λe b=>∃ C,e=.returned (.bool (!(V.2.2 != 0)))/\Iv [g] w [⟨g,br V.2.1 C (mM t V addr),[]⟩] b/\bp w.heap.size b.heap.size b (aH V.2.1 C):=by
 have j:g<w.heap.size:=let ⟨_,c⟩:=h;(Array.getElem?_eq_some_iff.1 c).1;refine fD (args:=[.p g 0,.u addr,.u x]) (Iv [g] w [⟨g,br M A t,[]⟩]) func158 ?_;refine aL 0 1 ?_;cases f;all_goals
  refine af Iv.eng {cv:=[(13,uP λW a=>pD _ n s u a.row1)]} 60 (Iv.one h) λm p=>?_
  refine nu (xO n s m) a3 λe z c=>⟨_,0,c.1,gp a3,?_⟩
  have q:=p.below c.2
  refine aW (Rc:=λW e b=>∃ C,e=.returned (.tuple #[.u (if V.2.2 != 0 then 0 else V.1),.bool (!(V.2.2 != 0))])/\Iv [g] W [⟨g,br V.2.1 C (mM t V addr),[]⟩] b/\bp W.heap.size b.heap.size b (aH V.2.1 C)) Iv.eng {} 60 q (λW a=>uC V addr n 3 x k a.row1 λW' i=>r W' (a.then1 i)) λW e B a c=>?_
  obtain ⟨C,rfl,l,o⟩:=c
  refine ⟨_,0,rfl,gp a3,?_⟩
  refine aR (λ_=>True) ?_
  exact td (t:=6) (v:=.bool (!(V.2.2 != 0))) (Iv.one l.row1) {} 40 λy d=>⟨C,rfl,(a.then1 l).then1 d,(mL d o (Nat.lt_of_lt_of_le j a.ag.size)).low a.ag.size d.ag.size⟩
def rK (t:TV) (V:Int × MV × Int) (addr:Int) (n:Nat) (s:Bool):TV:=if V.2.2 != 0 then mM t V addr else {t with rs:=if s then aq (8*n) V.1 else V.1}
theorem OI (V:Int × MV × Int) (f:Wf) (n:Nat) (s:Bool) (hn:n=1\/n=2\/n=4\/n=8) (D:t.fm=ml f n s) (addr:Int) (y:t.ld=.func (.func 40) #[] #[]) (h:gG ⟨g,br M A t,[]⟩ w) (I:∀ W,Iv [g] w [⟨g,br M A t,[]⟩] W->Calls prog 200 #[.func (.func 40) #[] #[],.agg (aO M A),.u addr,.i n,.i 2,.u 0] W (vu W V)):Calls prog 155 #[.p g 0,.u addr] w λe i=>∃ C,e=.returned (.tuple #[.u (if V.2.2 != 0 then 0 else V.1),.bool (!(V.2.2 != 0))])/\Iv [g] w [⟨g,br V.2.1 C (rK t V addr n s),[]⟩] i/\bp w.heap.size i.heap.size i (aH V.2.1 C):=by
 have j:g<w.heap.size:=let ⟨_,d⟩:=h;(Array.getElem?_eq_some_iff.1 d).1;have c:∀ W,Iv [g] w [⟨g,br M A t,[]⟩] W->_:=λW b=>uC V addr n 2 0 y b.row1 λW' u=>I W' (b.then1 u);unfold rK;unfold mM at *;obtain ⟨p,x⟩:∃ p,(V.2.2 != 0)=p:=⟨_,rfl⟩;simp only [x] at c ⊢;refine fD (args:=[.p g 0,.u addr]) (Iv [g] w [⟨g,br M A t,[]⟩]) func155 ?_;refine aL 0 1 ?_;cases f;all_goals
  refine af Iv.eng {cv:=[(12,uP λW b=>pD _ n s D b.row1)]} 60 (Iv.one h) λF H=>?_
  refine nu (xO n s F) a3 λe K d=>⟨_,0,d.1,gp a3,?_⟩
  have B:=H.below d.2
  cases p
  ·refine aW (Rc:=λW e i=>∃ C,e=.returned (.tuple #[.u V.1,.bool true])/\Iv [g] W [⟨g,br V.2.1 C t,[]⟩] i/\bp W.heap.size i.heap.size i (aH V.2.1 C)) Iv.eng {} 60 B c λW e E b d=>?_
   obtain ⟨C,rfl,k,q⟩:=d
   refine ⟨_,0,rfl,gp a3,?_⟩
   refine aR (Iv [g] E [⟨g,br V.2.1 C t,[]⟩]) ?_
   have G:=(mL (Iv.one k.row1) q (Nat.lt_of_lt_of_le j b.ag.size)).low (B':=w.heap.size) b.ag.size (Nat.le_refl _)
   refine af Iv.eng {cv:=[(20,uP λW b=>pD _ n s D b.row1)]} 60 (Iv.one k.row1) λz l=>?_
   refine nu (FX n s V.1 hn z) a3 λe L d=>⟨_,0,d.1,gp a3,?_⟩
   have o:=l.below d.2
   refine aR (λ_=>True) ?_
   refine iC (R1:=[⟨g,br V.2.1 C {t with rs:=if s then aq (8*n) V.1 else V.1},[]⟩]) (Iv.one o.row1) {} 60 λJ a r m=>⟨.tuple #[.u V.1,.bool true],by rw [results_tmp2 rfl,m.slot (v:=.u V.1) a3,m.slot (v:=.bool true) a3],C,rfl,((b.then1 k).then1 o).then1 r,?_⟩
   exact (mL r (mL o G j) j).low (Nat.le_refl _) (Nat.le_trans o.ag.size r.ag.size)
  ·refine aW (Rc:=λW e i=>∃ C,e=.returned (.tuple #[.u 0,.bool false])/\Iv [g] W [⟨g,br V.2.1 C _,[]⟩] i/\bp W.heap.size i.heap.size i (aH V.2.1 C)) Iv.eng {} 60 B c λW e E b d=>?_
   obtain ⟨C,rfl,k,q⟩:=d
   refine ⟨_,0,rfl,gp a3,?_⟩
   refine aR (λ_=>True) ?_
   refine iC (Iv.one k.row1) {} 40 λz a l m=>⟨.tuple #[.u 0,.bool false],by rw [results_tmp2 rfl,m.slot (v:=.u 0) a3,m.slot (v:=.bool false) a3],C,rfl,(b.then1 k).then1 l,(mL l q (Nat.lt_of_lt_of_le j b.ag.size)).low b.ag.size l.ag.size⟩
end
def wQ (t:TV) (code addr:Int):TV:=if code != 0 then {t with up:=true,cz:=code,vl:=addr} else t
section
variable {w : World} {g : Nat} {M : MV} {A : MA} {t : TV}
theorem OJ (to code z:Int) (zs:List Int) (addr kind:Int) (x:t.ld=.func (.func 40) #[] #[]) (h:gG ⟨g,br M A t,[]⟩ w) (G:∀ W,Iv [g] w [⟨g,br M A t,[]⟩] W->CB 234 #[.slice A.ac M.cs.length A.cc,.i M.pr,.i kind] W (.i z)) (s:∀ W,Iv [g] w [⟨g,br M A t,[]⟩] W->Calls prog 40 #[.slice A.ar M.ram.length A.cr,.slice A.ac M.cs.length A.cc,.i z,.u addr,.i kind] W λe l=>∃ (b:Option Addr) (c:Nat),e=.returned (.tuple #[.u to,.i code,.slice b zs.length c])/\l.ownsRow W.heap.size 5 1 (.slice b zs.length c) zs.length (zs.map (Value.int .u8))/\Bw W l):Calls prog 212 #[.p g 0,.u addr,.i kind] w λe l=>∃ (b:Option Addr) (c:Nat),e=.returned (.tuple #[.u (if code != 0 then 0 else to),.bool (!(code != 0))])/\Iv [g] w [⟨g,br {M with ram:=zs} {A with ar:=b,cr:=c} (wQ t code addr),[]⟩] l/\l.ownsRow w.heap.size 5 1 (.slice b zs.length c) zs.length (zs.map (Value.int .u8)):=by
 have H:g<w.heap.size:=let ⟨_,d⟩:=h;(Array.getElem?_eq_some_iff.1 d).1;refine fD (args:=[.p g 0,.u addr,.i kind]) (Iv [g] w [⟨g,br M A t,[]⟩]) func212 ?_;refine aL 0 1 ?_;refine aW Iv.eng {eq:=[(15,⟨_,_,0,x⟩)],cv:=[(37,lq Iv.below G)]} 60 (Iv.one h) s λJ e L B d=>?_;obtain ⟨b,c,rfl,I,u⟩:=d;have r:=B.below u;refine ⟨_,0,rfl,λ_=>r,?_⟩;refine af (re Iv.ez r) {} 60 (Dw.refl _) λE y=>?_;refine aR (λ_=>True) ?_;have p:=r.dw y;have D:E.ownsRow w.heap.size 5 1 (.slice b zs.length c) zs.length (zs.map (Value.int .u8)):=by obtain ⟨j,rfl⟩:=y;exact gM (dp I B.ag.size) λk _=>rfl
 have keep:∀ {W V:World} {R:List Rw},Iv [g] W R V->W.ownsRow w.heap.size 5 1 (.slice b zs.length c) zs.length (zs.map (Value.int .u8))->V.ownsRow w.heap.size 5 1 (.slice b zs.length c) zs.length (zs.map (Value.int .u8)):=λ{W V R} k o=>gM o λi e=>k.ag.block i (o.lt i e).2 (by rw [List.mem_singleton];have:=(o.lt i e).1;omega);unfold wQ;obtain ⟨q,f⟩:∃ q,(code != 0)=q:=⟨_,rfl⟩;rw [f];cases q with
 | true =>refine fG (R1:=[⟨g,br {M with ram:=zs} {A with ar:=b,cr:=c} t,[]⟩]) (Iv.one p.row1) {eq:=[(50,au f)]} 60 (λW s=>jx code addr s.row1) λK e N C d=>⟨_,0,d.1,?_⟩;exact iC (Iv.one d.2.row1) {} 40 λF a m n=>⟨.tuple #[.u 0,.bool false],by rw [results_tmp2 rfl,n.slot (v:=.u 0) a3,n.slot (v:=.bool false) a3],b,c,rfl,((p.then1 C).then1 d.2).then1 m,keep m (keep d.2 (keep C D))⟩
 | false =>exact iC (R1:=[⟨g,br {M with ram:=zs} {A with ar:=b,cr:=c} t,[]⟩]) (Iv.one p.row1) {eq:=[(50,au f)]} 60 λF a m n=>⟨.tuple #[.u to,.bool true],by rw [results_tmp2 rfl,n.slot (v:=.u to) a3,n.slot (v:=.bool true) a3],b,c,rfl,p.then1 m,keep m D⟩
end
def oE (op a y:Int):Int:=if op=88\/op=91 then bits .or .u64 a y else if op=89\/op=92 then bits .andNot .u64 a y else y
section
variable {w : World} {g : Nat} {M : MV} {A : MA} {t : TV}
theorem GJ {b o:Nat} {x:Int} (c:Int) (h:gG ⟨g,br M A t,[]⟩ w) (l:t.op=87\/t.op=88\/t.op=89\/t.op=90\/t.op=91\/t.op=92) (f:A.ax=some ⟨b,o,none⟩) (j:0<=t.ra/\t.ra<M.x.length) (hb:b≠g) (hx:w.cell? ⟨b,o+t.ra.toNat,none⟩=some (.u x)):Calls prog 217 #[.p g 0,.u c] w λe d=>e=.returned (.u (oE t.op c (if 90<=t.op then Uz.wrap t.ra else x)))/\Iv [g] w [⟨g,br M A t,[]⟩] d:=by
 have i:∀ (p:Addr) v,p.block=b->w.cell? p=some v->∀ W,Iv [g] w [⟨g,br M A t,[]⟩] W->W.cell? p=some v:=λp v n m W a=>by rw [<- m];simp only [World.cell?,a.ag.block p.block (ku m) (by rw [n];simpa using hb)]
 refine fD (args:=[.p g 0,.u c]) (Iv [g] w [⟨g,br M A t,[]⟩]) func217 ?_;refine aL 0 1 ?_;rcases l with q | q | q | q | q | q;·exact bm (t:=4) (v:=.u x) Iv.eng {eq:=[(12,ei .i64 q),(24,ei .i64 q)],cv:=[(7,uP λW a=>Ie a.row1 f j hb (i _ _ rfl hx W a))]} 200 (Iv.one h) λd k=>⟨by simp [oE,q],k⟩
 ·exact bm (t:=4) (v:=.u (bits .or .u64 c x)) Iv.eng {eq:=[(12,ei .i64 q),(24,ei .i64 q)],cv:=[(7,uP λW a=>Ie a.row1 f j hb (i _ _ rfl hx W a))]} 200 (Iv.one h) λd k=>⟨by simp [oE,q],k⟩
 ·exact bm (t:=4) (v:=.u (bits .andNot .u64 c x)) Iv.eng {eq:=[(12,ei .i64 q),(24,ei .i64 q)],cv:=[(7,uP λW a=>Ie a.row1 f j hb (i _ _ rfl hx W a))]} 200 (Iv.one h) λd k=>⟨by simp [oE,q],k⟩
 ·exact bm (t:=4) (v:=.u (Uz.wrap t.ra)) Iv.eng {eq:=[(12,ei .i64 q),(24,ei .i64 q)],cv:=[(7,uP λW a=>Ie a.row1 f j hb (i _ _ rfl hx W a))]} 200 (Iv.one h) λd k=>⟨by simp [oE,q],k⟩
 ·exact bm (t:=4) (v:=.u (bits .or .u64 c (Uz.wrap t.ra))) Iv.eng {eq:=[(12,ei .i64 q),(24,ei .i64 q)],cv:=[(7,uP λW a=>Ie a.row1 f j hb (i _ _ rfl hx W a))]} 200 (Iv.one h) λd k=>⟨by simp [oE,q],k⟩
 ·exact bm (t:=4) (v:=.u (bits .andNot .u64 c (Uz.wrap t.ra))) Iv.eng {eq:=[(12,ei .i64 q),(24,ei .i64 q)],cv:=[(7,uP λW a=>Ie a.row1 f j hb (i _ _ rfl hx W a))]} 200 (Iv.one h) λd k=>⟨by simp [oE,q],k⟩
theorem MJ (cs:List Int) (pr pc:Int) (m:Bool) (h:gG ⟨g,br M A t,[]⟩ w) (v:∀ W,Iv [g] w [⟨g,br M A t,[]⟩] W->Calls prog 249 #[.slice A.ac M.cs.length A.cc,.i M.pr,.bool (t.op==96)] W λe d=>∃ (a:Option Addr) (c:Nat),e=.returned (.tuple #[.slice a cs.length c,.i pr,.u pc,.bool m])/\(m=true->d.ownsRow W.heap.size 22 1 (.slice a cs.length c) cs.length (cs.map (Value.int .u64)))/\Bw W d):Calls prog 218 #[.p g 0] w λe d=>e=.returned (.tuple #[])/\if m then ∃ (a:Option Addr) (c:Nat),Iv [g] w [⟨g,br {M with cs:=cs,pr:=pr} {A with ac:=a,cc:=c} {t with nx:=pc},[]⟩] d/\d.ownsRow w.heap.size 22 1 (.slice a cs.length c) cs.length (cs.map (Value.int .u64)) else Iv [g] w [⟨g,br M A {t with up:=true,cz:=2,vl:=t.wd},[]⟩] d:=by
 have y:g<w.heap.size:=let ⟨_,b⟩:=h;(Array.getElem?_eq_some_iff.1 b).1;refine fD (args:=[.p g 0]) (Iv [g] w [⟨g,br M A t,[]⟩]) func218 ?_;refine aL 0 1 ?_;refine aW Iv.eng {} 60 (Iv.one h) v λB e E r b=>?_;obtain ⟨a,c,rfl,z,n⟩:=b;have f:=r.below n;refine ⟨_,0,rfl,λ_=>f,?_⟩;cases m with
 | true =>refine af (re Iv.ez f) {} 60 (Dw.refl _) λp q=>?_;refine aR (λ_=>True) ?_;have l:=f.dw q;have o:p.ownsRow w.heap.size 22 1 (.slice a cs.length c) cs.length (cs.map (Value.int .u64)):=(by obtain ⟨j,rfl⟩:=q;exact gM (dp (z rfl) r.ag.size) λk _=>rfl);exact fH (R1:=[⟨g,br {M with cs:=cs,pr:=pr} {A with ac:=a,cc:=c} {t with nx:=pc},[]⟩]) (Iv.one l.row1) {} 60 λC s=>⟨rfl,a,c,l.then1 s,gM o λi e=>s.ag.block i (o.lt i e).2 (by rw [List.mem_singleton];have:=(o.lt i e).1;omega)⟩
 | false =>refine aW Iv.eng {} 60 f (λW x=>n7 x.row1) λp e F l b=>⟨_,0,b.1,gp a3,?_⟩;refine aR (λ_=>True) ?_;exact n6 (Iv.one b.2.row1) {} 40 λD u=>⟨rfl,(l.then1 b.2).then1 u⟩
end
theorem kY {P:Program} {S:World->Prop} {n:Nat} {fn:Func} {Rs:Ending->World->Prop} {k:List KI} {F:Fr} {w:World} (H:Hn P (λx=>x=w) (λx=>x=w)) (m:Nat) (hx:(gP k,(aU P [] H n false m k F).1.1,gP (aU P [] H n false m k F).1.2.1,(aU P [] H n false m k F).1.2.1.isEmpty)=(true,false,true,true)) (he:(aU P [] H n false m k F).2.map Prod.fst=(aU P [] H n false m k F).2.map Prod.snd) (hr:fn.results=#[]) (h:Rs (.returned (.tuple #[])) w):Wg P S (bodyPost P fn Rs) n k F w:=by simp only [Prod.mk.injEq] at hx;refine cW (R:=[]) (by simp [jk]) H m (hx:=by rw [hx.1,hx.2.1,hx.2.2.1]) (he:=he) λa b=>?_;rw [List.isEmpty_iff.1 hx.2.2.2];exact bodyPost_end (results_none hr _ _ _) b.nod h
section
variable {w : World} {g : Nat} {M : MV} {A : MA} {t : TV}
theorem Kj (h:gG ⟨g,br M A t,[]⟩ w) (q:t.op=93):Calls prog 164 #[.p g 0] w λe d=>e=.returned (.tuple #[])/\Iv [g] w [⟨g,br M A {t with up:=true,cz:=IntKind.i64.wrap (8+M.pr),vl:=0},[]⟩] d:=by refine fD (args:=[.p g 0]) (λ_=>True) func164 ?_;refine aL 0 1 ?_;refine fG (Iv.one h) {eq:=[(6,ei .i64 q)]} 80 (R1:=[⟨g,br M A t,[]⟩]) (λW a=>jx (IntKind.i64.wrap (8+M.pr)) 0 a.row1) λW e d a c=>⟨_,0,c.1,?_⟩;exact fH (Iv.one c.2.row1) {} 40 λW' b=>⟨rfl,(a.then1 c.2).then1 b⟩
theorem GK (h:gG ⟨g,br M A t,[]⟩ w) (q:t.op=94):Calls prog 164 #[.p g 0] w λe d=>e=.returned (.tuple #[])/\Iv [g] w [⟨g,br M A {t with up:=true,cz:=3,vl:=M.pc},[]⟩] d:=by refine fD (args:=[.p g 0]) (λ_=>True) func164 ?_;refine aL 0 1 ?_;refine fG (Iv.one h) {eq:=[(6,ei .i64 q)]} 80 (R1:=[⟨g,br M A t,[]⟩]) (λW a=>jx 3 M.pc a.row1) λW e d a c=>⟨_,0,c.1,?_⟩;exact fH (Iv.one c.2.row1) {} 40 λW' b=>⟨rfl,(a.then1 c.2).then1 b⟩
theorem Kk (h:gG ⟨g,br M A t,[]⟩ w) (q:t.op=97\/t.op=98):Calls prog 164 #[.p g 0] w λe f=>e=.returned (.tuple #[])/\Iv [g] w [⟨g,if M.pr==0 then br M A {t with up:=true,cz:=2,vl:=t.wd} else br {M with wt:=t.op==97} A t,[]⟩] f:=by
 refine fD (args:=[.p g 0]) (λ_=>True) func164 ?_;refine aL 0 1 ?_;obtain ⟨p,c⟩:∃ p,(M.pr==0)=p:=⟨_,rfl⟩;rw [c];cases p with
 | true =>
   rcases q with q|q;all_goals
    refine fG (Iv.one h) {eq:=[(6,ei .i64 q),(39,au c)]} 80 (R1:=[⟨g,br M A t,[]⟩]) (λW b=>n7 b.row1) λW e f b d=>⟨_,0,d.1,?_⟩
    exact n6 (Iv.one d.2.row1) {} 40 λW' a=>⟨rfl,(b.then1 d.2).then1 a⟩
 | false =>rcases q with q | q;all_goals exact fH (R1:=[⟨g,br {M with wt:=t.op==97} A t,[]⟩]) (Iv.one h) {eq:=[(6,ei .i64 q),(39,au c)]} 80 λW' a=>⟨rfl,a⟩
theorem GL {Rc:World->Ending->World->Prop} (h:gG ⟨g,br M A t,[]⟩ w) (q:t.op=95\/t.op=96) (d:∀ W,Iv [g] w [⟨g,br M A t,[]⟩] W->Calls prog 218 #[.p g 0] W (Rc W)) (f:∀ W e a,Iv [g] w [⟨g,br M A t,[]⟩] W->Rc W e a->e=.returned (.tuple #[])):Calls prog 164 #[.p g 0] w λe a=>e=.returned (.tuple #[])/\∃ W,Iv [g] w [⟨g,br M A t,[]⟩] W/\Rc W e a:=by
 refine fD (args:=[.p g 0]) (λ_=>True) func164 ?_;refine aL 0 1 ?_;rcases q with q | q;all_goals
  refine fG (Iv.one h) {eq:=[(6,ei .i64 q)]} 80 (R1:=[⟨g,br M A t,[]⟩]) d λW e a b c=>?_
  obtain rfl:=f W e a b c
  exact ⟨_,0,rfl,kY {} 40 a3 a3 rfl ⟨rfl,W,b,c⟩⟩
end
end Go.Proofs.YtjifdmoehfbihaaGreatDoor
