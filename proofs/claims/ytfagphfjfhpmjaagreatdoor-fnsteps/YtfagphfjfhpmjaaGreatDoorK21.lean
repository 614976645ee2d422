/- Own lemmas. -/
import Derived.Test.YtfagphfjfhpmjaaGreatDoorAut
import Derived.Test.YtfagphfjfhpmjaaGreatDoorK20
set_option maxRecDepth 100000
namespace Go.Proofs.YtfagphfjfhpmjaaGreatDoor
open Go.RowKit Tryz
open IntKind renaming u64->Uz
set_option linter.unusedVariables false
section
variable {B g K : Nat} {w0 w w' W : World} {M M' : MV} {A A' : MA} {t t' : TV}
inductive Fo:Bool->Value->Prop
 | s (v:Value):Fo false (.iface 203 v)
 | j (v:Value):Fo false (.iface 204 v)
 | l (v:Value):Fo false (.iface 208 v)
 | t (v:Value):Fo false (.iface 210 v)
 | h (v:Value):Fo false (.iface 212 v)
 | c (v:Value):Fo false (.iface 213 v)
 | a (v:Value):Fo false (.iface 214 v)
 | f (v:Value):Fo false (.iface 215 v)
 | y (v:Value):Fo false (.iface 217 v)
 | r:Fo true (.iface 216 (.agg #[]))
theorem DB (op:Int):Fo (decide (87<=op/\op<=92)) (eO op):=by
 by_cases c:87<=op/\op<=92;·rw [decide_eq_true c];unfold eO;rw [if_neg ab,if_neg ab,if_neg ab,if_neg ab,if_neg ab,if_neg ab,if_neg ab,if_pos ab];exact .r
 ·rw [decide_eq_false c];unfold eO;split;·exact .s _
  split;·exact .j _
  split;·exact .l _
  split;·exact .t _
  split;·exact .s _
  split
  ·split;·exact .h _
   split;·exact .c _
   ·exact .a _
  split;·exact .f _
  split;·omega
  ·exact .y _
theorem Oa {cf:Bool} (s:Fo cf t.fm) (h:Tq B g w0 M A t w) (K:Gd M) (V:0<=t.rd) (O:t.rd<=31) (u:t.up=false):Calls prog 115 #[.p g 0] w λe w'=>e=.returned (.tuple #[])/\Tq B g w0 (ur cf M t).1 A t w':=by
 obtain ⟨n,P,Q,_,_,_⟩:=aI K.ok;have p:=K.x32;have fin:∀ (S:World->Prop) (N:MV) (W:World),Tq B g w0 N A t W->N.cs.length=22->(⟨t.nx,N.x,N.pr,if cf=true then N.cs else N.cs.set 21 (Uz.wrap (N.cs.getD 21 0+1)),N.ram,N.d,N.hd,N.hl,N.wt⟩:MV)=(ur cf M t).1->Wg prog S (bodyPost prog Tryz.f115 λe w'=>e=.returned (.tuple #[])/\Tq B g w0 (ur cf M t).1 A t w') Tryz.f115.ntmps [.code (aq 1 (aL Tryz.f115))] [(0,.p g 0,1)] W:=by
  intro S N W F n22 I;rw [<- I];clear I;refine aH (λ_=>True) ?_;refine oC (R1:=[⟨g,bL ⟨t.nx,N.x,N.pr,N.cs,N.ram,N.d,N.hd,N.hl,N.wt⟩ A t,[]⟩]) (Iv.one F.row) {} 12 λC l=>?_;have f:=F.iv l rfl;refine af [.code (aq 2 (aL Tryz.f115))] [(0,.p g 0,1)] ?_;obtain ⟨a,y⟩:∃ a:MV,a=⟨t.nx,N.x,N.pr,N.cs,N.ram,N.d,N.hd,N.hl,N.wt⟩:=⟨_,rfl⟩;rw [<- y] at f;have H:a.cs=N.cs:=(by rw [y]);have J:(⟨t.nx,N.x,N.pr,if cf=true then N.cs else N.cs.set 21 (Uz.wrap (N.cs.getD 21 0+1)),N.ram,N.d,N.hd,N.hl,N.wt⟩:MV)=if cf=true then a else cM a (a.cs.set 21 (Uz.wrap (a.cs.getD 21 0+1))):=by rw [y];cases cf<;>rfl
  rw [J];rw [<- H] at n22;clear y H J l F;obtain ⟨b,j,G,_⟩:=f.atC n22;have x:∀ W,Tq B g w0 a A t W->W.cell? ⟨b,0+(21:Int).toNat,none⟩=some (.u (a.cs.getD 21 0))/\W.frozen? ⟨b,0+(21:Int).toNat,none⟩=false:=λW k=>by obtain ⟨L,d,_,c⟩:=k.atC n22;rw [j] at d;cases d;exact c 21 ab
  have cnt:∀ (S:World->Prop) (W:World),Tq B g w0 a A t W->Wg prog S (bodyPost prog Tryz.f115 λe w'=>e=.returned (.tuple #[])/\Tq B g w0 (cM a (a.cs.set 21 (Uz.wrap (a.cs.getD 21 0+1)))) A t w') Tryz.f115.ntmps [.code (aq 3 (aL Tryz.f115))] [(0,.p g 0,1),(3,.bool false,0)] W:=(by intro S W k;refine aH (Tq B g w0 a A t) ?_;refine ae (Tq.eng (dr:=false)) {ov:=[(48,kF a.cs.length A.cc .i64 21 j ⟨ab,ab⟩ underlying23 ba),(49,iL ⟨b,0+(21:Int).toNat,none⟩ (.u (a.cs.getD 21 0)) underlying22 rfl (λW k=>(x W k).1)),(51,kF a.cs.length A.cc .i64 21 j ⟨ab,ab⟩ underlying23 ba)]} 40 k λD f=>?_;refine bM (jw (T:=22) (v:=.u (Uz.wrap (a.cs.getD 21 0+1))) (x D f) ba rfl) ?_;exact mu {} 40 ba ba rfl ⟨rfl,f.setC j 21 (Uz.wrap (a.cs.getD 21 0+1))⟩);refine aH (Tq B g w0 a A t) ?_;generalize m:t.fm=U at s;cases s;case r =>refine ae (Tq.eng (dr:=false)) {eq:=[(37,⟨_,_,0,m⟩)]} 10 f λi o=>?_;refine dF 2 (dD (T:=216) (z:=.agg #[]) ba i) ?_;refine bM (az (g:=i.heap.size) (t:=216) (ty:=216) (old:=#[]) (cells:=#[]) (heap_alloc_new _ _) ba rfl ba) ?_;have E:=o.below (aR ((Below.refl i.heap.size i).alloc (Nat.le_refl _) (.cells (Value.agg #[]).cells 216)) (Nat.le_refl _) #[]);exact mu {} 40 ba ba rfl ⟨rfl,E⟩
  all_goals
   refine ae (Tq.eng (dr:=false)) {eq:=[(37,⟨_,_,0,m⟩)]} 10 f λi o=>?_
   refine dF 2 (dD (T:=216) (z:=.agg #[]) ba i) ?_
   refine bM (az (g:=i.heap.size) (t:=216) (ty:=216) (old:=#[]) (cells:=#[]) (heap_alloc_new _ _) ba rfl ba) ?_
   have E:=o.below (aR ((Below.refl i.heap.size i).alloc (Nat.le_refl _) (.cells (Value.agg #[]).cells 216)) (Nat.le_refl _) #[])
   refine an (R:=[]) trivial {} 2 ?_
   exact af _ _ (cnt _ _ E)
 refine gg (args:=[.p g 0]) (Tq B g w0 M A t) func115 ?_;refine aK 0 1 ?_;by_cases e:t.rd=0;·have q:(t.rd != 0)=false:=(by simpa using e);refine ae (Tq.eng (dr:=false)) {eq:=[(9,ak q)]} 12 h λC l=>?_;refine af _ _ (fin _ M C l n ?_);unfold ur;rw [u,if_pos e];rfl
 ·have q:(t.rd != 0)=true:=(by simpa using e);obtain ⟨b,j,G,_⟩:=h.atX p;have x:∀ W,Tq B g w0 M A t W->W.cell? ⟨b,0+t.rd.toNat,none⟩=some (.u (M.x.getD (0+t.rd.toNat) 0))/\W.frozen? ⟨b,0+t.rd.toNat,none⟩=false:=λW k=>by obtain ⟨L,d,_,c⟩:=k.atX p;rw [j] at d;cases d;exact c (0+t.rd.toNat) ab
  refine ae (Tq.eng (dr:=false)) {eq:=[(9,ak q)]} 12 h λC l=>?_;refine zT ?_;refine ae (Tq.eng (dr:=true)) {ov:=[(24,kF M.x.length A.cx .i64 t.rd j ⟨ab,ab⟩ underlying23 ba)]} 40 (l.below (Below.refl _ _).drew) λD f=>?_;refine bM (jw (T:=22) (v:=.u t.rs) (x D f) ba rfl) ?_;have o:=f.setX j (0+t.rd.toNat) t.rs;refine an (R:=[]) trivial {} 1 ?_;refine af _ _ (fin _ _ _ o n ?_);unfold ur;rw [u,if_neg e,Nat.zero_add];rfl
def tS:TV:=⟨.func (.func 50) #[] #[],0,0,0,0,0,0,.nilIface,0,0,false,false,0,0⟩
def Tv (M:MV) (q:Int × MV × Int):TV :=
 if (q.2.2 != 0)=true then nP tS q M.pc else match BW q.1 with
  | none=>{tS with wd:=q.1,up:=true,cz:=2,vl:=q.1}
  | some i=>t0 q.2.1 i q.1
theorem QF (h:Tq B g w0 M A tS w) (z:Gd M) (hd:Ud M.d):Calls prog 113 #[.p g 0] w λe w'=>e=.returned (.tuple #[])/\∃ C,Tq B g w0 (aC M M.pc 4 1 0).2.1 C (Tv M (aC M M.pc 4 1 0)) w':=by
 have J:=λW (h:Tq B g w0 M A tS W)=>N7 h z rfl M.pc 4 1 0 bc bc bc (λ_=>rfl) z.pc l8;have Q:=tX z hd M.pc 4 ab 1 0;have ga:=z.acc M.pc 4 1 0;rw [show ((4:Nat):Int)=4 from rfl] at Q;unfold Tv;generalize aC M M.pc 4 1 0=X at *;obtain ⟨y,N,c⟩:=X;dsimp only at *;refine gg (args:=[.p g 0]) (Tq B g w0 M A tS) func113 ?_;refine aK 0 1 ?_;refine aS (Tq.eng (dr:=true)) {} 60 h J ?_;rintro W1 e W2 h1 ⟨C,rfl,l⟩;refine ⟨_,0,rfl,gh ba,?_⟩;cases hc:(c != 0) with
 | true =>rw [if_pos rfl];exact gu (R:=[]) trivial {} 40 λa _=>⟨_,results_none rfl _ _ _,rfl,C,l⟩
 | false =>
   rw [if_neg bc];unfold nP at l;dsimp only at l;rw [hc,if_neg bc] at l;refine aH (λ_=>True) ?_;have d:=λW=>wP y Q.1 Q.2 W;unfold mg at d;cases K:BW y with
   | none =>simp only [K] at d;refine fH (R1:=[⟨g,bL N C {tS with wd:=y},[]⟩]) (Iv.one l.row) {} 60 (λW _=>d W) ?_;rintro W3 e W4 G ⟨rfl,L⟩;refine ⟨_,0,rfl,?_⟩;have s:=(l.iv G rfl).below L;refine fH (R1:=[⟨g,bL N C {tS with wd:=y},[]⟩]) (Iv.one s.row) {} 60 (λW I=>px I.row1) ?_;rintro W5 e W6 H ⟨rfl,O⟩;refine ⟨_,0,rfl,?_⟩;have x:=(s.iv H rfl).iv O rfl;exact gu (R:=[]) trivial {} 40 λa _=>⟨_,results_none rfl _ _ _,rfl,C,x⟩
   | some i =>
     simp only [K] at d;have p:=Au K;have u:=λW=>FZ i.op p.op1 p.op98 W;obtain ⟨D,E,U⟩:∃ D E,eO i.op=.iface D E:=(by obtain ⟨S,q⟩:∃ S,Fo S (eO i.op):=⟨_,DB i.op⟩;generalize eO i.op=f at q;cases q<;>exact ⟨_,_,rfl⟩);rw [U] at u;refine fH (R1:=[⟨g,bL N C {tS with wd:=y},[]⟩]) (Iv.one l.row) {} 60 (λW _=>d W) ?_;rintro W3 e W4 G ⟨rfl,L⟩;refine ⟨_,0,rfl,?_⟩;have s:=(l.iv G rfl).below L;refine fH (R1:=[⟨g,bL N C {tS with wd:=y,op:=i.op,rd:=i.rd,ra:=i.a,rb:=i.b,im:=i.imm},[]⟩]) (Iv.one s.row) {} 60 (λW _=>u W) ?_;rintro W5 e W6 H ⟨rfl,O⟩;refine ⟨_,0,rfl,?_⟩;have x:=(s.iv H rfl).below O;obtain ⟨o,m⟩:∃ o:TV,o={tS with wd:=y,op:=i.op,rd:=i.rd,ra:=i.a,rb:=i.b,im:=i.imm,fm:=.iface D E}:=⟨_,rfl⟩;have F:o.rd=i.rd:=(by rw [m]);have n32:=ga.x32;refine oC (R1:=[⟨g,bL N C {tS with wd:=y,op:=i.op,rd:=i.rd,ra:=i.a,rb:=i.b,im:=i.imm,fm:=.iface D E},[]⟩]) (Iv.one x.row) {} 4 λW7 V=>?_;rw [<- m] at V;have Y:=x.iv V rfl;refine af [.code (aq 6 (aL Tryz.f113))] [(0,.p g 0,1)] ?_;obtain ⟨b,Z,hne,_⟩:=Y.atX n32;have cc:∀ W,Tq B g w0 N C o W->W.cell? ⟨b,0+i.rd.toNat,none⟩=some (.u (N.x.getD (0+i.rd.toNat) 0)):=λW I=>by obtain ⟨b',t,_,k⟩:=I.atX n32;rw [Z] at t;cases t;have:=p.rd0;have:=p.rd31;exact (k (0+i.rd.toNat) ab).1
     refine aH (Tq B g w0 N C o) ?_;refine ae (Tq.eng (dr:=false)) {} 1 Y λW9 h9=>?_;refine lG 15 ?_;refine ae (Tq.eng (dr:=true)) {eq:=[(51,dG .i64 F)],ov:=[(52,kF N.x.length C.cx .i64 i.rd Z ⟨p.rd0,by have:=p.rd31;omega⟩ underlying23 ba),(53,iL ⟨b,0+i.rd.toNat,none⟩ (.u (N.x.getD (0+i.rd.toNat) 0)) underlying22 rfl cc)]} 40 (h9.below (Below.refl _ _).drew) λW10 n=>?_;obtain ⟨T10,P⟩:=n.row;refine bM (bJ (i:=22) (T:=22) (v:=.u (N.x.getD (0+i.rd.toNat) 0)) P (show 22<28 by decide) ba rfl) ?_;have r:Tq B g w0 N C {o with rs:=N.x.getD (0+i.rd.toNat) 0} _:=n.iv ((Iv.one n.row).cell 22 (.u (N.x.getD (0+i.rd.toNat) 0))) rfl;refine aH (λ_=>True) ?_;refine an (R:=[]) trivial {} 1 ?_;refine af [.code (aq 7 (aL Tryz.f113))] [(0,.p g 0,1)] ?_;refine gp (R1:=[⟨g,bL N C {o with rs:=N.x.getD (0+i.rd.toNat) 0,nx:=Uz.wrap (N.pc+4)},[]⟩]) (Iv.one r.row) {} 60 λW11 j=>⟨rfl,C,?_⟩;have j:=r.iv j rfl;rw [m,Nat.zero_add,<- U] at j;exact j
end
section
variable {B g K : Nat} {w0 w w' W : World} {M M' : MV} {A A' : MA} {t t' : TV}
theorem zj {x:Int} (h:U x):(dc x 1 1==1)=(bits .and .u64 x 2 != 0):=by
 rw [PC x 1 h];cases a:bt x 1 with
 | true =>
   rw [if_pos rfl];have:bits .and .u64 x 2≠0:=λe=>by have q:=aw x 2 1;rw [e,a] at q;exact absurd q bc
   simp [this]
 | false =>
   rw [if_neg bc];have:bits .and .u64 x 2=0:=by refine bF _ _ (ah _ _ _) l8 λi b=>?_;rw [aw];have key:∀ j,j<64->∀ c:Bool,(j=1->c=false)->(c&&bt 2 j)=bt 0 j:=cb;exact key i b _ (λe=>by rw [e];exact a)
   simp [this]
theorem AT {i:Ins} {t:TV} {to x:Int} (d:U to) (f:Gd M) (c:t.up=false) (b:t.rd=i.rd) (a:t.fm=eO i.op) {rd:Int} (hx:be M t.rd t.rs to=be M rd x to):Pf false (if (bits .and .u64 to 2 != 0)=true then (aM M 0 false to,2) else (be M rd x to,1)) i M (rD t to):=by
 unfold rD;rw [zj d];cases g:(bits .and .u64 to 2 != 0) with
 | true =>rw [if_pos rfl,if_pos rfl];exact ⟨iE (k:=0) rfl rfl,f,b,a,λ_=>⟨0,bc,rfl⟩⟩
 | false =>rw [if_neg bc,if_neg bc];refine ⟨?_,f,b,a,λe=>by rw [show TV.up {t with nx:=to}=t.up from rfl,c] at e;cases e⟩;rw [iY (t:={t with nx:=to}) c,<- hx]
theorem Tw (i:Ins) (wd:Int) (o:jN i) (D:3<=i.op) (p:i.op<=10) (h:Tq B g w0 M A (t0 M i wd) w) (d:Gd M):Calls prog 171 #[.p g 0] w (TR B g w0 (Pf false (pV M i (M.x.getD i.a.toNat 0) (M.x.getD i.b.toNat 0) (Uz.wrap i.imm)) i)):=by
 have a:=d.x32;obtain ⟨b,s,l,t⟩:=h.atX a;have m:=o.a0;have y:=o.a31;have q:=o.b0;have C:=o.b31;have r:=(t (0+i.a.toNat) ab).1;have v:=(t (0+i.b.toNat) ab).1;unfold pV;by_cases u:i.op=3;·refine (Kc h.row u).mono λe w' ⟨f,k⟩=>⟨f,M,A,_,?_,h.iv k rfl⟩;have c:fL M i (M.x.getD i.a.toNat 0) (M.x.getD i.b.toNat 0) (Uz.wrap i.imm)=Uz.wrap (M.pc+Uz.wrap i.imm):=(by unfold fL;rw [if_neg ab,decide_eq_false ab];rfl);rw [c,if_neg (show ¬ 4<i.op by omega)];exact AT (aU _) d rfl rfl rfl rfl
 by_cases n:i.op=4;·have:=NA h.row n s ⟨m,show i.a<(M.x.length:Int) by rw [a];omega⟩ l r;rw [Nat.zero_add] at this;refine this.mono λe w' ⟨f,k⟩=>⟨f,M,A,_,?_,h.iv k rfl⟩;have c:fL M i (M.x.getD i.a.toNat 0) (M.x.getD i.b.toNat 0) (Uz.wrap i.imm)=bits .andNot .u64 (Uz.wrap (M.x.getD i.a.toNat 0+Uz.wrap i.imm)) 1:=(by unfold fL;rw [if_pos n]);rw [c,if_neg (show ¬ 4<i.op by omega)];exact AT (ah _ _ _) d rfl rfl rfl rfl
 ·have:=Dn h.row (show 5<=i.op by omega) p s ⟨m,show i.a<(M.x.length:Int) by rw [a];omega⟩ ⟨q,show i.b<(M.x.length:Int) by rw [a];omega⟩ l r v;rw [Nat.zero_add,Nat.zero_add] at this;refine this.mono λe w' ⟨f,k⟩=>⟨f,M,A,_,?_,h.iv k rfl⟩;rw [if_pos (show 4<i.op by omega)];show Pf _ _ _ _ (if Kt i.op (M.x.getD i.a.toNat 0) (M.x.getD i.b.toNat 0)=true then rD (t0 M i wd) (Uz.wrap (M.pc+Uz.wrap i.imm)) else t0 M i wd);cases j:Kt i.op (M.x.getD i.a.toNat 0) (M.x.getD i.b.toNat 0) with
  | true =>have c:fL M i (M.x.getD i.a.toNat 0) (M.x.getD i.b.toNat 0) (Uz.wrap i.imm)=Uz.wrap (M.pc+Uz.wrap i.imm):=(by unfold fL;rw [if_neg n,decide_eq_true (show 4<i.op by omega),j];rfl);rw [c,if_pos rfl];exact AT (x:=Uz.wrap (M.pc+4)) (rd:=0) (aU _) d rfl rfl rfl lu
  | false =>have c:fL M i (M.x.getD i.a.toNat 0) (M.x.getD i.b.toNat 0) (Uz.wrap i.imm)=Uz.wrap (M.pc+4):=(by unfold fL;rw [if_neg n,decide_eq_true (show 4<i.op by omega),j];rfl);have e2:(bits .and .u64 (Uz.wrap (M.pc+4)) 2 != 0)=false:=(by rw [<- zj (aU _)];have:=d.al4;rw [IntKind.wrap_u64];simp [dc];omega);rw [c,e2,if_neg bc,if_neg bc];refine ⟨?_,d,rfl,rfl,λe=>v9⟩;rw [iY rfl];exact congrArg (λz=>(z,(1:Int))) (lu (M:=M) (rd:=i.rd) (to:=Uz.wrap (M.pc+4)))
theorem QG (i:Ins) (wd:Int) (d:Gd M) (n:Nat) (s:Bool) (a:Int) (hn:n=jK i.op) (hs:s=decide (i.op-11<4)):Pf false (mZ M i a) i (aC M a n 2 0).2.1 (tZ (t0 M i wd) (aC M a n 2 0) a n s):=by
 have f:mZ M i a=if ((aC M a n 2 0).2.2 != 0)=true then cL (aC M a n 2 0) 0 a else (be (aC M a n 2 0).2.1 i.rd (if s=true then au (8*n) (aC M a n 2 0).1 else (aC M a n 2 0).1) (Uz.wrap ((aC M a n 2 0).2.1.pc+4)),1):=by
  subst hn hs;unfold mZ;dsimp only;by_cases q:i.op-11<4;·rw [if_pos q,decide_eq_true q,if_pos rfl]
  ·rw [if_neg q,decide_eq_false q];rfl
 rw [f,(iS M a n 2 0).1];have g:=d.acc a n 2 0;have c:=λb=>na (cf:=false) (i:=i) (t:=t0 M i wd) (M:=M) (a:=a) (n:=n) (kind:=2) (x:=0) rfl d b rfl rfl;unfold tZ;generalize aC M a n 2 0=X at *;cases b:(X.2.2 != 0) with
 | true=>rw [if_pos rfl,if_pos rfl];exact c b
 | false =>rw [if_neg (show ¬ (false=true) by decide),if_neg (show ¬ (false=true) by decide)];refine ⟨?_,g,rfl,rfl,λe=>v9⟩;rw [iY rfl];rfl
theorem Ob (i:Ins) (wd:Int) (d:Gd M) (n:Nat) (a x:Int) (hn:n=2^(i.op-18).toNat):Pf false (nL M i a x) i (aC M a n 3 x).2.1 (nP (t0 M i wd) (aC M a n 3 x) a):=by
 have g:nL M i a x=if ((aC M a n 3 x).2.2 != 0)=true then cL (aC M a n 3 x) 0 a else (be (aC M a n 3 x).2.1 0 0 (Uz.wrap ((aC M a n 3 x).2.1.pc+4)),1):=by subst hn;rfl
 obtain ⟨f,e2,_,_⟩:=iS M a n 3 x;rw [g,f];have h:=d.acc a n 3 x;have c:=λb=>na (cf:=false) (i:=i) (t:=t0 M i wd) (M:=M) (a:=a) (n:=n) (kind:=3) (x:=x) rfl d b rfl rfl;generalize aC M a n 3 x=X at *;cases b:(X.2.2 != 0) with
 | true=>rw [if_pos rfl];exact c b
 | false =>rw [if_neg bc];unfold nP;rw [b,if_neg bc];refine ⟨?_,h,rfl,rfl,λe=>v9⟩;rw [iY rfl];have:=lu (M:=X.2.1) (rd:=i.rd) (to:=Uz.wrap (M.pc+4));rw [e2] at this;exact congrArg (λz=>(z,(1:Int))) this
end
section
variable {B g K : Nat} {w0 w w' W : World} {M M' : MV} {A A' : MA} {t t' : TV}
theorem pJ {Q:MV->TV->Prop} {a:TV} {S:World->Prop} {n:Nat} {fn:Func} {k:List KI} {F:Fr} {f:Nat} {args:Array Value} (h:Tq B g w0 M A a w) (H:Hn prog (Tq B g w0 M A a) (Tq B g w0 M A a)) (d:∀ W,Tq B g w0 M A a W->Calls prog f args W (TR B g w0 Q)) (hn:ij k=true) (hx:((bp prog [⟨g,bL M A a,[]⟩] H n true 90 k F).1.1,OA prog n (bp prog [⟨g,bL M A a,[]⟩] H n true 90 k F).1.2.2 (bp prog [⟨g,bL M A a,[]⟩] H n true 90 k F).1.2.1)=(false,some (f,args))) (he:(bp prog [⟨g,bL M A a,[]⟩] H n true 90 k F).2.map Prod.fst=(bp prog [⟨g,bL M A a,[]⟩] H n true 90 k F).2.map Prod.snd) (hb:(zB (bp prog [⟨g,bL M A a,[]⟩] H n true 90 k F).1.2.2 (bp prog [⟨g,bL M A a,[]⟩] H n true 90 k F).1.2.1,ij (po (bp prog [⟨g,bL M A a,[]⟩] H n true 90 k F).1.2.2 (bp prog [⟨g,bL M A a,[]⟩] H n true 90 k F).1.2.1))=(false,true)) (hy:∀ J:World->Prop,(λ(y:(Bool × List KI × Fr) × List (Oe × Oe))=>(y.1.1,ij y.1.2.1,y.1.2.1.isEmpty,y.2.map Prod.fst)) (bp prog [] ({}:Hn prog J J) n false 20 (po (bp prog [⟨g,bL M A a,[]⟩] H n true 90 k F).1.2.2 (bp prog [⟨g,bL M A a,[]⟩] H n true 90 k F).1.2.1) (qA (bp prog [⟨g,bL M A a,[]⟩] H n true 90 k F).1.2.2 (bp prog [⟨g,bL M A a,[]⟩] H n true 90 k F).1.2.1 (.tuple #[]) 0))=(false,true,true,[])) (hr:fn.results=#[]):Wg prog S (bodyPost prog fn (TR B g w0 Q)) n k F w:=by simp only [Prod.mk.injEq] at hb;refine aH (Tq B g w0 M A a) (hn:=hn) ?_;refine aS (Tq.eng (dr:=true)) H 90 h d (hx:=hx) (he:=he) ?_;rintro l e j m ⟨rfl,M',A',t',i,c⟩;refine ⟨_,0,rfl,gh hb.1,?_⟩;have b:=hy (λx=>x=j);simp only [Prod.mk.injEq] at b;refine mu {} 20 (by rw [hb.2,b.1,b.2.1,b.2.2.1]) ?_ hr ⟨rfl,M',A',t',i,c⟩;rw [List.map_eq_nil_iff.1 b.2.2.2];rfl
theorem Km (i:Ins) (wd:Int) (f:jN i) (h:Tq B g w0 M A (t0 M i wd) w) (c:Gd M) (hd:Ud M.d) (H:M.wt=false):Calls prog 114 #[.p g 0] w (TR B g w0 (Pf (decide (87<=i.op/\i.op<=92)) (dq M i wd) i)):=by
 have V:=f.op1;have I:=f.op98;have u:=c.x32;have ua:=c.ux i.a.toNat;have X:=c.ux i.b.toNat;obtain ⟨_,_,Z,J,Y⟩:=Ie V I;have l:eO i.op=(if i.op<3 then .iface 203 (.agg #[]) else if i.op<11 then .iface 204 (.agg #[]) else if i.op<18 then nh .ld (wN i.op) (wS i.op) else if i.op<22 then nh .st (wN i.op) (wS i.op) else if i.op<63 then .iface 203 (.agg #[]) else if i.op<85 then (if i.op=63\/i.op=74 then nh .hd (wN i.op) (wS i.op) else if i.op=64\/i.op=75 then nh .sc (wN i.op) (wS i.op) else nh .am (wN i.op) (wS i.op)) else if i.op<87 then .iface 215 (.agg #[]) else if i.op<93 then .iface 216 (.agg #[]) else .iface 217 (.agg #[])):=rfl;have O:=λW (h:Tq B g w0 M A (t0 M i wd) W)=>Tr h u f.a0 f.a31;have S:=λW (h:Tq B g w0 M A (t0 M i wd) W)=>Vy h u f.b0 f.b31;have P:=λW (h:Tq B g w0 M A (t0 M i wd) W)=>tC h.row;have a:(t0 M i wd).fm=eO i.op:=rfl;refine gg (args:=[.p g 0]) (Tq B g w0 M A (t0 M i wd)) func114 ?_;refine aK 0 1 ?_;have k:eO i.op=.iface 203 (.agg #[])->dq M i wd=(be M i.rd (xl M i) (Uz.wrap (M.pc+4)),1)->Wg prog (Tq B g w0 M A (t0 M i wd)) (bodyPost prog Tryz.f114 (TR B g w0 (Pf false (dq M i wd) i))) Tryz.f114.ntmps [.code (aL Tryz.f114)] [(0,.p g 0,1)] w:=by intro b d;have T:=λW (h:Tq B g w0 M A (t0 M i wd) W)=>F4 i wd f h c;rw [d];generalize xl M i=v at *;refine aS (Tq.eng (dr:=true)) {eq:=[(5,⟨_,_,0,a.trans b⟩)]} 90 h T ?_;rintro y e N t ⟨rfl,p⟩;refine ⟨_,0,rfl,gh ba,?_⟩;refine aH (λ_=>True) ?_;refine aK 9 1 ?_;refine gp (R1:=[⟨g,bL M A {t0 M i wd with rs:=v},[]⟩]) (Iv.one p.row) {} 40 λQ D=>⟨rfl,M,A,{t0 M i wd with rs:=v},⟨?_,c,rfl,rfl,λe=>v9⟩,p.iv D rfl⟩;rw [iY rfl];rfl
 by_cases R:i.op<3
 ·have b:eO i.op=.iface 203 (.agg #[]):=(by rw [l,if_pos R]);rw [decide_eq_false ab];refine k b ?_;unfold dq xl;dsimp only;by_cases q:i.op=1;·rw [if_pos q,if_pos q]
  ·rw [if_neg q,if_pos ab,if_neg q,if_pos ab]
 by_cases c2:i.op<11;·have b:eO i.op=.iface 204 (.agg #[]):=(by rw [l,if_neg ab,if_pos ab]);have d:dq M i wd=pV M i (M.x.getD i.a.toNat 0) (M.x.getD i.b.toNat 0) (Uz.wrap i.imm):=ob;rw [decide_eq_false ab,d];exact pJ h {eq:=[(5,⟨_,_,0,a.trans b⟩)]} (λW j=>Tw i wd f ab ab j c) ba ba ba ba (λ_=>ba) rfl
 by_cases c3:i.op<18;·have b:eO i.op=nh .ld (wN i.op) (wS i.op):=(by rw [l,if_neg ab,if_neg ab,if_pos ab]);have d:dq M i wd=mZ M i (Uz.wrap (M.x.getD i.a.toNat 0+Uz.wrap i.imm)):=kr;rw [decide_eq_false ab,d];obtain ⟨m,e2⟩:=Z ab;have F:wN i.op=1\/wN i.op=2\/wN i.op=4\/wN i.op=8:=(by have q:i.op=11\/i.op=12\/i.op=13\/i.op=14\/i.op=15\/i.op=16\/i.op=17:=ab;rw [m];rcases q with q | q | q | q | q | q | q<;>rw [q]<;>decide);have E:=λW (h:Tq B g w0 M A (t0 M i wd) W)=>(F6 h c rfl .ld (wN i.op) (wS i.op) F (a.trans b) (Uz.wrap (M.x.getD i.a.toNat 0+Uz.wrap i.imm)) (aU _)).mono λe w' ⟨C,K,L⟩=>And.intro K (Exists.intro C L);have G:=QG i wd c (wN i.op) (wS i.op) (Uz.wrap (M.x.getD i.a.toNat 0+Uz.wrap i.imm)) m e2;generalize wN i.op=n at *;generalize wS i.op=s at *;refine aS (Tq.eng (dr:=true)) {eq:=[(5,⟨_,_,0,a.trans b⟩)],cv:=[(24,t7 O),(26,t7 P)]} 90 h E ?_;rintro y e N t ⟨rfl,C,p⟩;refine ⟨_,0,rfl,gh ba,?_⟩;exact mu {} 40 ba ba rfl ⟨rfl,_,C,_,G,p⟩
 by_cases c4:i.op<22;·have b:eO i.op=nh .st (wN i.op) (wS i.op):=(by rw [l,if_neg ab,if_neg ab,if_neg ab,if_pos ab]);have d:dq M i wd=nL M i (Uz.wrap (M.x.getD i.a.toNat 0+Uz.wrap i.imm)) (M.x.getD i.b.toNat 0):=i3;rw [decide_eq_false ab,d];have m:=J ab;have F:wN i.op=1\/wN i.op=2\/wN i.op=4\/wN i.op=8:=(by have q:i.op=18\/i.op=19\/i.op=20\/i.op=21:=ab;rw [m];rcases q with q | q | q | q<;>rw [q]<;>decide);have E:=λW (h:Tq B g w0 M A (t0 M i wd) W)=>(AS h c rfl .st (wN i.op) (wS i.op) F (a.trans b) (Uz.wrap (M.x.getD i.a.toNat 0+Uz.wrap i.imm)) (M.x.getD i.b.toNat 0) (aU _) X).mono λe w' ⟨C,K,L⟩=>And.intro K (Exists.intro C L);have G:=Ob i wd c (wN i.op) (Uz.wrap (M.x.getD i.a.toNat 0+Uz.wrap i.imm)) (M.x.getD i.b.toNat 0) m;generalize wN i.op=n at *;generalize wS i.op=s at *;refine aS (Tq.eng (dr:=true)) {eq:=[(5,⟨_,_,0,a.trans b⟩)],cv:=[(34,t7 O),(36,t7 P),(39,t7 S)]} 90 h E ?_;rintro y e N t ⟨rfl,C,p⟩;refine ⟨_,0,rfl,gh ba,?_⟩;exact mu {} 40 ba ba rfl ⟨rfl,_,C,_,G,p⟩
 by_cases c5:i.op<63;·have b:eO i.op=.iface 203 (.agg #[]):=(by rw [l,if_neg ab,if_neg ab,if_neg ab,if_neg ab,if_pos ab]);rw [decide_eq_false ab];refine k b ?_;have m:dq M i wd=(be M i.rd (nv i.op (M.x.getD i.a.toNat 0) (if (fp i.op).toList=[82] then M.x.getD i.b.toNat 0 else Uz.wrap i.imm)) (Uz.wrap (M.pc+4)),1):=fb;have e2:xl M i=nv i.op (M.x.getD i.a.toNat 0) (if (fp i.op).toList=[82] then M.x.getD i.b.toNat 0 else Uz.wrap i.imm):=(by unfold xl;rw [if_neg ab,if_neg ab]);rw [m,e2]
 clear k;by_cases c6:i.op<85
 ·have d:dq M i wd=iU M i (M.x.getD i.a.toNat 0) (M.x.getD i.b.toNat 0):=fa;rw [decide_eq_false ab,d];have o:eO i.op=(if i.op=63\/i.op=74 then nh .hd (wN i.op) (wS i.op) else if i.op=64\/i.op=75 then nh .sc (wN i.op) (wS i.op) else nh .am (wN i.op) (wS i.op)):=(by rw [l,if_neg ab,if_neg ab,if_neg ab,if_neg ab,if_neg ab,if_pos ab]);by_cases r:i.op=63\/i.op=74;·have b:=o.trans (if_pos r);have U:(m0 i.op==0)=true:=(by rcases r with q | q<;>rw [q]<;>decide);have e2:iU M i (M.x.getD i.a.toNat 0) (M.x.getD i.b.toNat 0)=Uo M i (M.x.getD i.a.toNat 0):=(by unfold iU;rw [U,if_pos rfl]);rw [e2];exact pJ h {eq:=[(5,⟨_,_,0,a.trans b⟩)]} (λW j=>Tt i wd f r j c hd) ba ba ba ba (λ_=>ba) rfl
  ·by_cases x:i.op=64\/i.op=75;·have b:=(o.trans (if_neg r)).trans (if_pos x);exact pJ h {eq:=[(5,⟨_,_,0,a.trans b⟩)]} (λW j=>Tu i wd f x j c) ba ba ba ba (λ_=>ba) rfl
   ·have b:=(o.trans (if_neg r)).trans (if_neg x);exact pJ h {eq:=[(5,⟨_,_,0,a.trans b⟩)]} (λW j=>UA i wd f ab ab ⟨r,x⟩ j c hd) ba ba ba ba (λ_=>ba) rfl
 by_cases c7:i.op<87;·have b:eO i.op=.iface 215 (.agg #[]):=(by rw [l,if_neg ab,if_neg ab,if_neg ab,if_neg ab,if_neg ab,if_neg ab,if_pos ab]);have d:dq M i wd=(be M 0 0 (Uz.wrap (M.pc+4)),1):=e9;rw [decide_eq_false ab,d];refine ae (Tq.eng (dr:=true)) {eq:=[(5,⟨_,_,0,a.trans b⟩)]} 2 h λy t=>?_;refine aH (λ_=>True) ?_;refine gp (R1:=[⟨g,bL M A (t0 M i wd),[]⟩]) (Iv.one t.row) {eq:=[(5,⟨_,_,0,a.trans b⟩)]} 90 λQ D=>⟨rfl,M,A,t0 M i wd,⟨?_,c,rfl,rfl,λe=>v9⟩,t.iv D rfl⟩;rw [iY rfl];exact congrArg (λz=>(z,(1:Int))) (lu (M:=M) (rd:=i.rd) (to:=Uz.wrap (M.pc+4)))
 by_cases c8:i.op<93;·have b:eO i.op=.iface 216 (.agg #[]):=(by rw [l,if_neg ab,if_neg ab,if_neg ab,if_neg ab,if_neg ab,if_neg ab,if_neg ab,if_pos ab]);have d:dq M i wd=nM M i (M.x.getD i.a.toNat 0) wd:=ep;rw [decide_eq_true ab,d];exact pJ h {eq:=[(5,⟨_,_,0,a.trans b⟩)]} (λW j=>UB i wd f ab ab j c) ba ba ba ba (λ_=>ba) rfl
 have b:eO i.op=.iface 217 (.agg #[]):=by rw [l,if_neg ab,if_neg ab,if_neg ab,if_neg ab,if_neg ab,if_neg ab,if_neg ab,if_neg ab]
 have d:dq M i wd=kN M i wd:=by unfold dq;dsimp only;rw [if_neg ab,if_neg ab,if_neg ab,if_neg ab,if_neg ab,if_neg ab,if_neg ab,if_neg ab,if_neg ab]
 rw [decide_eq_false ab,d];exact pJ h {eq:=[(5,⟨_,_,0,a.trans b⟩)]} (λW j=>N9 i wd f ab j c H) ba ba ba ba (λ_=>ba) rfl
end
end Go.Proofs.YtfagphfjfhpmjaaGreatDoor
