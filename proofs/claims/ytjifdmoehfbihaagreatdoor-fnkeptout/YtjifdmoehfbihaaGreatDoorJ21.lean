/- Own lemmas. -/
import Derived.Test.YtjifdmoehfbihaaGreatDoorAuj
import Derived.Test.YtjifdmoehfbihaaGreatDoorJ20
set_option maxRecDepth 100000
namespace Go.Proofs.YtjifdmoehfbihaaGreatDoor
open Go.RowKit Tryz
open IntKind renaming u64->Uz
set_option linter.unusedVariables false
variable {M:MV} {g w:Nat} {A B:World} {a:MA} {f:Int} {k:TV} (n:Ins)
section
variable {B g K : Nat} {w0 w w' W : World} {M M' : MV} {A A' : MA} {t t' : TV}
inductive Fo:Bool->Value->Prop
 | s (v:Value):Fo false (.iface 176 v)
 | j (v:Value):Fo false (.iface 177 v)
 | l (v:Value):Fo false (.iface 181 v)
 | t (v:Value):Fo false (.iface 183 v)
 | h (v:Value):Fo false (.iface 185 v)
 | c (v:Value):Fo false (.iface 186 v)
 | a (v:Value):Fo false (.iface 187 v)
 | f (v:Value):Fo false (.iface 188 v)
 | y (v:Value):Fo false (.iface 190 v)
 | r:Fo true (.iface 189 (.agg #[]))
theorem DM (op:Int):Fo (decide (87<=op/\op<=92)) (eX op):=by
 by_cases c:87<=op/\op<=92;·rw [decide_eq_true c];unfold eX;rw [if_neg ab,if_neg ab,if_neg ab,if_neg ab,if_neg ab,if_neg ab,if_neg ab,if_pos ab];exact .r
 ·rw [decide_eq_false c];unfold eX;split;·exact .s _
  split;·exact .j _
  split;·exact .l _
  split;·exact .t _
  split;·exact .s _
  split
  ·split;·exact .h _
   split;·exact .c _
   ·exact .a _
  split;·exact .f _
  split;·omega
  ·exact .y _
theorem Oz {cf:Bool} (s:Fo cf t.fm) (h:Tq B g w0 M A t w) (K:Gd M) (V:0<=t.rd) (O:t.rd<=31) (u:t.up=false):Calls prog 99 #[.p g 0] w λe w'=>e=.returned (.tuple #[])/\Tq B g w0 (uB cf M t).1 A t w':=by
 obtain ⟨n,P,Q,_,_,_⟩:=aC K.ok;have p:=K.x32;have fin:∀ (S:World->Prop) (N:MV) (W:World),Tq B g w0 N A t W->N.cs.length=22->(⟨t.nx,N.x,N.pr,if cf=true then N.cs else N.cs.set 21 (Uz.wrap (N.cs.getD 21 0+1)),N.ram,N.d,N.hd,N.hl,N.wt⟩:MV)=(uB cf M t).1->Wg prog S (bodyPost prog Tryz.f99 λe w'=>e=.returned (.tuple #[])/\Tq B g w0 (uB cf M t).1 A t w') Tryz.f99.ntmps [.code (aw 1 (aM Tryz.f99))] [(0,.p g 0,1)] W:=by
  intro S N W F n22 I;rw [<- I];clear I;refine aJ (λ_=>True) ?_;refine oG (R1:=[⟨g,bL ⟨t.nx,N.x,N.pr,N.cs,N.ram,N.d,N.hd,N.hl,N.wt⟩ A t,[]⟩]) (Iv.one F.row) {} 12 λC l=>?_;have f:=F.iv l rfl;refine af [.code (aw 2 (aM Tryz.f99))] [(0,.p g 0,1)] ?_;obtain ⟨a,y⟩:∃ a:MV,a=⟨t.nx,N.x,N.pr,N.cs,N.ram,N.d,N.hd,N.hl,N.wt⟩:=⟨_,rfl⟩;rw [<- y] at f;have H:a.cs=N.cs:=(by rw [y]);have J:(⟨t.nx,N.x,N.pr,if cf=true then N.cs else N.cs.set 21 (Uz.wrap (N.cs.getD 21 0+1)),N.ram,N.d,N.hd,N.hl,N.wt⟩:MV)=if cf=true then a else cM a (a.cs.set 21 (Uz.wrap (a.cs.getD 21 0+1))):=by rw [y];cases cf<;>rfl
  rw [J];rw [<- H] at n22;clear y H J l F;obtain ⟨b,j,G,_⟩:=f.atC n22;have x:∀ W,Tq B g w0 a A t W->W.cell? ⟨b,0+(21:Int).toNat,none⟩=some (.u (a.cs.getD 21 0))/\W.frozen? ⟨b,0+(21:Int).toNat,none⟩=false:=λW k=>by obtain ⟨L,d,_,c⟩:=k.atC n22;rw [j] at d;cases d;exact c 21 ab
  have cnt:∀ (S:World->Prop) (W:World),Tq B g w0 a A t W->Wg prog S (bodyPost prog Tryz.f99 λe w'=>e=.returned (.tuple #[])/\Tq B g w0 (cM a (a.cs.set 21 (Uz.wrap (a.cs.getD 21 0+1)))) A t w') Tryz.f99.ntmps [.code (aw 3 (aM Tryz.f99))] [(0,.p g 0,1),(3,.bool false,0)] W:=(by intro S W k;refine aJ (Tq B g w0 a A t) ?_;refine ae (Tq.eng (dr:=false)) {ov:=[(48,kJ a.cs.length A.cc .i64 21 j ⟨ab,ab⟩ underlying23 ba),(49,je ⟨b,0+(21:Int).toNat,none⟩ (.u (a.cs.getD 21 0)) underlying22 rfl (λW k=>(x W k).1)),(51,kJ a.cs.length A.cc .i64 21 j ⟨ab,ab⟩ underlying23 ba)]} 40 k λD f=>?_;refine bM (iD (T:=22) (v:=.u (Uz.wrap (a.cs.getD 21 0+1))) (x D f) ba rfl) ?_;exact mx {} 40 ba ba rfl ⟨rfl,f.setC j 21 (Uz.wrap (a.cs.getD 21 0+1))⟩);refine aJ (Tq B g w0 a A t) ?_;generalize m:t.fm=U at s;cases s;case r =>refine ae (Tq.eng (dr:=false)) {eq:=[(37,⟨_,_,0,m⟩)]} 10 f λi o=>?_;refine dM 2 (dQ (T:=189) (z:=.agg #[]) ba i) ?_;refine bM (aD (g:=i.heap.size) (t:=189) (ty:=189) (old:=#[]) (cells:=#[]) (heap_alloc_new _ _) ba rfl ba) ?_;have E:=o.below (aS ((Below.refl i.heap.size i).alloc (Nat.le_refl _) (.cells (Value.agg #[]).cells 189)) (Nat.le_refl _) #[]);exact mx {} 40 ba ba rfl ⟨rfl,E⟩
  all_goals
   refine ae (Tq.eng (dr:=false)) {eq:=[(37,⟨_,_,0,m⟩)]} 10 f λi o=>?_
   refine dM 2 (dQ (T:=189) (z:=.agg #[]) ba i) ?_
   refine bM (aD (g:=i.heap.size) (t:=189) (ty:=189) (old:=#[]) (cells:=#[]) (heap_alloc_new _ _) ba rfl ba) ?_
   have E:=o.below (aS ((Below.refl i.heap.size i).alloc (Nat.le_refl _) (.cells (Value.agg #[]).cells 189)) (Nat.le_refl _) #[])
   refine an (R:=[]) trivial {} 2 ?_
   exact af _ _ (cnt _ _ E)
 refine gq (args:=[.p g 0]) (Tq B g w0 M A t) func99 ?_;refine aN 0 1 ?_;by_cases e:t.rd=0;·have q:(t.rd != 0)=false:=(by simpa using e);refine ae (Tq.eng (dr:=false)) {eq:=[(9,ak q)]} 12 h λC l=>?_;refine af _ _ (fin _ M C l n ?_);unfold uB;rw [u,if_pos e];rfl
 ·have q:(t.rd != 0)=true:=(by simpa using e);obtain ⟨b,j,G,_⟩:=h.atX p;have x:∀ W,Tq B g w0 M A t W->W.cell? ⟨b,0+t.rd.toNat,none⟩=some (.u (M.x.getD (0+t.rd.toNat) 0))/\W.frozen? ⟨b,0+t.rd.toNat,none⟩=false:=λW k=>by obtain ⟨L,d,_,c⟩:=k.atX p;rw [j] at d;cases d;exact c (0+t.rd.toNat) ab
  refine ae (Tq.eng (dr:=false)) {eq:=[(9,ak q)]} 12 h λC l=>?_;refine uI ?_;refine ae (Tq.eng (dr:=true)) {ov:=[(24,kJ M.x.length A.cx .i64 t.rd j ⟨ab,ab⟩ underlying23 ba)]} 40 (l.below (Below.refl _ _).drew) λD f=>?_;refine bM (iD (T:=22) (v:=.u t.rs) (x D f) ba rfl) ?_;have o:=f.setX j (0+t.rd.toNat) t.rs;refine an (R:=[]) trivial {} 1 ?_;refine af _ _ (fin _ _ _ o n ?_);unfold uB;rw [u,if_neg e,Nat.zero_add];rfl
def tS:TV:=⟨.func (.func 40) #[] #[],0,0,0,0,0,0,.nilIface,0,0,false,false,0,0⟩
def Uj (M:MV) (q:Int × MV × Int):TV :=
 if (q.2.2 != 0)=true then nR tS q M.pc else match Ca q.1 with
  | none=>{tS with wd:=q.1,up:=true,cz:=2,vl:=q.1}
  | some i=>t0 q.2.1 i q.1
theorem Rl (h:Tq B g w0 M A tS w) (z:Gd M) (hd:Ud M.d):Calls prog 97 #[.p g 0] w λe w'=>e=.returned (.tuple #[])/\∃ C,Tq B g w0 (aE M M.pc 4 1 0).2.1 C (Uj M (aE M M.pc 4 1 0)) w':=by
 have J:=λW (h:Tq B g w0 M A tS W)=>Ow h z rfl M.pc 4 1 0 bc bc bc (λ_=>rfl) z.pc lw;have Q:=t8 z hd M.pc 4 ab 1 0;have ga:=z.acc M.pc 4 1 0;rw [show ((4:Nat):Int)=4 from rfl] at Q;unfold Uj;generalize aE M M.pc 4 1 0=X at *;obtain ⟨y,N,c⟩:=X;dsimp only at *;refine gq (args:=[.p g 0]) (Tq B g w0 M A tS) func97 ?_;refine aN 0 1 ?_;refine aW (Tq.eng (dr:=true)) {} 60 h J ?_;rintro W1 e W2 h1 ⟨C,rfl,l⟩;refine ⟨_,0,rfl,gE ba,?_⟩;cases hc:(c != 0) with
 | true =>rw [if_pos rfl];exact gz (R:=[]) trivial {} 40 λa _=>⟨_,results_none rfl _ _ _,rfl,C,l⟩
 | false =>
   rw [if_neg bc];unfold nR at l;dsimp only at l;rw [hc,if_neg bc] at l;refine aJ (λ_=>True) ?_;have d:=λW=>xe y Q.1 Q.2 W;unfold me at d;cases K:Ca y with
   | none =>simp only [K] at d;refine fN (R1:=[⟨g,bL N C {tS with wd:=y},[]⟩]) (Iv.one l.row) {} 60 (λW _=>d W) ?_;rintro W3 e W4 G ⟨rfl,L⟩;refine ⟨_,0,rfl,?_⟩;have s:=(l.iv G rfl).below L;refine fN (R1:=[⟨g,bL N C {tS with wd:=y},[]⟩]) (Iv.one s.row) {} 60 (λW I=>pz I.row1) ?_;rintro W5 e W6 H ⟨rfl,O⟩;refine ⟨_,0,rfl,?_⟩;have x:=(s.iv H rfl).iv O rfl;exact gz (R:=[]) trivial {} 40 λa _=>⟨_,results_none rfl _ _ _,rfl,C,x⟩
   | some i =>
     simp only [K] at d;have p:=AB K;have u:=λW=>Gg i.op p.op1 p.op98 W;obtain ⟨D,E,U⟩:∃ D E,eX i.op=.iface D E:=(by obtain ⟨S,q⟩:∃ S,Fo S (eX i.op):=⟨_,DM i.op⟩;generalize eX i.op=f at q;cases q<;>exact ⟨_,_,rfl⟩);rw [U] at u;refine fN (R1:=[⟨g,bL N C {tS with wd:=y},[]⟩]) (Iv.one l.row) {} 60 (λW _=>d W) ?_;rintro W3 e W4 G ⟨rfl,L⟩;refine ⟨_,0,rfl,?_⟩;have s:=(l.iv G rfl).below L;refine fN (R1:=[⟨g,bL N C {tS with wd:=y,op:=i.op,rd:=i.rd,ra:=i.a,rb:=i.b,im:=i.imm},[]⟩]) (Iv.one s.row) {} 60 (λW _=>u W) ?_;rintro W5 e W6 H ⟨rfl,O⟩;refine ⟨_,0,rfl,?_⟩;have x:=(s.iv H rfl).below O;obtain ⟨o,m⟩:∃ o:TV,o={tS with wd:=y,op:=i.op,rd:=i.rd,ra:=i.a,rb:=i.b,im:=i.imm,fm:=.iface D E}:=⟨_,rfl⟩;have F:o.rd=i.rd:=(by rw [m]);have n32:=ga.x32;refine oG (R1:=[⟨g,bL N C {tS with wd:=y,op:=i.op,rd:=i.rd,ra:=i.a,rb:=i.b,im:=i.imm,fm:=.iface D E},[]⟩]) (Iv.one x.row) {} 4 λW7 V=>?_;rw [<- m] at V;have Y:=x.iv V rfl;refine af [.code (aw 6 (aM Tryz.f97))] [(0,.p g 0,1)] ?_;obtain ⟨b,Z,hne,_⟩:=Y.atX n32;have cc:∀ W,Tq B g w0 N C o W->W.cell? ⟨b,0+i.rd.toNat,none⟩=some (.u (N.x.getD (0+i.rd.toNat) 0)):=λW I=>by obtain ⟨b',t,_,k⟩:=I.atX n32;rw [Z] at t;cases t;have:=p.rd0;have:=p.rd31;exact (k (0+i.rd.toNat) ab).1
     refine aJ (Tq B g w0 N C o) ?_;refine ae (Tq.eng (dr:=false)) {} 1 Y λW9 h9=>?_;refine lJ 15 ?_;refine ae (Tq.eng (dr:=true)) {eq:=[(51,dP .i64 F)],ov:=[(52,kJ N.x.length C.cx .i64 i.rd Z ⟨p.rd0,by have:=p.rd31;omega⟩ underlying23 ba),(53,je ⟨b,0+i.rd.toNat,none⟩ (.u (N.x.getD (0+i.rd.toNat) 0)) underlying22 rfl cc)]} 40 (h9.below (Below.refl _ _).drew) λW10 n=>?_;obtain ⟨T10,P⟩:=n.row;refine bM (bJ (i:=22) (T:=22) (v:=.u (N.x.getD (0+i.rd.toNat) 0)) P (show 22<28 by decide) ba rfl) ?_;have r:Tq B g w0 N C {o with rs:=N.x.getD (0+i.rd.toNat) 0} _:=n.iv ((Iv.one n.row).cell 22 (.u (N.x.getD (0+i.rd.toNat) 0))) rfl;refine aJ (λ_=>True) ?_;refine an (R:=[]) trivial {} 1 ?_;refine af [.code (aw 7 (aM Tryz.f97))] [(0,.p g 0,1)] ?_;refine gx (R1:=[⟨g,bL N C {o with rs:=N.x.getD (0+i.rd.toNat) 0,nx:=Uz.wrap (N.pc+4)},[]⟩]) (Iv.one r.row) {} 60 λW11 j=>⟨rfl,C,?_⟩;have j:=r.iv j rfl;rw [m,Nat.zero_add,<- U] at j;exact j
end
theorem zu (h:U f):(dg f 1 1==1)=(bits .and .u64 f 2 != 0):=by
 rw [Qm f 1 h];cases a:bt f 1 with
 | true =>
   rw [if_pos rfl];have:bits .and .u64 f 2≠0:=λe=>by have q:=az f 2 1;rw [e,a] at q;exact absurd q bc
   simp [this]
 | false =>
   rw [if_neg bc];have:bits .and .u64 f 2=0:=by refine bA _ _ (ah _ _ _) lw λi b=>?_;rw [az];have key:∀ j,j<64->∀ c:Bool,(j=1->c=false)->(c&&bt 2 j)=bt 0 j:=cb;exact key i b _ (λe=>by rw [e];exact a)
   simp [this]
theorem AZ {i:Ins} {t:TV} {x:Int} (d:U f) (to:Gd M) (c:t.up=false) (b:t.rd=i.rd) (a:t.fm=eX i.op) {rd:Int} (hx:aY M t.rd t.rs f=aY M rd x f):Pf false (if (bits .and .u64 f 2 != 0)=true then (aL M 0 false f,2) else (aY M rd x f,1)) i M (rC t f):=by
 unfold rC;rw [zu d];cases g:(bits .and .u64 f 2 != 0) with
 | true =>rw [if_pos rfl,if_pos rfl];exact ⟨iL (k:=0) rfl rfl,to,b,a,λ_=>⟨0,bc,rfl⟩⟩
 | false =>rw [if_neg bc,if_neg bc];refine ⟨?_,to,b,a,λe=>by rw [show TV.up {t with nx:=f}=t.up from rfl,c] at e;cases e⟩;rw [jg (t:={t with nx:=f}) c,<- hx]
theorem Uk (i:Ins) (wd:Int) (o:jS i) (D:3<=i.op) (p:i.op<=10) (h:Tq w g A M a (t0 M i wd) B) (d:Gd M): Calls prog 154 #[.p g 0] B (TR w g A (Pf false (nV M i (M.x.getD i.a.toNat 0) (M.x.getD i.b.toNat 0) (Uz.wrap i.imm)) i)):=by
 have w0:=d.x32;obtain ⟨b,s,l,t⟩:=h.atX w0;have m:=o.a0;have y:=o.a31;have q:=o.b0;have C:=o.b31;have r:=(t (0+i.a.toNat) ab).1;have v:=(t (0+i.b.toNat) ab).1;unfold nV;by_cases u:i.op=3;·refine (Ks h.row u).mono λe w' ⟨f,k⟩=>⟨f,M,a,_,?_,h.iv k rfl⟩;have c:fS M i (M.x.getD i.a.toNat 0) (M.x.getD i.b.toNat 0) (Uz.wrap i.imm)=Uz.wrap (M.pc+Uz.wrap i.imm):=(by unfold fS;rw [if_neg ab,decide_eq_false ab];rfl);rw [c,if_neg (show ¬ 4<i.op by omega)];exact AZ (aT _) d rfl rfl rfl rfl
 by_cases n:i.op=4;·have:=NV h.row n s ⟨m,show i.a<(M.x.length:Int) by rw [w0];omega⟩ l r;rw [Nat.zero_add] at this;refine this.mono λe w' ⟨f,k⟩=>⟨f,M,a,_,?_,h.iv k rfl⟩;have c:fS M i (M.x.getD i.a.toNat 0) (M.x.getD i.b.toNat 0) (Uz.wrap i.imm)=bits .andNot .u64 (Uz.wrap (M.x.getD i.a.toNat 0+Uz.wrap i.imm)) 1:=(by unfold fS;rw [if_pos n]);rw [c,if_neg (show ¬ 4<i.op by omega)];exact AZ (ah _ _ _) d rfl rfl rfl rfl
 ·have:=Dz h.row (show 5<=i.op by omega) p s ⟨m,show i.a<(M.x.length:Int) by rw [w0];omega⟩ ⟨q,show i.b<(M.x.length:Int) by rw [w0];omega⟩ l r v;rw [Nat.zero_add,Nat.zero_add] at this;refine this.mono λe w' ⟨f,k⟩=>⟨f,M,a,_,?_,h.iv k rfl⟩;rw [if_pos (show 4<i.op by omega)];show Pf _ _ _ _ (if KO i.op (M.x.getD i.a.toNat 0) (M.x.getD i.b.toNat 0)=true then rC (t0 M i wd) (Uz.wrap (M.pc+Uz.wrap i.imm)) else t0 M i wd);cases j:KO i.op (M.x.getD i.a.toNat 0) (M.x.getD i.b.toNat 0) with
  | true =>have c:fS M i (M.x.getD i.a.toNat 0) (M.x.getD i.b.toNat 0) (Uz.wrap i.imm)=Uz.wrap (M.pc+Uz.wrap i.imm):=(by unfold fS;rw [if_neg n,decide_eq_true (show 4<i.op by omega),j];rfl);rw [c,if_pos rfl];exact AZ (x:=Uz.wrap (M.pc+4)) (rd:=0) (aT _) d rfl rfl rfl lz
  | false =>have c:fS M i (M.x.getD i.a.toNat 0) (M.x.getD i.b.toNat 0) (Uz.wrap i.imm)=Uz.wrap (M.pc+4):=(by unfold fS;rw [if_neg n,decide_eq_true (show 4<i.op by omega),j];rfl);have e2:(bits .and .u64 (Uz.wrap (M.pc+4)) 2 != 0)=false:=(by rw [<- zu (aT _)];have:=d.al4;rw [IntKind.wrap_u64];simp [dg];omega);rw [c,e2,if_neg bc,if_neg bc];refine ⟨?_,d,rfl,rfl,λe=>by cases e⟩;rw [jg rfl];exact congrArg (λz=>(z,(1:Int))) (lz (M:=M) (rd:=i.rd) (to:=Uz.wrap (M.pc+4)))
theorem Rn (wd:Int) (d:Gd M) (i:Nat) (s:Bool) (a:Int) (hn:i=jN n.op) (hs:s=decide (n.op-11<4)):Pf false (lX M n a) n (aE M a i 2 0).2.1 (ue (t0 M n wd) (aE M a i 2 0) a i s):=by
 have f:lX M n a=if ((aE M a i 2 0).2.2 != 0)=true then cS (aE M a i 2 0) 0 a else (aY (aE M a i 2 0).2.1 n.rd (if s=true then au (8*i) (aE M a i 2 0).1 else (aE M a i 2 0).1) (Uz.wrap ((aE M a i 2 0).2.1.pc+4)),1):=by
  subst hn hs;unfold lX;dsimp only;by_cases q:n.op-11<4;·rw [if_pos q,decide_eq_true q,if_pos rfl]
  ·rw [if_neg q,decide_eq_false q];rfl
 rw [f,(i7 M a i 2 0).1];have g:=d.acc a i 2 0;have c:=λb=>nh (cf:=false) (i:=n) (t:=t0 M n wd) (M:=M) (a:=a) (n:=i) (kind:=2) (x:=0) rfl d b rfl rfl;unfold ue;generalize aE M a i 2 0=X at *;cases b:(X.2.2 != 0) with
 | true=>rw [if_pos rfl,if_pos rfl];exact c b
 | false =>rw [if_neg (show ¬ (false=true) by decide),if_neg (show ¬ (false=true) by decide)];refine ⟨?_,g,rfl,rfl,λe=>by cases e⟩;rw [jg rfl];rfl
theorem OA (wd:Int) (d:Gd M) (i:Nat) (a x:Int) (hn:i=2^(n.op-18).toNat):Pf false (lY M n a x) n (aE M a i 3 x).2.1 (nR (t0 M n wd) (aE M a i 3 x) a):=by
 have g:lY M n a x=if ((aE M a i 3 x).2.2 != 0)=true then cS (aE M a i 3 x) 0 a else (aY (aE M a i 3 x).2.1 0 0 (Uz.wrap ((aE M a i 3 x).2.1.pc+4)),1):=by subst hn;rfl
 obtain ⟨f,e2,_,_⟩:=i7 M a i 3 x;rw [g,f];have h:=d.acc a i 3 x;have c:=λb=>nh (cf:=false) (i:=n) (t:=t0 M n wd) (M:=M) (a:=a) (n:=i) (kind:=3) (x:=x) rfl d b rfl rfl;generalize aE M a i 3 x=X at *;cases b:(X.2.2 != 0) with
 | true=>rw [if_pos rfl];exact c b
 | false =>rw [if_neg bc];unfold nR;rw [b,if_neg bc];refine ⟨?_,h,rfl,rfl,λe=>by cases e⟩;rw [jg rfl];have:=lz (M:=X.2.1) (rd:=n.rd) (to:=Uz.wrap (M.pc+4));rw [e2] at this;exact congrArg (λz=>(z,(1:Int))) this
theorem pJ {Q:MV->TV->Prop} {S:World->Prop} {n:Nat} {fn:Func} {w0:List KI} {F:Fr} {f:Nat} {args:Array Value} (h:Tq w g A M a k B) (H:Hn prog (Tq w g A M a k) (Tq w g A M a k)) (d:∀ W,Tq w g A M a k W->Calls prog f args W (TR w g A Q)) (hn:io w0=true) (hx:((bq prog [⟨g,bL M a k,[]⟩] H n true 90 w0 F).1.1,Pa prog n (bq prog [⟨g,bL M a k,[]⟩] H n true 90 w0 F).1.2.2 (bq prog [⟨g,bL M a k,[]⟩] H n true 90 w0 F).1.2.1)=(false,some (f,args))) (he:(bq prog [⟨g,bL M a k,[]⟩] H n true 90 w0 F).2.map Prod.fst=(bq prog [⟨g,bL M a k,[]⟩] H n true 90 w0 F).2.map Prod.snd) (hb:(zL (bq prog [⟨g,bL M a k,[]⟩] H n true 90 w0 F).1.2.2 (bq prog [⟨g,bL M a k,[]⟩] H n true 90 w0 F).1.2.1,io (pq (bq prog [⟨g,bL M a k,[]⟩] H n true 90 w0 F).1.2.2 (bq prog [⟨g,bL M a k,[]⟩] H n true 90 w0 F).1.2.1))=(false,true)) (hy:∀ J:World->Prop,(λ(y:(Bool × List KI × Fr) × List (Oe × Oe))=>(y.1.1,io y.1.2.1,y.1.2.1.isEmpty,y.2.map Prod.fst)) (bq prog [] ({}:Hn prog J J) n false 20 (pq (bq prog [⟨g,bL M a k,[]⟩] H n true 90 w0 F).1.2.2 (bq prog [⟨g,bL M a k,[]⟩] H n true 90 w0 F).1.2.1) (qA (bq prog [⟨g,bL M a k,[]⟩] H n true 90 w0 F).1.2.2 (bq prog [⟨g,bL M a k,[]⟩] H n true 90 w0 F).1.2.1 (.tuple #[]) 0))=(false,true,true,[])) (hr:fn.results=#[]):Wg prog S (bodyPost prog fn (TR w g A Q)) n w0 F B:=by simp only [Prod.mk.injEq] at hb;refine aJ (Tq w g A M a k) (hn:=hn) ?_;refine aW (Tq.eng (dr:=true)) H 90 h d (hx:=hx) (he:=he) ?_;rintro l e j m ⟨rfl,M',A',t',i,c⟩;refine ⟨_,0,rfl,gE hb.1,?_⟩;have b:=hy (λx=>x=j);simp only [Prod.mk.injEq] at b;refine mx {} 20 (by rw [hb.2,b.1,b.2.1,b.2.2.1]) ?_ hr ⟨rfl,M',A',t',i,c⟩;rw [List.map_eq_nil_iff.1 b.2.2.2];rfl
theorem KG (i:Ins) (wd:Int) (f:jS i) (h:Tq w g A M a (t0 M i wd) B) (c:Gd M) (hd:Ud M.d) (H:M.wt=false): Calls prog 98 #[.p g 0] B (TR w g A (Pf (decide (87<=i.op/\i.op<=92)) (dh M i wd) i)):=by
 have V:=f.op1;have I:=f.op98;have u:=c.x32;have ua:=c.ux i.a.toNat;have X:=c.ux i.b.toNat;obtain ⟨_,_,Z,J,Y⟩:=Is V I;have l:eX i.op=(if i.op<3 then .iface 176 (.agg #[]) else if i.op<11 then .iface 177 (.agg #[]) else if i.op<18 then ns .ld (wN i.op) (wS i.op) else if i.op<22 then ns .st (wN i.op) (wS i.op) else if i.op<63 then .iface 176 (.agg #[]) else if i.op<85 then (if i.op=63\/i.op=74 then ns .hd (wN i.op) (wS i.op) else if i.op=64\/i.op=75 then ns .sc (wN i.op) (wS i.op) else ns .am (wN i.op) (wS i.op)) else if i.op<87 then .iface 188 (.agg #[]) else if i.op<93 then .iface 189 (.agg #[]) else .iface 190 (.agg #[])):=rfl;have O:=λW (h:Tq w g A M a (t0 M i wd) W)=>Uf h u f.a0 f.a31;have S:=λW (h:Tq w g A M a (t0 M i wd) W)=>Ww h u f.b0 f.b31;have P:=λW (h:Tq w g A M a (t0 M i wd) W)=>tI h.row;have w0:(t0 M i wd).fm=eX i.op:=rfl;refine gq (args:=[.p g 0]) (Tq w g A M a (t0 M i wd)) func98 ?_;refine aN 0 1 ?_;have k:eX i.op=.iface 176 (.agg #[])->dh M i wd=(aY M i.rd (xw M i) (Uz.wrap (M.pc+4)),1)->Wg prog (Tq w g A M a (t0 M i wd)) (bodyPost prog Tryz.f98 (TR w g A (Pf false (dh M i wd) i))) Tryz.f98.ntmps [.code (aM Tryz.f98)] [(0,.p g 0,1)] B:=by intro b d;have T:=λW (h:Tq w g A M a (t0 M i wd) W)=>Gh i wd f h c;rw [d];generalize xw M i=v at *;refine aW (Tq.eng (dr:=true)) {eq:=[(5,⟨_,_,0,w0.trans b⟩)]} 90 h T ?_;rintro y e N t ⟨rfl,p⟩;refine ⟨_,0,rfl,gE ba,?_⟩;refine aJ (λ_=>True) ?_;refine aN 9 1 ?_;refine gx (R1:=[⟨g,bL M a {t0 M i wd with rs:=v},[]⟩]) (Iv.one p.row) {} 40 λQ D=>⟨rfl,M,a,{t0 M i wd with rs:=v},⟨?_,c,rfl,rfl,λe=>by cases e⟩,p.iv D rfl⟩;rw [jg rfl];rfl
 by_cases R:i.op<3
 ·have b:eX i.op=.iface 176 (.agg #[]):=(by rw [l,if_pos R]);rw [decide_eq_false ab];refine k b ?_;unfold dh xw;dsimp only;by_cases q:i.op=1;·rw [if_pos q,if_pos q]
  ·rw [if_neg q,if_pos ab,if_neg q,if_pos ab]
 by_cases c2:i.op<11;·have b:eX i.op=.iface 177 (.agg #[]):=(by rw [l,if_neg ab,if_pos ab]);have d:dh M i wd=nV M i (M.x.getD i.a.toNat 0) (M.x.getD i.b.toNat 0) (Uz.wrap i.imm):=ni;rw [decide_eq_false ab,d];exact pJ h {eq:=[(5,⟨_,_,0,w0.trans b⟩)]} (λW j=>Uk i wd f ab ab j c) ba ba ba ba (λ_=>ba) rfl
 by_cases c3:i.op<18;·have b:eX i.op=ns .ld (wN i.op) (wS i.op):=(by rw [l,if_neg ab,if_neg ab,if_pos ab]);have d:dh M i wd=lX M i (Uz.wrap (M.x.getD i.a.toNat 0+Uz.wrap i.imm)):=kd;rw [decide_eq_false ab,d];obtain ⟨m,e2⟩:=Z ab;have F:wN i.op=1\/wN i.op=2\/wN i.op=4\/wN i.op=8:=(by have q:i.op=11\/i.op=12\/i.op=13\/i.op=14\/i.op=15\/i.op=16\/i.op=17:=ab;rw [m];rcases q with q | q | q | q | q | q | q<;>rw [q]<;>decide);have E:=λW (h:Tq w g A M a (t0 M i wd) W)=>(Gj h c rfl .ld (wN i.op) (wS i.op) F (w0.trans b) (Uz.wrap (M.x.getD i.a.toNat 0+Uz.wrap i.imm)) (aT _)).mono λe w' ⟨C,K,L⟩=>And.intro K (Exists.intro C L);have G:=Rn i wd c (wN i.op) (wS i.op) (Uz.wrap (M.x.getD i.a.toNat 0+Uz.wrap i.imm)) m e2;generalize wN i.op=n at *;generalize wS i.op=s at *;refine aW (Tq.eng (dr:=true)) {eq:=[(5,⟨_,_,0,w0.trans b⟩)],cv:=[(24,ug O),(26,ug P)]} 90 h E ?_;rintro y e N t ⟨rfl,C,p⟩;refine ⟨_,0,rfl,gE ba,?_⟩;exact mx {} 40 ba ba rfl ⟨rfl,_,C,_,G,p⟩
 by_cases c4:i.op<22;·have b:eX i.op=ns .st (wN i.op) (wS i.op):=(by rw [l,if_neg ab,if_neg ab,if_neg ab,if_pos ab]);have d:dh M i wd=lY M i (Uz.wrap (M.x.getD i.a.toNat 0+Uz.wrap i.imm)) (M.x.getD i.b.toNat 0):=i2;rw [decide_eq_false ab,d];have m:=J ab;have F:wN i.op=1\/wN i.op=2\/wN i.op=4\/wN i.op=8:=(by have q:i.op=18\/i.op=19\/i.op=20\/i.op=21:=ab;rw [m];rcases q with q | q | q | q<;>rw [q]<;>decide);have E:=λW (h:Tq w g A M a (t0 M i wd) W)=>(AY h c rfl .st (wN i.op) (wS i.op) F (w0.trans b) (Uz.wrap (M.x.getD i.a.toNat 0+Uz.wrap i.imm)) (M.x.getD i.b.toNat 0) (aT _) X).mono λe w' ⟨C,K,L⟩=>And.intro K (Exists.intro C L);have G:=OA i wd c (wN i.op) (Uz.wrap (M.x.getD i.a.toNat 0+Uz.wrap i.imm)) (M.x.getD i.b.toNat 0) m;generalize wN i.op=n at *;generalize wS i.op=s at *;refine aW (Tq.eng (dr:=true)) {eq:=[(5,⟨_,_,0,w0.trans b⟩)],cv:=[(34,ug O),(36,ug P),(39,ug S)]} 90 h E ?_;rintro y e N t ⟨rfl,C,p⟩;refine ⟨_,0,rfl,gE ba,?_⟩;exact mx {} 40 ba ba rfl ⟨rfl,_,C,_,G,p⟩
 by_cases c5:i.op<63;·have b:eX i.op=.iface 176 (.agg #[]):=(by rw [l,if_neg ab,if_neg ab,if_neg ab,if_neg ab,if_pos ab]);rw [decide_eq_false ab];refine k b ?_;have m:dh M i wd=(aY M i.rd (nC i.op (M.x.getD i.a.toNat 0) (if (fs i.op).toList=[82] then M.x.getD i.b.toNat 0 else Uz.wrap i.imm)) (Uz.wrap (M.pc+4)),1):=fa;have e2:xw M i=nC i.op (M.x.getD i.a.toNat 0) (if (fs i.op).toList=[82] then M.x.getD i.b.toNat 0 else Uz.wrap i.imm):=(by unfold xw;rw [if_neg ab,if_neg ab]);rw [m,e2]
 clear k;by_cases c6:i.op<85
 ·have d:dh M i wd=iC M i (M.x.getD i.a.toNat 0) (M.x.getD i.b.toNat 0):=e9;rw [decide_eq_false ab,d];have o:eX i.op=(if i.op=63\/i.op=74 then ns .hd (wN i.op) (wS i.op) else if i.op=64\/i.op=75 then ns .sc (wN i.op) (wS i.op) else ns .am (wN i.op) (wS i.op)):=(by rw [l,if_neg ab,if_neg ab,if_neg ab,if_neg ab,if_neg ab,if_pos ab]);by_cases r:i.op=63\/i.op=74;·have b:=o.trans (if_pos r);have U:(na i.op==0)=true:=(by rcases r with q | q<;>rw [q]<;>decide);have e2:iC M i (M.x.getD i.a.toNat 0) (M.x.getD i.b.toNat 0)=Uv M i (M.x.getD i.a.toNat 0):=(by unfold iC;rw [U,if_pos rfl]);rw [e2];exact pJ h {eq:=[(5,⟨_,_,0,w0.trans b⟩)]} (λW j=>Uh i wd f r j c hd) ba ba ba ba (λ_=>ba) rfl
  ·by_cases x:i.op=64\/i.op=75;·have b:=(o.trans (if_neg r)).trans (if_pos x);exact pJ h {eq:=[(5,⟨_,_,0,w0.trans b⟩)]} (λW j=>Ui i wd f x j c) ba ba ba ba (λ_=>ba) rfl
   ·have b:=(o.trans (if_neg r)).trans (if_neg x);exact pJ h {eq:=[(5,⟨_,_,0,w0.trans b⟩)]} (λW j=>Vo i wd f ab ab ⟨r,x⟩ j c hd) ba ba ba ba (λ_=>ba) rfl
 by_cases c7:i.op<87;·have b:eX i.op=.iface 188 (.agg #[]):=(by rw [l,if_neg ab,if_neg ab,if_neg ab,if_neg ab,if_neg ab,if_neg ab,if_pos ab]);have d:dh M i wd=(aY M 0 0 (Uz.wrap (M.pc+4)),1):=e8;rw [decide_eq_false ab,d];refine ae (Tq.eng (dr:=true)) {eq:=[(5,⟨_,_,0,w0.trans b⟩)]} 2 h λy t=>?_;refine aJ (λ_=>True) ?_;refine gx (R1:=[⟨g,bL M a (t0 M i wd),[]⟩]) (Iv.one t.row) {eq:=[(5,⟨_,_,0,w0.trans b⟩)]} 90 λQ D=>⟨rfl,M,a,t0 M i wd,⟨?_,c,rfl,rfl,λe=>by cases e⟩,t.iv D rfl⟩;rw [jg rfl];exact congrArg (λz=>(z,(1:Int))) (lz (M:=M) (rd:=i.rd) (to:=Uz.wrap (M.pc+4)))
 by_cases c8:i.op<93;·have b:eX i.op=.iface 189 (.agg #[]):=(by rw [l,if_neg ab,if_neg ab,if_neg ab,if_neg ab,if_neg ab,if_neg ab,if_neg ab,if_pos ab]);have d:dh M i wd=mJ M i (M.x.getD i.a.toNat 0) wd:=el;rw [decide_eq_true ab,d];exact pJ h {eq:=[(5,⟨_,_,0,w0.trans b⟩)]} (λW j=>Vp i wd f ab ab j c) ba ba ba ba (λ_=>ba) rfl
 have b:eX i.op=.iface 190 (.agg #[]):=by rw [l,if_neg ab,if_neg ab,if_neg ab,if_neg ab,if_neg ab,if_neg ab,if_neg ab,if_neg ab]
 have d:dh M i wd=ke M i wd:=by unfold dh;dsimp only;rw [if_neg ab,if_neg ab,if_neg ab,if_neg ab,if_neg ab,if_neg ab,if_neg ab,if_neg ab,if_neg ab]
 rw [decide_eq_false ab,d];exact pJ h {eq:=[(5,⟨_,_,0,w0.trans b⟩)]} (λW j=>Oy i wd f ab j c H) ba ba ba ba (λ_=>ba) rfl
end Go.Proofs.YtjifdmoehfbihaaGreatDoor
