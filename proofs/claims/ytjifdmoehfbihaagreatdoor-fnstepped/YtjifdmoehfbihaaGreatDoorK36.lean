/- Own lemmas. -/
import Derived.Test.YtjifdmoehfbihaaGreatDoorAut
import Derived.Test.YtjifdmoehfbihaaGreatDoorK35
set_option maxRecDepth 100000
namespace Go.Proofs.YtjifdmoehfbihaaGreatDoor
open Go.RowKit Tryz
open IntKind renaming u64->Uz
set_option linter.unusedVariables false
section
variable {l l' : List Int} (h : ∀ j, j≠9 -> l.getD j 0 = l'.getD j 0)
include h
theorem GH (i:Nat):du l i=du l' i:=by unfold du;rw [h 16 ab]
theorem MS (i:Nat):iS l i=iS l' i:=by unfold iS;rw [GH h]
theorem MT (i:Nat):cO l i=cO l' i:=by unfold cO kF;rw [MS h,h (17+i) ab,h (16+i) ab]
theorem zU (p x y kind:Int):∀ n k,aA l p x y kind n k=aA l' p x y kind n k
 | 0,_=>rfl
 | n+1,k=>by rw [aA,aA,MT h,GH h,zU p x y kind n (k+1)]
theorem MU (p va kind e x:Int) (lv:Nat):db l p va kind e x lv=db l' p va kind e x lv:=by unfold db gA gB;rw [h 0 ab,zU h]
theorem GI (zs:List Int) (n:Nat) (p va kind:Int):∀ a T,bK zs n l p va kind a T=bK zs n l' p va kind a T
 | 0,T=>by rw [bK,bK,zU h,MU h]
 | a+1,T=>by rw [bK,bK,zU h,MU h,GI zs n p va kind a]
theorem Pt (zs:List Int) (n:Nat) (p va kind:Int):bW zs n l p va kind=bW zs n l' p va kind:=by unfold bW kH;rw [h 15 ab,GI h]
theorem Sm (p kind:Int):fR l p kind=fR l' p kind:=by unfold fR;rw [h 0 ab]
end
theorem Pu (M:MV) (pa n x:Int) (b:(qU M pa n 2 x).2.2=0):(qU M pa n 2 x).2.1.ram=M.ram/\(qU M pa n 2 x).2.1.pr=M.pr/\∀ j,j≠9->(qU M pa n 2 x).2.1.cs.getD j 0=M.cs.getD j 0:=by
 unfold qU at b ⊢;split;·exact ⟨rfl,rfl,λ_ _=>rfl⟩
 ·rename_i c;rw [if_neg c] at b;split
  ·rename_i a;split;·exact ⟨rfl,rfl,λj d=>jM _ 9 j _ (Ne.symm d)⟩
   ·exact ⟨rfl,rfl,λ_ _=>rfl⟩
  ·rename_i a;exact absurd rfl a
theorem ER {M:MV} (r:Gd M) {a n:Int} (b:(aC M a n 2 0).2.2=0):(cg (aC M a n 2 0).2.1 a 2).code=0:=by
 have p:∀ i,0<=M.ram.getD i 0/\M.ram.getD i 0<=255:=EN r.mw.ram;have key:∀ F:Fd,F=bW M.ram M.ram.length M.cs (fR M.cs M.pr 2) a 2->F.code=0->∀ N:MV,N.ram=bn M.ram F->N.pr=M.pr->(∀ j,j≠9->N.cs.getD j 0=M.cs.getD j 0)->(cg N a 2).code=0:=by
  intro F hF l N m o h;unfold cg;rw [m,o,j9,Pt h,Sm h];rcases Ei M.ram M.ram.length rfl p M.cs (fR M.cs M.pr 2) a 2 with ⟨_,e,_⟩|⟨e,_⟩;·rw [hF,e]
  ·rw [<- hF] at e;exact absurd l e
 unfold aC at b ⊢;split;·rename_i q;rw [if_pos q] at b;exact absurd b (show ¬ n8 2=0 by decide)
 ·rename_i q;rw [if_neg q] at b;unfold wP at b ⊢;split;·rename_i f;rw [if_pos f] at b;exfalso;obtain ⟨c,k,e⟩:=lG M.ram M.ram.length M.cs (fR M.cs M.pr 2) a 2;have d:wrap64 ((bW M.ram M.ram.length M.cs (fR M.cs M.pr 2) a 2).code+16)=0:=b;rw [e] at d;unfold wrap64 at d;omega
  ·rename_i f;rw [if_neg f] at b;have s:(bW M.ram M.ram.length M.cs (fR M.cs M.pr 2) a 2).code=0:=i6;split;·rename_i g;rw [if_pos g] at b;exact absurd b (show ¬ gR 2=0 by decide)
   ·rename_i g;rw [if_neg g] at b;obtain ⟨t,u,v⟩:=Pu _ _ _ _ b;exact key _ rfl s _ t u v
section
variable {B g : Nat} {w0 w w' : World} {M M' : MV} {A A' : MA} {t t' : TV}
theorem UD (h:Tq B g w0 M A t w) (b:M.x.length=32) (c:0<=t.ra) (a:t.ra<=31) {v:Int} (hv:M.x.getD t.ra.toNat 0=v):Calls prog 156 #[.p g 0] w λe w'=>e=.returned (.u v)/\Iv [g] w [⟨g,bH M A t,[]⟩] w':=by subst hv;exact Sk h b c a
theorem UN (h:Tq B g w0 M A t w) (b:M.x.length=32) (c:0<=t.rb) (a:t.rb<=31) {v:Int} (hv:M.x.getD t.rb.toNat 0=v):Calls prog 159 #[.p g 0] w λe w'=>e=.returned (.u v)/\Iv [g] w [⟨g,bH M A t,[]⟩] w':=by subst hv;exact UC h b c a
theorem MX (h:Tq B g w0 M A t w) (n:Gd M) (d:t.ld=.func (.func 40) #[] #[]) (addr size kind x:Int) (i:iW size=true) (a:1<=kind) (b:kind<=3) (c:kind=1->size=4) (m:U addr) (hx:U x) :
 Calls prog 149 #[.p g 0,.u addr,.i size,.i kind,.u x] w λe w'=>∃ C,e=.returned (.tuple #[.u (if (aC M addr size kind x).2.2 != 0 then 0 else (aC M addr size kind x).1),.bool (!((aC M addr size kind x).2.2 != 0))])/\Tq B g w0 (aC M addr size kind x).2.1 C (ns t (aC M addr size kind x) addr) w' :=
 (vM (aC M addr size kind x) addr size kind x d h.row (λW l=>(h.iv l rfl).acc n i a b c m hx)).mono λe w' ⟨C,j,k,f⟩=>⟨C,j,h.new k f⟩
theorem Qo {n:Nat} (hn:n=1\/n=2\/n=4\/n=8):iW (n:Int)=true:=by rcases hn with rfl|rfl|rfl|rfl<;>decide
theorem ES (h:Tq B g w0 M A t w) (j:Gd M) (a:t.ld=.func (.func 40) #[] #[]) (f:Wf) (n:Nat) (s:Bool) (hn:n=1\/n=2\/n=4\/n=8) (i:t.fm=mN f n s) (addr:Int) (d:U addr) :
 Calls prog 155 #[.p g 0,.u addr] w λe w'=>∃ C,e=.returned (.tuple #[.u (if (aC M addr n 2 0).2.2 != 0 then 0 else (aC M addr n 2 0).1),.bool (!((aC M addr n 2 0).2.2 != 0))])/\Tq B g w0 (aC M addr n 2 0).2.1 C (sQ t (aC M addr n 2 0) addr n s) w' :=
 (RT (aC M addr n 2 0) f n s hn i addr a h.row (λW c=>(h.iv c rfl).acc j (Qo hn) bb bb (λe=>un) d kO)).mono λe w' ⟨C,b,k,f⟩=>⟨C,b,h.new k f⟩
theorem zV (h:Tq B g w0 M A t w) (j:Gd M) (a:t.ld=.func (.func 40) #[] #[]) (f:Wf) (n:Nat) (s:Bool) (hn:n=1\/n=2\/n=4\/n=8) (i:t.fm=mN f n s) (addr x:Int) (d:U addr) (hx:U x) :
 Calls prog 158 #[.p g 0,.u addr,.u x] w λe w'=>∃ C,e=.returned (.bool (!((aC M addr n 3 x).2.2 != 0)))/\Tq B g w0 (aC M addr n 3 x).2.1 C (ns t (aC M addr n 3 x) addr) w' :=
 (Pg (aC M addr n 3 x) f n s i addr x a h.row (λW c=>(h.iv c rfl).acc j (Qo hn) bb bb (λe=>un) d hx)).mono λe w' ⟨C,b,k,f⟩=>⟨C,b,h.new k f⟩
theorem MY (h:Tq B g w0 M A t w) (a:Gd M) (l:t.ld=.func (.func 40) #[] #[]) (addr kind:Int) (i:1<=kind) (j:kind<=3) (s:U addr):Calls prog 212 #[.p g 0,.u addr,.i kind] w λe w'=>∃ C,e=.returned (.tuple #[.u (if (cg M addr kind).code != 0 then 0 else (cg M addr kind).addr),.bool (!((cg M addr kind).code != 0))])/\Tq B g w0 (cZ M addr kind) C (yj t (cg M addr kind).code addr) w':=by
 obtain ⟨f,d,n,v,_,_⟩:=ay a.ok;have m:aX M.cs.length M.cs M.pr=true:=(eI a.ok).2.2.1;have u:=vt (a.mw.cs 0) d n kind;have r:Kj M.cs.length M.cs M.pr kind=fR M.cs M.pr kind:=by unfold Kj;rw [m,decide_eq_true ⟨i,j⟩];rfl
 have p:mY M.ram.length M.cs.length M.cs (fR M.cs M.pr kind) kind=true:=by unfold mY aX;rw [v,f,d,u];unfold iU;rcases (show kind=1\/kind=2\/kind=3 by omega) with rfl|rfl|rfl<;>rfl
 refine (RU (cg M addr kind).addr (cg M addr kind).code (fR M.cs M.pr kind) (bn M.ram (cg M addr kind)) addr kind l h.row (λW b=>?_) (λW b=>?_)).mono λe w' ⟨x,c,q,k,o⟩=>⟨_,q,h.ram k o⟩;·have:=lW A.ac M.cs.length A.cc M.cs M.pr kind W rfl (h.iv b rfl).sl.cs a.mw.cs;rw [r] at this;exact this
 ·have:=qL A.ar M.ram.length A.cr M.ram A.ac M.cs.length A.cc M.cs (fR M.cs M.pr kind) addr kind W rfl a.len.ram (h.iv b rfl).sl.ram a.mw.ram rfl (h.iv b rfl).sl.cs a.mw.cs s (h.iv b rfl).tab h.good;unfold FC FD uT at this;rw [p,if_pos rfl,if_pos rfl,if_pos rfl] at this;exact this
theorem Cq (h:Tq B g w0 M A t w) (d:M.x.length=32) (q:0<=t.ra) (c:t.ra<=31) (f:Wf) (n:Nat) (s:Bool) (hn:n=4\/n=8) (z:t.fm=mN f n s) (hz:((M.x.getD t.ra.toNat 0).tmod n != 0)=true):Calls prog 213 #[.p g 0] w λe w'=>e=.returned (.tuple #[.u 0,.bool false])/\Tq B g w0 M A {t with up:=true,cz:=6,vl:=M.x.getD t.ra.toNat 0} w':=by
 have m:=λW (h:Tq B g w0 M A t W)=>Sk h d q c;generalize M.x.getD t.ra.toNat 0=a at *;have C:Uz.wrap (n:Int)=n:=by rw [IntKind.wrap_u64];omega
 have j:(n:Int)≠0:=ab
 refine bz (S:=Tq B g w0 M A t) (args:=[.p g 0]) [] func213 ?_;refine aL 0 1 ?_;cases f;all_goals
  refine ae (Tq.eng (dr:=true)) {cv:=[(5,sZ m),(7,sZ λW i=>qn _ n s z i.row)]} 60 h λp r=>?_
  refine n0 (zg n s p) al λe F b=>⟨_,0,b.1,gm al,?_⟩
  have u:=r.below b.2
  refine aN (Tq.eng (dr:=true)) {eq:=[(9,dI .u64 C),(11,aj hz)],ov:=[(10,NC .u64 a n j)],cv:=[(13,NE λW _=>(gJ 3 (.inr (.inr rfl)) W).mono λe w' k=>⟨k.1,by rw [k.2];exact Below.refl _ _⟩),(15,sZ m)]} 60 u (λW i=>jT 6 a i.row) λD e G x b=>⟨_,0,b.1,gm al,?_⟩
  have l:=x.iv b.2 rfl
  refine aH (λ_=>True) ?_
  exact iw (Iv.one l.row) {} 40 λE a y o=>⟨.tuple #[.u 0,.bool false],by rw [results_tmp2 rfl,o.slot (v:=.u 0) al,o.slot (v:=.bool false) al],rfl,l.iv y rfl⟩
theorem GJ (h:Tq B g w0 M A t w) (d:Gd M) (i:t.ld=.func (.func 40) #[] #[]) (u:0<=t.ra) (b:t.ra<=31) (f:Wf) (n:Nat) (s:Bool) (hn:n=4\/n=8) (E:t.fm=mN f n s) (hz:((M.x.getD t.ra.toNat 0).tmod n != 0)=false):Calls prog 213 #[.p g 0] w λe w'=>∃ C,e=.returned (.tuple #[.u (if (cg M (M.x.getD t.ra.toNat 0) 3).code != 0 then 0 else (cg M (M.x.getD t.ra.toNat 0) 3).addr),.bool (!((cg M (M.x.getD t.ra.toNat 0) 3).code != 0))])/\Tq B g w0 (cZ M (M.x.getD t.ra.toNat 0) 3) C (yj t (cg M (M.x.getD t.ra.toNat 0) 3).code (M.x.getD t.ra.toNat 0)) w':=by
 have c:=d.x32;have l:=λW (h:Tq B g w0 M A t W)=>Sk h c u b;have k:=λW (h:Tq B g w0 M A t W)=>MY h d i (M.x.getD t.ra.toNat 0) 3 bb bb (d.ux _);generalize M.x.getD t.ra.toNat 0=a at *;have F:Uz.wrap (n:Int)=n:=by rw [IntKind.wrap_u64];omega
 have j:(n:Int)≠0:=ab
 generalize (if (cg M a 3).code != 0 then 0 else (cg M a 3).addr)=p at *;generalize (!((cg M a 3).code != 0))=q at *;refine bz (S:=Tq B g w0 M A t) (args:=[.p g 0]) [] func213 ?_;refine aL 0 1 ?_;cases f;all_goals
  refine ae (Tq.eng (dr:=true)) {cv:=[(5,sZ l),(7,sZ λW D=>qn _ n s E D.row)]} 60 h λr x=>?_
  refine n0 (zg n s r) al λe I o=>⟨_,0,o.1,gm al,?_⟩
  have y:=x.below o.2
  refine aN (Tq.eng (dr:=true)) {eq:=[(9,dI .u64 F),(11,aj hz)],ov:=[(10,NC .u64 a n j)],cv:=[(19,sZ l)]} 60 y k ?_
  rintro G e J H ⟨C,rfl,z⟩
  refine ⟨_,0,rfl,gm al,?_⟩
  refine fP (R:=[]) trivial {} 40 λa m=>⟨.tuple #[.u p,.bool q],by rw [results_tmp2 rfl,m.slot (v:=.u p) al,m.slot (v:=.bool q) al],C,rfl,z⟩
end
section
variable {B g : Nat} {w0 w w' : World} {M M' : MV} {A A' : MA} {t t' : TV}
theorem iu {cf:Bool} {M:MV} {t:TV} {k:Nat} (h:t.up=true) (a:t.cz=k):tD cf M t=(aK M k false t.vl,2):=by unfold tD;rw [if_pos h,a,Int.toNat_natCast]
theorem iO {M:MV} {t:TV} (h:t.up=false):tD false M t=(aT M t.rd t.rs t.nx,1):=by unfold tD;rw [h];rfl
theorem kQ {M:MV} {rd to:Int}:aT M rd (M.x.getD rd.toNat 0) to=aT M 0 0 to:=by
 unfold aT;congr 1;by_cases e:rd=0;·rw [if_pos e,if_pos rfl]
 ·rw [if_neg e,if_pos rfl];by_cases a:rd.toNat<M.x.length;·exact mD M.x rd.toNat a
  ·exact List.set_eq_of_length_le ab
theorem mI {cf:Bool} {i:Ins} {t:TV} {X:Int × MV × Int} {a n kind x:Int} (f:aC M a n kind x=X) (g:Gd M) (e:(X.2.2 != 0)=true) (d:t.rd=i.rd) (b:t.fm=ew i.op):Pf cf (cF X 0 a) i X.2.1 (ns t X a):=by subst f;have c:=jW (M:=M) (addr:=a) (size:=n) (kind:=kind) (x:=x) rfl e;unfold ns;rw [e];exact ⟨iu rfl c.1,g.acc a n kind x,d,b,λ_=>⟨_,c.2,c.1⟩⟩
theorem ET {P:Program} {S:World->Prop} {n:Nat} {fn:Func} {k:List KI} {F:Fr} {w:World} {Q:MV->TV->Prop} {R:List Rw} (b:g6 w R) (H:Hn P (λx=>x=w) (λx=>x=w)) (m:Nat) (hx:(gZ k,(be P R H n false m k F).1.1)=(true,true)) (he:(be P R H n false m k F).2.map Prod.fst=(be P R H n false m k F).2.map Prod.snd) (hr:fn.results=#[]) {M':MV} {A':MA} {t':TV} (h:Tq B g w0 M' A' t' w) (c:Q M' t'):Wg P S (bodyPost P fn (TR B g w0 Q)) n k F w :=
 fP b H m (hx:=hx) (he:=he) λa _=>⟨_,results_none hr _ _ _,rfl,M',A',t',c,h⟩
theorem Sn (i:Ins) (wd:Int) (m:jA i) (z:i.op=63\/i.op=74) (h:Tq B g w0 M A (t0 M i wd) w) (l:Gd M) (hd:Ud M.d):Calls prog 160 #[.p g 0] w (TR B g w0 (Pf false (SJ M i (M.x.getD i.a.toNat 0)) i)):=by
 obtain ⟨n,r⟩:∃ n,n=bp i.op:=⟨_,rfl⟩;have hn:n=4\/n=8:=by rw [r];unfold bp;split<;>simp
 obtain ⟨wn,ws⟩:=(GG m.op1 m.op98).2.2.2.2 ab;have V:ew i.op=mN .hd n true:=by unfold ew;rw [if_neg ab,if_neg ab,if_neg ab,if_neg ab,if_neg ab,if_pos ab,if_pos z,wn,ws,r]
 have o:=l.x32;have F:=l.ux i.a.toNat;have s:=λW (h:Tq B g w0 M A (t0 M i wd) W)=>Sk h o m.a0 m.a31;have Y:=λW (h:Tq B g w0 M A (t0 M i wd) W)=>ES h l rfl .hd n true ab V (M.x.getD i.a.toNat 0) F;have H:SJ M i (M.x.getD i.a.toNat 0)=if ((aC M (M.x.getD i.a.toNat 0) n 2 0).2.2 != 0)=true then cF (aC M (M.x.getD i.a.toNat 0) n 2 0) 0 (M.x.getD i.a.toNat 0) else (aT (bZ (cZ (aC M (M.x.getD i.a.toNat 0) n 2 0).2.1 (M.x.getD i.a.toNat 0) 2) true (cg (aC M (M.x.getD i.a.toNat 0) n 2 0).2.1 (M.x.getD i.a.toNat 0) 2).addr) i.rd (ap (8*n) (aC M (M.x.getD i.a.toNat 0) n 2 0).1) (Uz.wrap (M.pc+4)),1):=by rw [r];rfl
 rw [H];clear H;have I:=l.acc (M.x.getD i.a.toNat 0) n 2 0;have K:=(iJ M (M.x.getD i.a.toNat 0) n 2 0).2.1;have v:=ER l (a:=M.x.getD i.a.toNat 0) (n:=n);have E:=λX (T:aC M (M.x.getD i.a.toNat 0) n 2 0=X) k=>mI (cf:=false) (i:=i) (t:=t0 M i wd) T l k rfl rfl;generalize P:M.x.getD i.a.toNat 0=a at *;generalize aC M a n 2 0=X at *;obtain ⟨y,N,c⟩:=X;dsimp only at *;refine fT (args:=[.p g 0]) (Tq B g w0 M A (t0 M i wd)) func160 ?_;refine aL 0 1 ?_;refine aN (Tq.eng (dr:=true)) {cv:=[(7,sZ s)]} 60 h Y ?_;rintro W1 e W2 h1 ⟨C,rfl,d⟩;refine ⟨_,0,rfl,gm al,?_⟩;cases k:(c != 0) with
 | true =>rw [if_pos rfl];unfold sQ at d;dsimp only at d;rw [k,if_pos rfl] at d;exact ET (R:=[]) trivial {} 40 al al rfl d (E _ rfl k)
 | false =>rw [if_neg bb];unfold sQ at d;dsimp only at d;rw [k,if_neg bb,if_pos rfl] at d;have O:c=0:=(by simpa using k);have u:=v O;obtain ⟨f,b⟩:∃ f:TV,f={t0 M i wd with rs:=ap (8*n) y}:=⟨_,rfl⟩;have j:f.ra=i.a:=(by rw [b];rfl);have x:f.ld=.func (.func 40) #[] #[]:=(by rw [b];rfl);rw [<- b] at d;have p:=λW (h:Tq B g w0 N C f W)=>Sk h (by rw [K];exact o) (by rw [j];exact m.a0) (by rw [j];exact m.a31);rw [j,K,P] at p;have q:=λW (h:Tq B g w0 N C f W)=>MY h I x a 2 bb bb F;have Q:Gd (cZ N a 2):=I.marked _;have Z:U (cg N a 2).addr:=tM _ _ _ _ _ _ F;rw [u] at q;generalize (cg N a 2).addr=L at *;generalize cZ N a 2=G at *;refine aH (Tq B g w0 N C f) ?_;refine aN (Tq.eng (dr:=true)) {cv:=[(18,sZ p)]} 60 d q ?_;rintro W3 e W4 h3 ⟨D,rfl,J⟩;refine ⟨_,0,rfl,gm al,?_⟩;refine aH (λ_=>True) ?_;refine fY (R1:=[⟨g,bH (bZ G true L) D f,[]⟩]) (Iv.one J.row) {} 60 λW5 S=>⟨rfl,bZ G true L,D,f,?_,J.iv S rfl⟩;refine ⟨?_,Q.hold Z (Or.inl rfl),by rw [b];rfl,by rw [b];rfl,λe=>by rw [b] at e;cases e⟩;rw [iO (by rw [b];rfl),b];rfl
end
section
variable {B g : Nat} {w0 w w' : World} {M M' : MV} {A A' : MA} {t t' : TV}
theorem Cr {i:Ins} (a:jA i) (b:63<=i.op) (c:i.op<=84):(bp i.op=4\/bp i.op=8)/\wN i.op=bp i.op/\wS i.op=true:=by obtain ⟨wn,d⟩:=(GG a.op1 a.op98).2.2.2.2 ab;refine ⟨?_,wn,d⟩;unfold bp;split<;>simp
theorem GK {a:Int} {n:Nat} (b:U a):a.tmod n=a%(n:Int):=Int.tmod_eq_emod_of_nonneg b.1
theorem So (i:Ins) (wd:Int) (q:jA i) (hop:i.op=64\/i.op=75) (h:Tq B g w0 M A (t0 M i wd) w) (J:Gd M):Calls prog 161 #[.p g 0] w (TR B g w0 (Pf false (hZ M i (M.x.getD i.a.toNat 0) (M.x.getD i.b.toNat 0)) i)):=by
 obtain ⟨hn,wn,ws⟩:=Cr q ab ab;have hf:ew i.op=mN .sc (bp i.op:Nat) true:=by unfold ew;rw [if_neg ab,if_neg ab,if_neg ab,if_neg ab,if_neg ab,if_pos ab,if_neg ab,if_pos hop,wn,ws]
 have x:=J.x32;have ua:=J.ux i.a.toNat;have ub:=J.ux i.b.toNat;have k0:(mF i.op==0)=false:=by unfold mF;split<;>simp<;>omega
 have k1:(mF i.op==1)=true:=by unfold mF;split<;>simp<;>omega
 have eV:hZ M i (M.x.getD i.a.toNat 0) (M.x.getD i.b.toNat 0)=if ((M.x.getD i.a.toNat 0).tmod (bp i.op:Nat) != 0)=true then (aK M 6 false (M.x.getD i.a.toNat 0),2) else if ((cg M (M.x.getD i.a.toNat 0) 3).code != 0)=true then (aK (cZ M (M.x.getD i.a.toNat 0) 3) (cg M (M.x.getD i.a.toNat 0) 3).code.toNat false (M.x.getD i.a.toNat 0),2) else if ((cZ M (M.x.getD i.a.toNat 0) 3).hl&&((cZ M (M.x.getD i.a.toNat 0) 3).hd==(cg M (M.x.getD i.a.toNat 0) 3).addr))=true then (if ((aC (cZ M (M.x.getD i.a.toNat 0) 3) (M.x.getD i.a.toNat 0) (bp i.op:Nat) 3 (M.x.getD i.b.toNat 0)).2.2 != 0)=true then cF (aC (cZ M (M.x.getD i.a.toNat 0) 3) (M.x.getD i.a.toNat 0) (bp i.op:Nat) 3 (M.x.getD i.b.toNat 0)) 0 (M.x.getD i.a.toNat 0) else (aT (bZ (aC (cZ M (M.x.getD i.a.toNat 0) 3) (M.x.getD i.a.toNat 0) (bp i.op:Nat) 3 (M.x.getD i.b.toNat 0)).2.1 false 0) i.rd 0 (Uz.wrap (M.pc+4)),1)) else (aT (bZ (cZ M (M.x.getD i.a.toNat 0) 3) false 0) i.rd 1 (Uz.wrap (M.pc+4)),1):=by unfold hZ;rw [k0,k1,if_neg bb,GK ua,if_pos rfl];rfl
 rw [eV];clear eV k0 k1 wn ws;have o:=λW (h:Tq B g w0 M A (t0 M i wd) W)=>Cq h x q.a0 q.a31 .sc _ true hn hf;have j:=λW (h:Tq B g w0 M A (t0 M i wd) W)=>GJ h J rfl q.a0 q.a31 .sc _ true hn hf;have K:Gd (cZ M (M.x.getD i.a.toNat 0) 3):=J.marked _;obtain ⟨T,S,hcc⟩:∃ c:Nat,c<16/\(cg M (M.x.getD i.a.toNat 0) 3).code=c:=lG M.ram M.ram.length M.cs (fR M.cs M.pr 3) (M.x.getD i.a.toNat 0) 3;rw [show (t0 M i wd).ra=i.a from rfl] at o j;have s:(cZ M (M.x.getD i.a.toNat 0) 3).x=M.x:=rfl;generalize ea:M.x.getD i.a.toNat 0=a at *;generalize eb:M.x.getD i.b.toNat 0=b at *;generalize bp i.op=n at *;generalize cZ M a 3=N at *;generalize cg M a 3=F at *;obtain ⟨p,fc,fm,ft,fe⟩:=F;dsimp only at *;subst hcc;obtain ⟨d,f⟩:∃ d:TV,d=t0 M i wd:=⟨_,rfl⟩;have r:d.up=false:=by rw [f];rfl
 have hld:d.ld=.func (.func 40) #[] #[]:=by rw [f];rfl
 have E:d.ra=i.a:=by rw [f];rfl
 have G:d.rb=i.b:=by rw [f];rfl
 have l:d.rd=i.rd:=by rw [f];rfl
 have m:d.fm=ew i.op:=by rw [f];rfl
 have O:d.nx=Uz.wrap (M.pc+4):=by rw [f];rfl
 rw [<- f] at h o j;clear f;refine fT (args:=[.p g 0]) (Tq B g w0 M A d) func161 ?_;refine aL 0 1 ?_;cases hz:(a.tmod n != 0) with
 | true =>rw [if_pos rfl];refine aN (Tq.eng (dr:=true)) {} 60 h (λW Y=>o W Y hz) ?_;rintro W1 e W2 h1 ⟨rfl,u⟩;refine ⟨_,0,rfl,gm al,?_⟩;exact ET (R:=[]) trivial {} 40 al al rfl u ⟨iu (k:=6) rfl rfl,J,l,m,λ_=>⟨6,bb,rfl⟩⟩
 | false =>
   rw [if_neg bb];refine aN (Tq.eng (dr:=true)) {} 60 h (λW Y=>j W Y hz) ?_;rintro W1 e W2 h1 ⟨C,rfl,u⟩;refine ⟨_,0,rfl,gm al,?_⟩;unfold yj at u;cases P:(((T:Nat):Int) != 0) with
   | true =>rw [P,if_pos rfl] at u;rw [if_pos rfl,Int.toNat_natCast];exact ET (R:=[]) trivial {} 40 al al rfl u ⟨iu (k:=T) rfl rfl,K,l,m,λ_=>⟨T,S,rfl⟩⟩
   | false =>
     rw [P,if_neg bb] at u;rw [if_neg bb];refine an (R:=[]) trivial {} 14 ?_;refine ah [.code (az 2 (aW Tryz.f161))] [(0,.p g 0,1),(2,.u p,0)] ?_;refine aH (λ_=>True) ?_;refine nZ (R1:=[⟨g,bH N C {d with rs:=1},[]⟩]) (Iv.one u.row) {} 7 λW3 h3=>?_;have U:=u.iv h3 rfl;refine ah [.code (az 3 (aW Tryz.f161))] [(0,.p g 0,1),(2,.u p,0)] ?_;have no:∀ (H:Hw prog (Ag [g] W3)),(N.hl&&(N.hd==p))=false->((ch prog H Tryz.f161.ntmps 60 [.code (az 3 (aW Tryz.f161))] [(0,.p g 0,1),(2,.u p,0)] [⟨g,bH N C {d with rs:=1},[]⟩]).1.1,(ch prog H Tryz.f161.ntmps 60 [.code (az 3 (aW Tryz.f161))] [(0,.p g 0,1),(2,.u p,0)] [⟨g,bH N C {d with rs:=1},[]⟩]).1.2.2.2)=(false,[⟨g,bH (bZ N false 0) C {d with rs:=1},[]⟩]) ->
      (ch prog H Tryz.f161.ntmps 60 [.code (az 3 (aW Tryz.f161))] [(0,.p g 0,1),(2,.u p,0)] [⟨g,bH N C {d with rs:=1},[]⟩]).1.2.1.isEmpty=true->(ch prog H Tryz.f161.ntmps 60 [.code (az 3 (aW Tryz.f161))] [(0,.p g 0,1),(2,.u p,0)] [⟨g,bH N C {d with rs:=1},[]⟩]).2.map Prod.fst=(ch prog H Tryz.f161.ntmps 60 [.code (az 3 (aW Tryz.f161))] [(0,.p g 0,1),(2,.u p,0)] [⟨g,bH N C {d with rs:=1},[]⟩]).2.map Prod.snd ->
      Wg prog (λ_=>True) (bodyPost prog Tryz.f161 (TR B g w0 (Pf false (if (N.hl&&(N.hd==p))=true then (if ((aC N a n 3 b).2.2 != 0)=true then cF (aC N a n 3 b) 0 a else (aT (bZ (aC N a n 3 b).2.1 false 0) i.rd 0 (Uz.wrap (M.pc+4)),1)) else (aT (bZ N false 0) i.rd 1 (Uz.wrap (M.pc+4)),1)) i))) Tryz.f161.ntmps [.code (az 3 (aW Tryz.f161))] [(0,.p g 0,1),(2,.u p,0)] W3:=by
      intro H hn0 hx hz1 he
      rw [hn0,if_neg bb]
      refine fY (Iv.one U.row) H 60 (hx:=hx) (hz:=hz1) (he:=he) λW5 V=>⟨rfl,bZ N false 0,C,{d with rs:=1},?_,U.iv V rfl⟩
      refine ⟨?_,K.hold kO (Or.inr rfl),l,m,λe=>by rw [show TV.up {d with rs:=1}=d.up from rfl,r] at e;cases e⟩
      rw [iO (t:={d with rs:=1}) r,<- O,<- l]
     cases z:N.hl with
     | false =>have:=no {eq:=[(18,aj z)]} (by rw [z];rfl) al al al;rw [z] at this;exact this
     | true =>
       cases Q:(N.hd==p) with
       | false =>have:=no {eq:=[(18,aj z),(26,aj Q)]} (by rw [z,Q];rfl) al al al;rw [z,Q] at this;exact this
       | true =>
         clear no;rw [if_pos bb];have V:=U;have ga:=K.acc a n 3 b;have Z:=λW (h:Tq B g w0 N C {d with rs:=1} W)=>UD h (by rw [s];exact x) (show 0<=d.ra by rw [E];exact q.a0) (show d.ra<=31 by rw [E];exact q.a31) (v:=a) (show N.x.getD d.ra.toNat 0=a by rw [s,E];exact ea);have hb2:=λW (h:Tq B g w0 N C {d with rs:=1} W)=>UN h (by rw [s];exact x) (show 0<=d.rb by rw [G];exact q.b0) (show d.rb<=31 by rw [G];exact q.b31) (v:=b) (show N.x.getD d.rb.toNat 0=b by rw [s,G];exact eb);have hst:=λW (h:Tq B g w0 N C {d with rs:=1} W)=>zV h K (show d.ld=_ from hld) .sc n true ab (show d.fm=_ by rw [m,hf]) a b ua ub;have hrf:=λX (hX:aC N a n 3 b=X) P=>mI (cf:=false) (i:=i) (t:={d with rs:=1}) hX K P l m;generalize aC N a n 3 b=X at *;obtain ⟨y,N2,c2⟩:=X;dsimp only at *;refine aH (Tq B g w0 N C {d with rs:=1}) ?_;refine aN (Tq.eng (dr:=true)) {eq:=[(18,aj z),(26,aj Q)],cv:=[(30,sZ Z),(32,sZ hb2)]} 80 V hst ?_;rintro W6 e W7 h6 ⟨D,rfl,I⟩;refine ⟨_,0,rfl,gm al,?_⟩;cases L:(c2 != 0) with
         | true =>rw [if_pos rfl];exact ET (R:=[]) trivial {} 40 al al rfl I (hrf _ rfl L)
         | false =>rw [if_neg bb];unfold ns at I;dsimp only at I;rw [L,if_neg bb] at I;refine aH (λ_=>True) ?_;refine fY (R1:=[⟨g,bH (bZ N2 false 0) D {d with rs:=0},[]⟩]) (Iv.one I.row) {} 60 λW8 h8=>⟨rfl,bZ N2 false 0,D,{d with rs:=0},?_,I.iv h8 rfl⟩;refine ⟨?_,ga.hold kO (Or.inr rfl),l,m,λe=>by rw [show TV.up {d with rs:=0}=d.up from rfl,r] at e;cases e⟩;rw [iO (t:={d with rs:=0}) r,<- O,<- l]
theorem TC (i:Ins) (wd:Int) (q:jA i) (h63:63<=i.op) (h84:i.op<=84) (hop:¬ (i.op=63\/i.op=74)/\¬ (i.op=64\/i.op=75)) (h:Tq B g w0 M A (t0 M i wd) w) (T:Gd M) (hd:Ud M.d):Calls prog 162 #[.p g 0] w (TR B g w0 (Pf false (hZ M i (M.x.getD i.a.toNat 0) (M.x.getD i.b.toNat 0)) i)):=by
 obtain ⟨hn,wn,ws⟩:=Cr q h63 h84;have hf:ew i.op=mN .am (bp i.op:Nat) true:=by unfold ew;rw [if_neg ab,if_neg ab,if_neg ab,if_neg ab,if_neg ab,if_pos ab,if_neg hop.1,if_neg hop.2,wn,ws]
 have u:=T.x32;have ua:=T.ux i.a.toNat;have ub:=T.ux i.b.toNat;have k0:(mF i.op==0)=false:=by unfold mF;split<;>simp<;>omega
 have k1:(mF i.op==1)=false:=by unfold mF;split<;>simp<;>omega
 have eV:∀ (a b:Int) (N:MV) (n:Nat),a=M.x.getD i.a.toNat 0->b=M.x.getD i.b.toNat 0->N=cZ M a 3->n=bp i.op->hZ M i a b=if (a.tmod n != 0)=true then (aK M 6 false a,2) else if ((cg M a 3).code != 0)=true then (aK N (cg M a 3).code.toNat false a,2) else if ((aC N a n 2 0).2.2 != 0)=true then cF (aC N a n 2 0) 2 a else if ((aC (aC N a n 2 0).2.1 a n 3 (iI i.op (aC N a n 2 0).1 b)).2.2 != 0)=true then cF (aC (aC N a n 2 0).2.1 a n 3 (iI i.op (aC N a n 2 0).1 b)) 0 a else (aT (aC (aC N a n 2 0).2.1 a n 3 (iI i.op (aC N a n 2 0).1 b)).2.1 i.rd (ap (8*n) (aC N a n 2 0).1) (Uz.wrap (M.pc+4)),1):=by intro a b N n e1 e2 e3 e4;subst e1 e2 e3 e4;unfold hZ;rw [k0,k1,if_neg bb,GK ua,if_neg (show ¬ (false=true) by decide)];rfl
 rw [eV _ _ _ _ rfl rfl rfl rfl];clear eV k0 k1 wn ws;have o:=λW (h:Tq B g w0 M A (t0 M i wd) W)=>Cq h u q.a0 q.a31 .am _ true hn hf;have m:=λW (h:Tq B g w0 M A (t0 M i wd) W)=>GJ h T rfl q.a0 q.a31 .am _ true hn hf;have gl:Gd (cZ M (M.x.getD i.a.toNat 0) 3):=T.marked _;have dl:Ud (cZ M (M.x.getD i.a.toNat 0) 3).d:=hd;obtain ⟨cc,c16,hcc⟩:∃ c:Nat,c<16/\(cg M (M.x.getD i.a.toNat 0) 3).code=c:=lG M.ram M.ram.length M.cs (fR M.cs M.pr 3) (M.x.getD i.a.toNat 0) 3;rw [show (t0 M i wd).ra=i.a from rfl] at o m;have O:(cZ M (M.x.getD i.a.toNat 0) 3).x=M.x:=rfl;generalize ea:M.x.getD i.a.toNat 0=a at *;generalize eb:M.x.getD i.b.toNat 0=b at *;generalize bp i.op=n at *;generalize cZ M a 3=N at *;generalize cg M a 3=F at *;obtain ⟨pa,fc,fm,ft,fe⟩:=F;dsimp only at *;subst hcc;obtain ⟨l,f⟩:∃ l:TV,l=t0 M i wd:=⟨_,rfl⟩;have hup:l.up=false:=by rw [f];rfl
 have hld:l.ld=.func (.func 40) #[] #[]:=by rw [f];rfl
 have H:l.ra=i.a:=by rw [f];rfl
 have hrb:l.rb=i.b:=by rw [f];rfl
 have I:l.rd=i.rd:=by rw [f];rfl
 have hto:l.op=i.op:=by rw [f];rfl
 have p:l.fm=ew i.op:=by rw [f];rfl
 have hnx:l.nx=Uz.wrap (M.pc+4):=by rw [f];rfl
 rw [<- f] at h o m;clear f;refine fT (args:=[.p g 0]) (Tq B g w0 M A l) func162 ?_;refine aL 0 1 ?_;cases hz:(a.tmod n != 0) with
 | true =>rw [if_pos rfl];refine aN (Tq.eng (dr:=true)) {} 60 h (λW hW=>o W hW hz) ?_;rintro W1 e W2 h1 ⟨rfl,K⟩;refine ⟨_,0,rfl,gm al,?_⟩;exact ET (R:=[]) trivial {} 40 al al rfl K ⟨iu (k:=6) rfl rfl,T,I,p,λ_=>⟨6,bb,rfl⟩⟩
 | false =>
   rw [if_neg bb];refine aN (Tq.eng (dr:=true)) {} 60 h (λW hW=>m W hW hz) ?_;rintro W1 e W2 h1 ⟨C,rfl,K⟩;refine ⟨_,0,rfl,gm al,?_⟩;unfold yj at K;cases hc:(((cc:Nat):Int) != 0) with
   | true =>rw [hc,if_pos rfl] at K;rw [if_pos rfl,Int.toNat_natCast];exact ET (R:=[]) trivial {} 40 al al rfl K ⟨iu (k:=cc) rfl rfl,gl,I,p,λ_=>⟨cc,c16,rfl⟩⟩
   | false =>
     rw [hc,if_neg bb] at K;rw [if_neg bb];refine an (R:=[]) trivial {} 13 ?_;refine ah [.code (az 1 (aW Tryz.f162))] [(0,.p g 0,1)] ?_;have ha2:=λW (h:Tq B g w0 N C l W)=>UD h (by rw [O];exact u) (by rw [H];exact q.a0) (by rw [H];exact q.a31) (v:=a) (by rw [O,H];exact ea);have hl2:=λW (h:Tq B g w0 N C l W)=>ES h gl hld .am n true ab (by rw [p,hf]) a ua;have ga:=gl.acc a n 2 0;have da:=zK dl a n 2 kO;have uy:=sU gl dl a n ab 2 0;have r:=(iJ N a n 2 0).2.1;have e18:=λc=>zJ (M:=N) (addr:=a) (size:=n) (x:=0) (c:=c);rw [O] at r;generalize aC N a n 2 0=X at *;obtain ⟨y,s,V⟩:=X;dsimp only at *;refine aH (Tq B g w0 N C l) ?_;refine aN (Tq.eng (dr:=true)) {cv:=[(18,sZ ha2)]} 60 K hl2 ?_;rintro W3 e W4 h3 ⟨D,rfl,G⟩;refine ⟨_,0,rfl,gm al,?_⟩;unfold sQ ns at G;dsimp only at G;cases L:(V != 0) with
     | true =>obtain ⟨q1,q2,q3⟩:=e18 V rfl L;rw [L,if_pos rfl,if_pos rfl] at G;rw [if_pos rfl];refine aH (λ_=>True) ?_;rw [q1] at G;refine oL (R1:=[⟨g,bH s D {l with up:=true,cz:=(((V-16).toNat+2:Nat):Int),vl:=a},[]⟩]) (Iv.one G.row) {eq:=[(28,dI .i64 q2)]} 60 λW5 h5=>⟨rfl,s,D,{l with up:=true,cz:=(((V-16).toNat+2:Nat):Int),vl:=a},?_,G.iv h5 rfl⟩;exact ⟨iu (k:=(V-16).toNat+2) rfl rfl,ga,I,p,λ_=>⟨_,q3,rfl⟩⟩
     | false =>
       rw [L,if_neg bb,if_pos rfl] at G;rw [if_neg bb];refine an (R:=[]) trivial {} 14 ?_;refine ah [.code (az 3 (aW Tryz.f162))] [(0,.p g 0,1),(4,.u y,0)] ?_;obtain ⟨j,d⟩:∃ j:TV,j={l with rs:=ap (8*n) y}:=⟨_,rfl⟩;have up2:j.up=false:=(by rw [d];exact hup);have ld2:j.ld=.func (.func 40) #[] #[]:=(by rw [d];exact hld);have P:j.ra=i.a:=(by rw [d];exact H);have Q:j.rb=i.b:=(by rw [d];exact hrb);have S:j.rd=i.rd:=(by rw [d];exact I);have to2:j.op=i.op:=(by rw [d];exact hto);have J:j.fm=ew i.op:=(by rw [d];exact p);have nx2:j.nx=Uz.wrap (M.pc+4):=(by rw [d];exact hnx);have rs2:j.rs=ap (8*n) y:=(by rw [d]);rw [<- d] at G;clear d;have uv:U (iI i.op y b):=GD i.op uy ub;have ha3:=λW (h:Tq B g w0 s D j W)=>UD h (by rw [r];exact u) (by rw [P];exact q.a0) (by rw [P];exact q.a31) (v:=a) (by rw [r,P];exact ea);have hb3:=λW (h:Tq B g w0 s D j W)=>UN h (by rw [r];exact u) (by rw [Q];exact q.b0) (by rw [Q];exact q.b31) (v:=b) (by rw [r,Q];exact eb);have hm3:=λW (_:Tq B g w0 s D j W)=>Ce i.op y b (sT ab ab) uy.1 uy.2 ub.1 ub.2 W;have hst:=λW (h:Tq B g w0 s D j W)=>zV h ga ld2 .am n true ab (by rw [J,hf]) a (iI i.op y b) ua uv;have gb:=ga.acc a n 3 (iI i.op y b);have hrf:=λX (hX:aC s a n 3 (iI i.op y b)=X) hc=>mI (cf:=false) (i:=i) (t:=j) hX ga hc S J;generalize iI i.op y b=z at *;generalize rE i.op=zb at *;generalize aC s a n 3 z=Y at *;obtain ⟨y3,N3,c3⟩:=Y;dsimp only at *;refine aH (Tq B g w0 s D j) ?_;refine aN (Tq.eng (dr:=true)) {eq:=[(36,dI .i64 to2)],cv:=[(39,sZ hb3),(40,NE hm3),(45,sZ ha3)]} 80 G hst ?_;rintro W5 e W6 h5 ⟨E,rfl,h6⟩;refine ⟨_,0,rfl,gm al,?_⟩;refine lY {} 40 al al rfl ⟨rfl,N3,E,_,?_,h6⟩;cases Z:(c3 != 0) with
       | true =>rw [if_pos rfl];exact hrf _ rfl Z
       | false =>rw [if_neg bb];unfold ns;dsimp only;rw [Z,if_neg bb];refine ⟨?_,gb,S,J,λe=>by rw [up2] at e;cases e⟩;rw [iO up2,nx2,S,rs2]
end
end Go.Proofs.YtjifdmoehfbihaaGreatDoor
