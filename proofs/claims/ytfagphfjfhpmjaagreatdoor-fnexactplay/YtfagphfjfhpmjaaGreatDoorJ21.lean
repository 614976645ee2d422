/- Own lemmas. -/
import Derived.Test.YtfagphfjfhpmjaaGreatDoorAuj
import Derived.Test.YtfagphfjfhpmjaaGreatDoorJ20
set_option maxRecDepth 100000
namespace Go.Proofs.YtfagphfjfhpmjaaGreatDoor
open Go.RowKit Tryz
open IntKind renaming u64->Uz
set_option linter.unusedVariables false
variable {B M:MV} {w A l K g:Nat} {n a P:World} {k:MA} {F t:TV} {Q:List Int} {S:Option Addr} {b:Func} {c x:Int} {d:Program} {e:World->Prop} {f:List KI} {p:Fr} {W:MV->TV->Prop} {X:Ins} {j:Ending->World->Prop} {m:Array Value} {dr:Bool} (o:Ins) (q:Int)
section
variable {l l' : List Int} (h : ∀ j, j≠9 -> l.getD j 0 = l'.getD j 0)
include h
theorem Gq (i:Nat):dK l i=dK l' i:=by unfold dK;rw [h 16 ab]
theorem Mq (i:Nat):jg l i=jg l' i:=by unfold jg;rw [Gq h]
theorem Mr (i:Nat):cU l i=cU l' i:=by unfold cU kK;rw [Mq h,h (17+i) ab,h (16+i) ab]
theorem zW (p x y kind:Int):∀ n k,aE l p x y kind n k=aE l' p x y kind n k
 | 0,_=>rfl
 | n+1,k=>by rw [aE,aE,Mr h,Gq h,zW p x y kind n (k+1)]
theorem Ms (p va kind e x:Int) (lv:Nat):db l p va kind e x lv=db l' p va kind e x lv:=by unfold db hZ ic;rw [h 0 ab,zW h]
theorem Gr (zs:List Int) (n:Nat) (p va kind:Int):∀ a T,bJ zs n l p va kind a T=bJ zs n l' p va kind a T
 | 0,T=>by rw [bJ,bJ,zW h,Ms h]
 | a+1,T=>by rw [bJ,bJ,zW h,Ms h,Gr zs n p va kind a]
theorem OL (zs:List Int) (n:Nat) (p va kind:Int):bT zs n l p va kind=bT zs n l' p va kind:=by unfold bT nN;rw [h 15 ab,Gr h]
theorem QN (p kind:Int):fV l p kind=fV l' p kind:=by unfold fV;rw [h 0 ab]
end
theorem OM (M:MV) (pa n x:Int) (b:(sA M pa n 2 x).2.2=0):(sA M pa n 2 x).2.1.ram=M.ram/\(sA M pa n 2 x).2.1.pr=M.pr/\∀ j,j≠9->(sA M pa n 2 x).2.1.cs.getD j 0=M.cs.getD j 0:=by
 unfold sA at b ⊢;split;·exact ⟨rfl,rfl,λ_ _=>rfl⟩
 ·rename_i c;rw [if_neg c] at b;split
  ·rename_i a;split;·exact ⟨rfl,rfl,λj d=>jT _ 9 j _ (Ne.symm d)⟩
   ·exact ⟨rfl,rfl,λ_ _=>rfl⟩
  ·rename_i a;exact absurd rfl a
theorem EH (r:Gd B) {a n:Int} (b:(aC B a n 2 0).2.2=0):(bW (aC B a n 2 0).2.1 a 2).code=0:=by
 have p:∀ i,0<=B.ram.getD i 0/\B.ram.getD i 0<=255:=EB r.mw.ram;have key:∀ F:Fd,F=bT B.ram B.ram.length B.cs (fV B.cs B.pr 2) a 2->F.code=0->∀ N:MV,N.ram=bo B.ram F->N.pr=B.pr->(∀ j,j≠9->N.cs.getD j 0=B.cs.getD j 0)->(bW N a 2).code=0:=by
  intro F hF l N m o h;unfold bW;rw [m,o,kj,OL h,QN h];rcases D2 B.ram B.ram.length rfl p B.cs (fV B.cs B.pr 2) a 2 with ⟨_,e,_⟩|⟨e,_⟩;·rw [hF,e]
  ·rw [<- hF] at e;exact absurd l e
 unfold aC at b ⊢;split;·rename_i q;rw [if_pos q] at b;exact absurd b (show ¬ oo 2=0 by decide)
 ·rename_i q;rw [if_neg q] at b;unfold yV at b ⊢;split;·rename_i f;rw [if_pos f] at b;exfalso;obtain ⟨c,k,e⟩:=lI B.ram B.ram.length B.cs (fV B.cs B.pr 2) a 2;have d:wrap64 ((bT B.ram B.ram.length B.cs (fV B.cs B.pr 2) a 2).code+16)=0:=b;rw [e] at d;unfold wrap64 at d;omega
  ·rename_i f;rw [if_neg f] at b;have s:(bT B.ram B.ram.length B.cs (fV B.cs B.pr 2) a 2).code=0:=e9;split;·rename_i g;rw [if_pos g] at b;exact absurd b (show ¬ ig 2=0 by decide)
   ·rename_i g;rw [if_neg g] at b;obtain ⟨t,u,v⟩:=OM _ _ _ _ b;exact key _ rfl s _ t u v
theorem SY (h:Tq w A n B k F a) (b:B.x.length=32) (c:0<=F.ra) (w0:F.ra<=31) {v:Int} (hv:B.x.getD F.ra.toNat 0=v):Calls prog 173 #[.p A 0] a λe w'=>e=.returned (.u v)/\Iv [A] a [⟨A,bz B k F,[]⟩] w':=by subst hv;exact QM h b c w0
theorem Tf (h:Tq w A n B k F a) (b:B.x.length=32) (c:0<=F.rb) (w0:F.rb<=31) {v:Int} (hv:B.x.getD F.rb.toNat 0=v):Calls prog 176 #[.p A 0] a λe w'=>e=.returned (.u v)/\Iv [A] a [⟨A,bz B k F,[]⟩] w':=by subst hv;exact SX h b c w0
theorem Mt {g:MA} (h:Tq w A n B g F a) (w0:Gd B) (d:F.ld=.func (.func 50) #[] #[]) (addr size kind x:Int) (i:jr size=true) (M:1<=kind) (b:kind<=3) (c:kind=1->size=4) (m:U addr) (hx:U x):
 Calls prog 166 #[.p A 0,.u addr,.i size,.i kind,.u x] a λe w'=>∃ C,e=.returned (.tuple #[.u (if (aC B addr size kind x).2.2 != 0 then 0 else (aC B addr size kind x).1),.bool (!((aC B addr size kind x).2.2 != 0))])/\Tq w A n (aC B addr size kind x).2.1 C (nz F (aC B addr size kind x) addr) w' :=
 (vx (aC B addr size kind x) addr size kind x d h.row (λW l=>(h.iv l rfl).acc w0 i M b c m hx)).mono λe w' ⟨C,j,k,f⟩=>⟨C,j,h.new k f⟩
theorem Pg (hn:w=1\/w=2\/w=4\/w=8):jr (w:Int)=true:=by rcases hn with rfl|rfl|rfl|rfl<;>decide
theorem EI {g:MA} (h:Tq w A n B g F a) (j:Gd B) (M:F.ld=.func (.func 50) #[] #[]) (f:Wf) (w0:Nat) (s:Bool) (hn:w0=1\/w0=2\/w0=4\/w0=8) (i:F.fm=mU f w0 s) (addr:Int) (d:U addr):
 Calls prog 172 #[.p A 0,.u addr] a λe w'=>∃ C,e=.returned (.tuple #[.u (if (aC B addr w0 2 0).2.2 != 0 then 0 else (aC B addr w0 2 0).1),.bool (!((aC B addr w0 2 0).2.2 != 0))])/\Tq w A n (aC B addr w0 2 0).2.1 C (sP F (aC B addr w0 2 0) addr w0 s) w' :=
 (Qs (aC B addr w0 2 0) f w0 s hn i addr M h.row (λW c=>(h.iv c rfl).acc j (Pg hn) a6 a6 (λe=>x8) d lN)).mono λe w' ⟨C,b,k,f⟩=>⟨C,b,h.new k f⟩
theorem zX {g:MA} (h:Tq w A n B g F a) (j:Gd B) (M:F.ld=.func (.func 50) #[] #[]) (f:Wf) (w0:Nat) (s:Bool) (hn:w0=1\/w0=2\/w0=4\/w0=8) (i:F.fm=mU f w0 s) (addr x:Int) (d:U addr) (hx:U x):
 Calls prog 175 #[.p A 0,.u addr,.u x] a λe w'=>∃ C,e=.returned (.bool (!((aC B addr w0 3 x).2.2 != 0)))/\Tq w A n (aC B addr w0 3 x).2.1 C (nz F (aC B addr w0 3 x) addr) w' :=
 (Of (aC B addr w0 3 x) f w0 s i addr x M h.row (λW c=>(h.iv c rfl).acc j (Pg hn) a6 a6 (λe=>x8) d hx)).mono λe w' ⟨C,b,k,f⟩=>⟨C,b,h.new k f⟩
theorem Mu {g:MA} (h:Tq w A n B g F a) (M:Gd B) (l:F.ld=.func (.func 50) #[] #[]) (addr kind:Int) (i:1<=kind) (j:kind<=3) (s:U addr): Calls prog 232 #[.p A 0,.u addr,.i kind] a λe w'=>∃ C,e=.returned (.tuple #[.u (if (bW B addr kind).code != 0 then 0 else (bW B addr kind).addr),.bool (!((bW B addr kind).code != 0))])/\Tq w A n (de B addr kind) C (xO F (bW B addr kind).code addr) w':=by
 obtain ⟨f,d,w0,v,_,_⟩:=aI M.ok;have m:be B.cs.length B.cs B.pr=true:=(cP M.ok).2.2.1;have u:=vb (M.mw.cs 0) d w0 kind;have r:JU B.cs.length B.cs B.pr kind=fV B.cs B.pr kind:=by unfold JU;rw [m,decide_eq_true ⟨i,j⟩];rfl
 have p:nn B.ram.length B.cs.length B.cs (fV B.cs B.pr kind) kind=true:=by unfold nn be;rw [v,f,d,u];unfold ji;rcases (show kind=1\/kind=2\/kind=3 by omega) with rfl|rfl|rfl<;>rfl
 refine (Qt (bW B addr kind).addr (bW B addr kind).code (fV B.cs B.pr kind) (bo B.ram (bW B addr kind)) addr kind l h.row (λW b=>?_) (λW b=>?_)).mono λe w' ⟨a',c,q,k,o⟩=>⟨_,q,h.ram k o⟩;·have:=mc g.ac B.cs.length g.cc B.cs B.pr kind W rfl (h.iv b rfl).sl.cs M.mw.cs;rw [r] at this;exact this
 ·have:=qL g.ar B.ram.length g.cr B.ram g.ac B.cs.length g.cc B.cs (fV B.cs B.pr kind) addr kind W rfl M.len.ram (h.iv b rfl).sl.ram M.mw.ram rfl (h.iv b rfl).sl.cs M.mw.cs s (h.iv b rfl).tab h.good;unfold Fg Fh uU at this;rw [p,if_pos rfl,if_pos rfl,if_pos rfl] at this;exact this
theorem Cy (h:Tq w A n B k F a) (d:B.x.length=32) (q:0<=F.ra) (c:F.ra<=31) (f:Wf) (g:Nat) (s:Bool) (hn:g=4\/g=8) (z:F.fm=mU f g s) (hz:((B.x.getD F.ra.toNat 0).tmod g != 0)=true): Calls prog 233 #[.p A 0] a λe w'=>e=.returned (.tuple #[.u 0,.bool false])/\Tq w A n B k {F with up:=true,cz:=6,vl:=B.x.getD F.ra.toNat 0} w':=by
 have m:=λW (h:Tq w A n B k F W)=>QM h d q c;generalize B.x.getD F.ra.toNat 0=w0 at *;have C:Uz.wrap (g:Int)=g:=by rw [IntKind.wrap_u64];omega
 have j:(g:Int)≠0:=ab
 refine bf (S:=Tq w A n B k F) (args:=[.p A 0]) [] func233 ?_;refine aL 0 1 ?_;cases f;all_goals
  refine ae (Tq.eng (dr:=true)) {cv:=[(5,sX m),(7,sX λW i=>qs _ g s z i.row)]} 60 h λp r=>?_
  refine n6 (yZ g s p) a4 λe t b=>⟨_,0,b.1,fi a4,?_⟩
  have u:=r.below b.2
  refine aN (Tq.eng (dr:=true)) {eq:=[(9,cZ .u64 C),(11,af hz)],ov:=[(10,Js .u64 w0 g j)],cv:=[(13,MH λW _=>(gY 3 (.inr (.inr rfl)) W).mono λe w' M=>⟨M.1,by rw [M.2];exact Below.refl _ _⟩),(15,sX m)]} 60 u (λW i=>jZ 6 w0 i.row) λD e G x b=>⟨_,0,b.1,fi a4,?_⟩
  have l:=x.iv b.2 rfl
  refine aK (λ_=>True) ?_
  exact jf (Iv.one l.row) {} 40 λE w0 y o=>⟨.tuple #[.u 0,.bool false],by rw [results_tmp2 rfl,o.slot (v:=.u 0) a4,o.slot (v:=.bool false) a4],rfl,l.iv y rfl⟩
theorem Gs (h:Tq w A n B k F a) (d:Gd B) (i:F.ld=.func (.func 50) #[] #[]) (u:0<=F.ra) (b:F.ra<=31) (f:Wf) (g:Nat) (s:Bool) (hn:g=4\/g=8) (E:F.fm=mU f g s) (hz:((B.x.getD F.ra.toNat 0).tmod g != 0)=false): Calls prog 233 #[.p A 0] a λe w'=>∃ C,e=.returned (.tuple #[.u (if (bW B (B.x.getD F.ra.toNat 0) 3).code != 0 then 0 else (bW B (B.x.getD F.ra.toNat 0) 3).addr),.bool (!((bW B (B.x.getD F.ra.toNat 0) 3).code != 0))])/\Tq w A n (de B (B.x.getD F.ra.toNat 0) 3) C (xO F (bW B (B.x.getD F.ra.toNat 0) 3).code (B.x.getD F.ra.toNat 0)) w':=by
 have c:=d.x32;have l:=λW (h:Tq w A n B k F W)=>QM h c u b;have M:=λW (h:Tq w A n B k F W)=>Mu h d i (B.x.getD F.ra.toNat 0) 3 a6 a6 (d.ux _);generalize B.x.getD F.ra.toNat 0=w0 at *;have t:Uz.wrap (g:Int)=g:=by rw [IntKind.wrap_u64];omega
 have j:(g:Int)≠0:=ab
 generalize (if (bW B w0 3).code != 0 then 0 else (bW B w0 3).addr)=p at *;generalize (!((bW B w0 3).code != 0))=q at *;refine bf (S:=Tq w A n B k F) (args:=[.p A 0]) [] func233 ?_;refine aL 0 1 ?_;cases f;all_goals
  refine ae (Tq.eng (dr:=true)) {cv:=[(5,sX l),(7,sX λW D=>qs _ g s E D.row)]} 60 h λr x=>?_
  refine n6 (yZ g s r) a4 λe I o=>⟨_,0,o.1,fi a4,?_⟩
  have y:=x.below o.2
  refine aN (Tq.eng (dr:=true)) {eq:=[(9,cZ .u64 t),(11,af hz)],ov:=[(10,Js .u64 w0 g j)],cv:=[(19,sX l)]} 60 y M ?_
  rintro G e J H ⟨C,rfl,z⟩
  refine ⟨_,0,rfl,fi a4,?_⟩
  refine jv (R:=[]) trivial {} 40 λw0 m=>⟨.tuple #[.u p,.bool q],by rw [results_tmp2 rfl,m.slot (v:=.u p) a4,m.slot (v:=.bool q) a4],C,rfl,z⟩
theorem iL {cf:Bool} {k:Nat} (h:F.up=true) (a:F.cz=k):tz cf B F=(aM B k false F.vl,2):=by unfold tz;rw [if_pos h,a,Int.toNat_natCast]
theorem je (h:t.up=false):tz false B t=(aX B t.rd t.rs t.nx,1):=by unfold tz;rw [h];rfl
theorem kW {rd to:Int}:aX M rd (M.x.getD rd.toNat 0) to=aX M 0 0 to:=by
 unfold aX;congr 1;by_cases e:rd=0;·rw [if_pos e,if_pos rfl]
 ·rw [if_neg e,if_pos rfl];by_cases a:rd.toNat<M.x.length;·exact mK M.x rd.toNat a
  ·exact List.set_eq_of_length_le ab
theorem mT {cf:Bool} {i:Ins} {X:Int × MV × Int} {a n kind:Int} (f:aC M a n kind x=X) (g:Gd M) (e:(X.2.2 != 0)=true) (d:t.rd=i.rd) (b:t.fm=dY i.op):Pf cf (cC X 0 a) i X.2.1 (nz t X a):=by subst f;have c:=j7 (M:=M) (addr:=a) (size:=n) (kind:=kind) (x:=x) rfl e;unfold nz;rw [e];exact ⟨iL rfl c.1,g.acc a n kind x,d,b,λ_=>⟨_,c.2,c.1⟩⟩
theorem EJ {R:List Rw} (fn:gH a R) (H:Hn d (λx=>x=a) (λx=>x=a)) (m:Nat) (hx:(iu f,(aY d R H l false m f p).1.1)=(true,true)) (he:(aY d R H l false m f p).2.map Prod.fst=(aY d R H l false m f p).2.map Prod.snd) (hr:b.results=#[]) {M':MV} {A':MA} {t':TV} (h:Tq w A n M' A' t' a) (c:W M' t'):Wg d e (bodyPost d b (TR w A n W)) l f p a :=
 jv fn H m (hx:=hx) (he:=he) λw0 _=>⟨_,results_none hr _ _ _,rfl,M',A',t',c,h⟩
theorem QO {g:World} {w0:MA} (m:jJ o) (z:o.op=63\/o.op=74) (h:Tq w A n B w0 (t0 B o q) g) (l:Gd B) (hd:Ud B.d): Calls prog 177 #[.p A 0] g (TR w A n (Pf false (RQ B o (B.x.getD o.a.toNat 0)) o)):=by
 obtain ⟨M,r⟩:∃ M,M=bp o.op:=⟨_,rfl⟩;have hn:M=4\/M=8:=by rw [r];unfold bp;split<;>simp
 obtain ⟨wn,ws⟩:=(Gp m.op1 m.op98).2.2.2.2 ab;have V:dY o.op=mU .hd M true:=by unfold dY;rw [if_neg ab,if_neg ab,if_neg ab,if_neg ab,if_neg ab,if_pos ab,if_pos z,wn,ws,r]
 have i:=l.x32;have F:=l.ux o.a.toNat;have s:=λW (h:Tq w A n B w0 (t0 B o q) W)=>QM h i m.a0 m.a31;have Y:=λW (h:Tq w A n B w0 (t0 B o q) W)=>EI h l rfl .hd M true ab V (B.x.getD o.a.toNat 0) F;have H:RQ B o (B.x.getD o.a.toNat 0)=if ((aC B (B.x.getD o.a.toNat 0) M 2 0).2.2 != 0)=true then cC (aC B (B.x.getD o.a.toNat 0) M 2 0) 0 (B.x.getD o.a.toNat 0) else (aX (bU (de (aC B (B.x.getD o.a.toNat 0) M 2 0).2.1 (B.x.getD o.a.toNat 0) 2) true (bW (aC B (B.x.getD o.a.toNat 0) M 2 0).2.1 (B.x.getD o.a.toNat 0) 2).addr) o.rd (av (8*M) (aC B (B.x.getD o.a.toNat 0) M 2 0).1) (Uz.wrap (B.pc+4)),1):=by rw [r];rfl
 rw [H];clear H;have I:=l.acc (B.x.getD o.a.toNat 0) M 2 0;have K:=(i8 B (B.x.getD o.a.toNat 0) M 2 0).2.1;have v:=EH l (a:=B.x.getD o.a.toNat 0) (n:=M);have E:=λX (T:aC B (B.x.getD o.a.toNat 0) M 2 0=X) k=>mT (cf:=false) (i:=o) (t:=t0 B o q) T l k rfl rfl;generalize P:B.x.getD o.a.toNat 0=a at *;generalize aC B a M 2 0=X at *;obtain ⟨y,N,c⟩:=X;dsimp only at *;refine fj (args:=[.p A 0]) (Tq w A n B w0 (t0 B o q)) func177 ?_;refine aL 0 1 ?_;refine aN (Tq.eng (dr:=true)) {cv:=[(7,sX s)]} 60 h Y ?_;rintro W1 e W2 h1 ⟨C,rfl,d⟩;refine ⟨_,0,rfl,fi a4,?_⟩;cases k:(c != 0) with
 | true =>rw [if_pos rfl];unfold sP at d;dsimp only at d;rw [k,if_pos rfl] at d;exact EJ (R:=[]) trivial {} 40 a4 a4 rfl d (E _ rfl k)
 | false =>rw [if_neg a6];unfold sP at d;dsimp only at d;rw [k,if_neg a6,if_pos rfl] at d;have O:c=0:=(by simpa using k);have u:=v O;obtain ⟨f,b⟩:∃ f:TV,f={t0 B o q with rs:=av (8*M) y}:=⟨_,rfl⟩;have j:f.ra=o.a:=(by rw [b];rfl);have x:f.ld=.func (.func 50) #[] #[]:=(by rw [b];rfl);rw [<- b] at d;have p:=λW (h:Tq w A n N C f W)=>QM h (by rw [K];exact i) (by rw [j];exact m.a0) (by rw [j];exact m.a31);rw [j,K,P] at p;have wd:=λW (h:Tq w A n N C f W)=>Mu h I x a 2 a6 a6 F;have Q:Gd (de N a 2):=I.marked _;have Z:U (bW N a 2).addr:=tH _ _ _ _ _ _ F;rw [u] at wd;generalize (bW N a 2).addr=L at *;generalize de N a 2=G at *;refine aK (Tq w A n N C f) ?_;refine aN (Tq.eng (dr:=true)) {cv:=[(18,sX p)]} 60 d wd ?_;rintro W3 e W4 h3 ⟨D,rfl,J⟩;refine ⟨_,0,rfl,fi a4,?_⟩;refine aK (λ_=>True) ?_;refine gp (R1:=[⟨A,bz (bU G true L) D f,[]⟩]) (Iv.one J.row) {} 60 λW5 S=>⟨rfl,bU G true L,D,f,?_,J.iv S rfl⟩;refine ⟨?_,Q.hold Z (Or.inl rfl),by rw [b];rfl,by rw [b];rfl,λe=>by rw [b] at e;cases e⟩;rw [je (by rw [b];rfl),b];rfl
theorem Cz (a:jJ X) (b:63<=X.op) (c:X.op<=84):(bp X.op=4\/bp X.op=8)/\wN X.op=bp X.op/\wS X.op=true:=by obtain ⟨wn,d⟩:=(Gp a.op1 a.op98).2.2.2.2 ab;refine ⟨?_,wn,d⟩;unfold bp;split<;>simp
theorem Gt (b:U c):c.tmod w=c%(w:Int):=Int.tmod_eq_emod_of_nonneg b.1
theorem QP {w0 g:World} {M:MA} (wd:jJ o) (hop:o.op=64\/o.op=75) (h:Tq w A w0 B M (t0 B o q) g) (J:Gd B): Calls prog 178 #[.p A 0] g (TR w A w0 (Pf false (i9 B o (B.x.getD o.a.toNat 0) (B.x.getD o.b.toNat 0)) o)):=by
 obtain ⟨hn,wn,ws⟩:=Cz wd ab ab;have hf:dY o.op=mU .sc (bp o.op:Nat) true:=by unfold dY;rw [if_neg ab,if_neg ab,if_neg ab,if_neg ab,if_neg ab,if_pos ab,if_neg ab,if_pos hop,wn,ws]
 have x:=J.x32;have ua:=J.ux o.a.toNat;have ub:=J.ux o.b.toNat;have k0:(mR o.op==0)=false:=by unfold mR;split<;>simp<;>omega
 have k1:(mR o.op==1)=true:=by unfold mR;split<;>simp<;>omega
 have eV:i9 B o (B.x.getD o.a.toNat 0) (B.x.getD o.b.toNat 0)=if ((B.x.getD o.a.toNat 0).tmod (bp o.op:Nat) != 0)=true then (aM B 6 false (B.x.getD o.a.toNat 0),2) else if ((bW B (B.x.getD o.a.toNat 0) 3).code != 0)=true then (aM (de B (B.x.getD o.a.toNat 0) 3) (bW B (B.x.getD o.a.toNat 0) 3).code.toNat false (B.x.getD o.a.toNat 0),2) else if ((de B (B.x.getD o.a.toNat 0) 3).hl&&((de B (B.x.getD o.a.toNat 0) 3).hd==(bW B (B.x.getD o.a.toNat 0) 3).addr))=true then (if ((aC (de B (B.x.getD o.a.toNat 0) 3) (B.x.getD o.a.toNat 0) (bp o.op:Nat) 3 (B.x.getD o.b.toNat 0)).2.2 != 0)=true then cC (aC (de B (B.x.getD o.a.toNat 0) 3) (B.x.getD o.a.toNat 0) (bp o.op:Nat) 3 (B.x.getD o.b.toNat 0)) 0 (B.x.getD o.a.toNat 0) else (aX (bU (aC (de B (B.x.getD o.a.toNat 0) 3) (B.x.getD o.a.toNat 0) (bp o.op:Nat) 3 (B.x.getD o.b.toNat 0)).2.1 false 0) o.rd 0 (Uz.wrap (B.pc+4)),1)) else (aX (bU (de B (B.x.getD o.a.toNat 0) 3) false 0) o.rd 1 (Uz.wrap (B.pc+4)),1):=by unfold i9;rw [k0,k1,if_neg a6,Gt ua,if_pos rfl];rfl
 rw [eV];clear eV k0 k1 wn ws;have i:=λW (h:Tq w A w0 B M (t0 B o q) W)=>Cy h x wd.a0 wd.a31 .sc _ true hn hf;have j:=λW (h:Tq w A w0 B M (t0 B o q) W)=>Gs h J rfl wd.a0 wd.a31 .sc _ true hn hf;have K:Gd (de B (B.x.getD o.a.toNat 0) 3):=J.marked _;obtain ⟨T,S,hcc⟩:∃ c:Nat,c<16/\(bW B (B.x.getD o.a.toNat 0) 3).code=c:=lI B.ram B.ram.length B.cs (fV B.cs B.pr 3) (B.x.getD o.a.toNat 0) 3;rw [show (t0 B o q).ra=o.a from rfl] at i j;have s:(de B (B.x.getD o.a.toNat 0) 3).x=B.x:=rfl;generalize ea:B.x.getD o.a.toNat 0=a at *;generalize eb:B.x.getD o.b.toNat 0=b at *;generalize bp o.op=n at *;generalize de B a 3=N at *;generalize bW B a 3=F at *;obtain ⟨p,fc,fm,ft,fe⟩:=F;dsimp only at *;subst hcc;obtain ⟨d,f⟩:∃ d:TV,d=t0 B o q:=⟨_,rfl⟩;have r:d.up=false:=by rw [f];rfl
 have hld:d.ld=.func (.func 50) #[] #[]:=by rw [f];rfl
 have E:d.ra=o.a:=by rw [f];rfl
 have G:d.rb=o.b:=by rw [f];rfl
 have l:d.rd=o.rd:=by rw [f];rfl
 have m:d.fm=dY o.op:=by rw [f];rfl
 have O:d.nx=Uz.wrap (B.pc+4):=by rw [f];rfl
 rw [<- f] at h i j;clear f;refine fj (args:=[.p A 0]) (Tq w A w0 B M d) func178 ?_;refine aL 0 1 ?_;cases hz:(a.tmod n != 0) with
 | true =>rw [if_pos rfl];refine aN (Tq.eng (dr:=true)) {} 60 h (λW Y=>i W Y hz) ?_;rintro W1 e W2 h1 ⟨rfl,u⟩;refine ⟨_,0,rfl,fi a4,?_⟩;exact EJ (R:=[]) trivial {} 40 a4 a4 rfl u ⟨iL (k:=6) rfl rfl,J,l,m,λ_=>⟨6,a6,rfl⟩⟩
 | false =>
   rw [if_neg a6];refine aN (Tq.eng (dr:=true)) {} 60 h (λW Y=>j W Y hz) ?_;rintro W1 e W2 h1 ⟨C,rfl,u⟩;refine ⟨_,0,rfl,fi a4,?_⟩;unfold xO at u;cases P:(((T:Nat):Int) != 0) with
   | true =>rw [P,if_pos rfl] at u;rw [if_pos rfl,Int.toNat_natCast];exact EJ (R:=[]) trivial {} 40 a4 a4 rfl u ⟨iL (k:=T) rfl rfl,K,l,m,λ_=>⟨T,S,rfl⟩⟩
   | false =>
     rw [P,if_neg a6] at u;rw [if_neg a6];refine aP (R:=[]) trivial {} 14 ?_;refine an [.code (ay 2 (aW Tryz.f178))] [(0,.p A 0,1),(2,.u p,0)] ?_;refine aK (λ_=>True) ?_;refine pF (R1:=[⟨A,bz N C {d with rs:=1},[]⟩]) (Iv.one u.row) {} 7 λW3 h3=>?_;have U:=u.iv h3 rfl;refine an [.code (ay 3 (aW Tryz.f178))] [(0,.p A 0,1),(2,.u p,0)] ?_;have no:∀ (H:Hw prog (Ag [A] W3)),(N.hl&&(N.hd==p))=false->((dJ prog H Tryz.f178.ntmps 60 [.code (ay 3 (aW Tryz.f178))] [(0,.p A 0,1),(2,.u p,0)] [⟨A,bz N C {d with rs:=1},[]⟩]).1.1,(dJ prog H Tryz.f178.ntmps 60 [.code (ay 3 (aW Tryz.f178))] [(0,.p A 0,1),(2,.u p,0)] [⟨A,bz N C {d with rs:=1},[]⟩]).1.2.2.2)=(false,[⟨A,bz (bU N false 0) C {d with rs:=1},[]⟩]) ->
      (dJ prog H Tryz.f178.ntmps 60 [.code (ay 3 (aW Tryz.f178))] [(0,.p A 0,1),(2,.u p,0)] [⟨A,bz N C {d with rs:=1},[]⟩]).1.2.1.isEmpty=true->(dJ prog H Tryz.f178.ntmps 60 [.code (ay 3 (aW Tryz.f178))] [(0,.p A 0,1),(2,.u p,0)] [⟨A,bz N C {d with rs:=1},[]⟩]).2.map Prod.fst=(dJ prog H Tryz.f178.ntmps 60 [.code (ay 3 (aW Tryz.f178))] [(0,.p A 0,1),(2,.u p,0)] [⟨A,bz N C {d with rs:=1},[]⟩]).2.map Prod.snd ->
      Wg prog (λ_=>True) (bodyPost prog Tryz.f178 (TR w A w0 (Pf false (if (N.hl&&(N.hd==p))=true then (if ((aC N a n 3 b).2.2 != 0)=true then cC (aC N a n 3 b) 0 a else (aX (bU (aC N a n 3 b).2.1 false 0) o.rd 0 (Uz.wrap (B.pc+4)),1)) else (aX (bU N false 0) o.rd 1 (Uz.wrap (B.pc+4)),1)) o))) Tryz.f178.ntmps [.code (ay 3 (aW Tryz.f178))] [(0,.p A 0,1),(2,.u p,0)] W3:=by
      intro H hn0 hx hz1 he
      rw [hn0,if_neg a6]
      refine gp (Iv.one U.row) H 60 (hx:=hx) (hz:=hz1) (he:=he) λW5 V=>⟨rfl,bU N false 0,C,{d with rs:=1},?_,U.iv V rfl⟩
      refine ⟨?_,K.hold lN (Or.inr rfl),l,m,λe=>by rw [show TV.up {d with rs:=1}=d.up from rfl,r] at e;cases e⟩
      rw [je (t:={d with rs:=1}) r,<- O,<- l]
     cases z:N.hl with
     | false =>have:=no {eq:=[(18,af z)]} (by rw [z];rfl) a4 a4 a4;rw [z] at this;exact this
     | true =>
       cases Q:(N.hd==p) with
       | false =>have:=no {eq:=[(18,af z),(26,af Q)]} (by rw [z,Q];rfl) a4 a4 a4;rw [z,Q] at this;exact this
       | true =>
         clear no;rw [if_pos a6];have V:=U;have ga:=K.acc a n 3 b;have Z:=λW (h:Tq w A w0 N C {d with rs:=1} W)=>SY h (by rw [s];exact x) (show 0<=d.ra by rw [E];exact wd.a0) (show d.ra<=31 by rw [E];exact wd.a31) (v:=a) (show N.x.getD d.ra.toNat 0=a by rw [s,E];exact ea);have hb2:=λW (h:Tq w A w0 N C {d with rs:=1} W)=>Tf h (by rw [s];exact x) (show 0<=d.rb by rw [G];exact wd.b0) (show d.rb<=31 by rw [G];exact wd.b31) (v:=b) (show N.x.getD d.rb.toNat 0=b by rw [s,G];exact eb);have hst:=λW (h:Tq w A w0 N C {d with rs:=1} W)=>zX h K (show d.ld=_ from hld) .sc n true ab (show d.fm=_ by rw [m,hf]) a b ua ub;have hrf:=λX (hX:aC N a n 3 b=X) P=>mT (cf:=false) (i:=o) (t:={d with rs:=1}) hX K P l m;generalize aC N a n 3 b=X at *;obtain ⟨y,N2,c2⟩:=X;dsimp only at *;refine aK (Tq w A w0 N C {d with rs:=1}) ?_;refine aN (Tq.eng (dr:=true)) {eq:=[(18,af z),(26,af Q)],cv:=[(30,sX Z),(32,sX hb2)]} 80 V hst ?_;rintro W6 e W7 h6 ⟨D,rfl,I⟩;refine ⟨_,0,rfl,fi a4,?_⟩;cases L:(c2 != 0) with
         | true =>rw [if_pos rfl];exact EJ (R:=[]) trivial {} 40 a4 a4 rfl I (hrf _ rfl L)
         | false =>rw [if_neg a6];unfold nz at I;dsimp only at I;rw [L,if_neg a6] at I;refine aK (λ_=>True) ?_;refine gp (R1:=[⟨A,bz (bU N2 false 0) D {d with rs:=0},[]⟩]) (Iv.one I.row) {} 60 λW8 h8=>⟨rfl,bU N2 false 0,D,{d with rs:=0},?_,I.iv h8 rfl⟩;refine ⟨?_,ga.hold lN (Or.inr rfl),l,m,λe=>by rw [show TV.up {d with rs:=0}=d.up from rfl,r] at e;cases e⟩;rw [je (t:={d with rs:=0}) r,<- O,<- l]
theorem R7 {g:MA} (wd:jJ o) (h63:63<=o.op) (h84:o.op<=84) (hop:¬ (o.op=63\/o.op=74)/\¬ (o.op=64\/o.op=75)) (h:Tq w A n B g (t0 B o q) a) (T:Gd B) (hd:Ud B.d): Calls prog 179 #[.p A 0] a (TR w A n (Pf false (i9 B o (B.x.getD o.a.toNat 0) (B.x.getD o.b.toNat 0)) o)):=by
 obtain ⟨hn,wn,ws⟩:=Cz wd h63 h84;have hf:dY o.op=mU .am (bp o.op:Nat) true:=by unfold dY;rw [if_neg ab,if_neg ab,if_neg ab,if_neg ab,if_neg ab,if_pos ab,if_neg hop.1,if_neg hop.2,wn,ws]
 have u:=T.x32;have ua:=T.ux o.a.toNat;have ub:=T.ux o.b.toNat;have k0:(mR o.op==0)=false:=by unfold mR;split<;>simp<;>omega
 have k1:(mR o.op==1)=false:=by unfold mR;split<;>simp<;>omega
 have eV:∀ (M b:Int) (N:MV) (w0:Nat),M=B.x.getD o.a.toNat 0->b=B.x.getD o.b.toNat 0->N=de B M 3->w0=bp o.op->i9 B o M b=if (M.tmod w0 != 0)=true then (aM B 6 false M,2) else if ((bW B M 3).code != 0)=true then (aM N (bW B M 3).code.toNat false M,2) else if ((aC N M w0 2 0).2.2 != 0)=true then cC (aC N M w0 2 0) 2 M else if ((aC (aC N M w0 2 0).2.1 M w0 3 (i7 o.op (aC N M w0 2 0).1 b)).2.2 != 0)=true then cC (aC (aC N M w0 2 0).2.1 M w0 3 (i7 o.op (aC N M w0 2 0).1 b)) 0 M else (aX (aC (aC N M w0 2 0).2.1 M w0 3 (i7 o.op (aC N M w0 2 0).1 b)).2.1 o.rd (av (8*w0) (aC N M w0 2 0).1) (Uz.wrap (B.pc+4)),1):=by intro M b N w0 e1 e2 e3 e4;subst e1 e2 e3 e4;unfold i9;rw [k0,k1,if_neg a6,Gt ua,if_neg (show ¬ (false=true) by decide)];rfl
 rw [eV _ _ _ _ rfl rfl rfl rfl];clear eV k0 k1 wn ws;have i:=λW (h:Tq w A n B g (t0 B o q) W)=>Cy h u wd.a0 wd.a31 .am _ true hn hf;have m:=λW (h:Tq w A n B g (t0 B o q) W)=>Gs h T rfl wd.a0 wd.a31 .am _ true hn hf;have gl:Gd (de B (B.x.getD o.a.toNat 0) 3):=T.marked _;have dl:Ud (de B (B.x.getD o.a.toNat 0) 3).d:=hd;obtain ⟨cc,c16,hcc⟩:∃ c:Nat,c<16/\(bW B (B.x.getD o.a.toNat 0) 3).code=c:=lI B.ram B.ram.length B.cs (fV B.cs B.pr 3) (B.x.getD o.a.toNat 0) 3;rw [show (t0 B o q).ra=o.a from rfl] at i m;have O:(de B (B.x.getD o.a.toNat 0) 3).x=B.x:=rfl;generalize ea:B.x.getD o.a.toNat 0=M at *;generalize eb:B.x.getD o.b.toNat 0=b at *;generalize bp o.op=w0 at *;generalize de B M 3=N at *;generalize bW B M 3=F at *;obtain ⟨pa,fc,fm,ft,fe⟩:=F;dsimp only at *;subst hcc;obtain ⟨l,f⟩:∃ l:TV,l=t0 B o q:=⟨_,rfl⟩;have hup:l.up=false:=by rw [f];rfl
 have hld:l.ld=.func (.func 50) #[] #[]:=by rw [f];rfl
 have H:l.ra=o.a:=by rw [f];rfl
 have hrb:l.rb=o.b:=by rw [f];rfl
 have I:l.rd=o.rd:=by rw [f];rfl
 have hto:l.op=o.op:=by rw [f];rfl
 have p:l.fm=dY o.op:=by rw [f];rfl
 have hnx:l.nx=Uz.wrap (B.pc+4):=by rw [f];rfl
 rw [<- f] at h i m;clear f;refine fj (args:=[.p A 0]) (Tq w A n B g l) func179 ?_;refine aL 0 1 ?_;cases hz:(M.tmod w0 != 0) with
 | true =>rw [if_pos rfl];refine aN (Tq.eng (dr:=true)) {} 60 h (λW hW=>i W hW hz) ?_;rintro W1 e W2 h1 ⟨rfl,K⟩;refine ⟨_,0,rfl,fi a4,?_⟩;exact EJ (R:=[]) trivial {} 40 a4 a4 rfl K ⟨iL (k:=6) rfl rfl,T,I,p,λ_=>⟨6,a6,rfl⟩⟩
 | false =>
   rw [if_neg a6];refine aN (Tq.eng (dr:=true)) {} 60 h (λW hW=>m W hW hz) ?_;rintro W1 e W2 h1 ⟨C,rfl,K⟩;refine ⟨_,0,rfl,fi a4,?_⟩;unfold xO at K;cases hc:(((cc:Nat):Int) != 0) with
   | true =>rw [hc,if_pos rfl] at K;rw [if_pos rfl,Int.toNat_natCast];exact EJ (R:=[]) trivial {} 40 a4 a4 rfl K ⟨iL (k:=cc) rfl rfl,gl,I,p,λ_=>⟨cc,c16,rfl⟩⟩
   | false =>
     rw [hc,if_neg a6] at K;rw [if_neg a6];refine aP (R:=[]) trivial {} 13 ?_;refine an [.code (ay 1 (aW Tryz.f179))] [(0,.p A 0,1)] ?_;have ha2:=λW (h:Tq w A n N C l W)=>SY h (by rw [O];exact u) (by rw [H];exact wd.a0) (by rw [H];exact wd.a31) (v:=M) (by rw [O,H];exact ea);have hl2:=λW (h:Tq w A n N C l W)=>EI h gl hld .am w0 true ab (by rw [p,hf]) M ua;have ga:=gl.acc M w0 2 0;have da:=zP dl M w0 2 lN;have uy:=sU gl dl M w0 ab 2 0;have r:=(i8 N M w0 2 0).2.1;have e18:=λc=>zO (M:=N) (addr:=M) (size:=w0) (x:=0) (c:=c);rw [O] at r;generalize aC N M w0 2 0=X at *;obtain ⟨y,s,V⟩:=X;dsimp only at *;refine aK (Tq w A n N C l) ?_;refine aN (Tq.eng (dr:=true)) {cv:=[(18,sX ha2)]} 60 K hl2 ?_;rintro W3 e W4 h3 ⟨D,rfl,G⟩;refine ⟨_,0,rfl,fi a4,?_⟩;unfold sP nz at G;dsimp only at G;cases L:(V != 0) with
     | true =>obtain ⟨q1,q2,q3⟩:=e18 V rfl L;rw [L,if_pos rfl,if_pos rfl] at G;rw [if_pos rfl];refine aK (λ_=>True) ?_;rw [q1] at G;refine oN (R1:=[⟨A,bz s D {l with up:=true,cz:=(((V-16).toNat+2:Nat):Int),vl:=M},[]⟩]) (Iv.one G.row) {eq:=[(28,cZ .i64 q2)]} 60 λW5 h5=>⟨rfl,s,D,{l with up:=true,cz:=(((V-16).toNat+2:Nat):Int),vl:=M},?_,G.iv h5 rfl⟩;exact ⟨iL (k:=(V-16).toNat+2) rfl rfl,ga,I,p,λ_=>⟨_,q3,rfl⟩⟩
     | false =>
       rw [L,if_neg a6,if_pos rfl] at G;rw [if_neg a6];refine aP (R:=[]) trivial {} 14 ?_;refine an [.code (ay 3 (aW Tryz.f179))] [(0,.p A 0,1),(4,.u y,0)] ?_;obtain ⟨j,d⟩:∃ j:TV,j={l with rs:=av (8*w0) y}:=⟨_,rfl⟩;have up2:j.up=false:=(by rw [d];exact hup);have ld2:j.ld=.func (.func 50) #[] #[]:=(by rw [d];exact hld);have P:j.ra=o.a:=(by rw [d];exact H);have Q:j.rb=o.b:=(by rw [d];exact hrb);have S:j.rd=o.rd:=(by rw [d];exact I);have to2:j.op=o.op:=(by rw [d];exact hto);have J:j.fm=dY o.op:=(by rw [d];exact p);have nx2:j.nx=Uz.wrap (B.pc+4):=(by rw [d];exact hnx);have rs2:j.rs=av (8*w0) y:=(by rw [d]);rw [<- d] at G;clear d;have uv:U (i7 o.op y b):=Gg o.op uy ub;have ha3:=λW (h:Tq w A n s D j W)=>SY h (by rw [r];exact u) (by rw [P];exact wd.a0) (by rw [P];exact wd.a31) (v:=M) (by rw [r,P];exact ea);have hb3:=λW (h:Tq w A n s D j W)=>Tf h (by rw [r];exact u) (by rw [Q];exact wd.b0) (by rw [Q];exact wd.b31) (v:=b) (by rw [r,Q];exact eb);have hm3:=λW (_:Tq w A n s D j W)=>Cl o.op y b (sT ab ab) uy.1 uy.2 ub.1 ub.2 W;have hst:=λW (h:Tq w A n s D j W)=>zX h ga ld2 .am w0 true ab (by rw [J,hf]) M (i7 o.op y b) ua uv;have gb:=ga.acc M w0 3 (i7 o.op y b);have hrf:=λX (hX:aC s M w0 3 (i7 o.op y b)=X) hc=>mT (cf:=false) (i:=o) (t:=j) hX ga hc S J;generalize i7 o.op y b=z at *;generalize rA o.op=zb at *;generalize aC s M w0 3 z=Y at *;obtain ⟨y3,N3,c3⟩:=Y;dsimp only at *;refine aK (Tq w A n s D j) ?_;refine aN (Tq.eng (dr:=true)) {eq:=[(36,cZ .i64 to2)],cv:=[(39,sX hb3),(40,MH hm3),(45,sX ha3)]} 80 G hst ?_;rintro W5 e W6 h5 ⟨E,rfl,h6⟩;refine ⟨_,0,rfl,fi a4,?_⟩;refine iG {} 40 a4 a4 rfl ⟨rfl,N3,E,_,?_,h6⟩;cases Z:(c3 != 0) with
       | true =>rw [if_pos rfl];exact hrf _ rfl Z
       | false =>rw [if_neg a6];unfold nz;dsimp only;rw [Z,if_neg a6];refine ⟨?_,gb,S,J,λe=>by rw [up2] at e;cases e⟩;rw [je up2,nx2,S,rs2]
structure Tz (B g:Nat) (w0:World) (M:MV) (A:MA) (t:TV) (K:Nat) (a':Option Addr) (c':Nat) (l:List Int) (W:World):Prop where
 q:Tq B g w0 M A t W
 f:aZ B K W (aJ M A)
 o:W.ownsRow K 22 1 (.slice a' l.length c') l.length (l.map (Value.int .u64))
 bk:B<=K
 kw:K<=W.heap.size
 gk:g<K
def SZ:Go.Code->Go.Code
 | .block _ c=>c
 | c=>c
theorem Tz.below (h:Tz w g n B k F K S A Q a) (hb:Bw a P):Tz w g n B k F K S A Q P :=
 ⟨h.q.below hb,h.f.below hb,ew h.o λM e=>hb.block M (h.o.lt M e).2,h.bk,Nat.le_trans h.kw hb.size,h.gk⟩
theorem Tz.iv {t':TV} (h:Tz w A n B k F K S l Q a) (w':Iv [A] a [⟨A,bz B k t',[]⟩] P):Tz w A n B k t' K S l Q P:=by have c':=h.gk;exact ⟨h.q.iv w' rfl,h.q.other h.f w',ew h.o λi e=>w'.ag.block i (h.o.lt i e).2 (by rw [List.mem_singleton];have:=(h.o.lt i e).1;omega),h.bk,Nat.le_trans h.kw w'.ag.size,h.gk⟩
theorem Tz.eng {P:Program} {fn:Func} {Rs:Ending->World->Prop}:oM P (Tz w A n B k F K S l Q) (Tz w A n B k F K S l Q) [⟨A,bz B k F,[]⟩] dr (bodyPost P fn Rs):=
 ⟨λ_ h=>h,λW h r a=>by rw [List.mem_singleton] at a;subst a;exact h.q.row.in_,λ_ W h=>h.below (Below.refl _ _).drew,cL⟩
theorem Tz.eng2 {fn:Nat} {c:Option Addr} {P:Nat} {e:List Int}:oM d (Tz w A n B k F K S l Q) (λW=>Tz w A n B k F K S l Q W/\Tz w A n B k F fn c P e W) [⟨A,bz B k F,[]⟩] dr (bodyPost d b j):=
 ⟨λ_ h=>h.1,λW h r a=>by rw [List.mem_singleton] at a;subst a;exact h.q.row.in_,λ_ W h=>⟨h.1.below (Below.refl _ _).drew,h.2.below (Below.refl _ _).drew⟩,cL⟩
def Tv {B g K:Nat} {w0:World} {M:MV} {A:MA} {t:TV} {a':Option Addr} {c':Nat} {l:List Int} {P:Program} {f:Nat} {args:Array Value} {v:Value} (h:∀ W,Tz B g w0 M A t K a' c' l W->Calls P f args W λe w'=>e=.returned v/\Iv [g] W [⟨g,bz M A t,[]⟩] w'):Cv P (Tz B g w0 M A t K a' c' l):=⟨f,args,v,0,λW a=>(h W a).mono λe w' k=>⟨k.1,a.iv k.2⟩⟩
theorem Tz.set {A:MA} {c':Nat} {b:Nat} (h:Tz w l n B A F K (some ⟨b,0,none⟩) c' Q a) (i:Nat) (v:Int):Tz w l n B A F K (some ⟨b,0,none⟩) c' (Q.set i v) (a.setCell ⟨b,i,none⟩ (.u v)):=by
 have f:=h.o.stored i (.u v);rw [kS] at f;have g:=(h.o.lt b rfl).1;have c:∀ k,k≠b->(a.setCell ⟨b,i,none⟩ (.u v)).heap[k]?=a.heap[k]?:=λk c=>Below.heap_setCell a _ _ k c;have w0:(a.setCell ⟨b,i,none⟩ (.u v)).heap.size=a.heap.size:=aO _ _ _;have p:=h.bk;have o:=h.gk;refine ⟨⟨?_,?_,h.q.ne,by rw [w0];exact h.q.le,h.q.os,h.q.tape,h.q.output,by rw [w0];exact h.q.size,λk j d=>(c k ab).trans (h.q.block k j d),h.q.t0,h.q.tb,h.q.tn⟩,h.f.mono λk _ d _=>c k ab,?_,h.bk,by rw [w0];exact h.kw,h.gk⟩;·obtain ⟨T,m⟩:=h.q.row;exact ⟨T,(c l ab).trans m⟩
 ·rw [w0];have e:K<=a.heap.size:=(by have:=(h.o.lt b rfl).2;omega);exact (h.f.mono λk _ d _=>c k ab).low (Nat.le_refl _) e
 ·rw [List.length_set];exact f.1
theorem Tz.csrs {M':MV} {t':TV} (h:Tz w A n B k F K S l Q a) (c':M'.x=B.x/\M'.cs=Q/\M'.ram=B.ram/\M'.d=B.d) (w':Iv [A] a [⟨A,bz M' {k with ac:=S,cc:=l} t',[]⟩] P):Tq w A n M' {k with ac:=S,cc:=l} t' P:=by
 have c:=h.gk;have o:=ew (w':=P) h.o λi e=>w'.ag.block i (h.o.lt i e).2 (by rw [List.mem_singleton];have:=(h.o.lt i e).1;omega);have b:K<=P.heap.size:=Nat.le_trans h.kw w'.ag.size;have f:=h.q.other h.f w';have d:=zS (L1:=[aG k.ax B.x.length k.cx B.x]) (L2:=[aw k.ar B.ram.length k.cr B.ram,aw k.ai B.d.xs.length k.ci B.d.xs,aw k.ao B.d.ys.length k.co B.d.ys]) (r:=aG k.ac B.cs.length k.cc B.cs) (q:=aG S Q.length l Q) h.q.ne λe=>by have:=(o.lt A e).1;omega
 refine h.q.iv1 w' ?_ (by unfold aJ;rw [c'.1,c'.2.1,c'.2.2.1,c'.2.2.2];exact d);unfold aJ;rw [c'.1,c'.2.1,c'.2.2.1,c'.2.2.2];exact aZ.swap (L1:=[aG k.ax B.x.length k.cx B.x]) (r:=aG k.ac B.cs.length k.cc B.cs) (L2:=[aw k.ar B.ram.length k.cr B.ram,aw k.ai B.d.xs.length k.ci B.d.xs,aw k.ao B.d.ys.length k.co B.d.ys]) f (aG S Q.length l Q) o h.bk b (Nat.le_refl _)
theorem Tz.at_ (h:Tz w A n B k F K S l Q a) (c':Q.length=22):∃ b,S=some ⟨b,0,none⟩/\∀ j,j<22->a.cell? ⟨b,j,none⟩=some (.u (Q.getD j 0))/\a.frozen? ⟨b,j,none⟩=false:=by obtain ⟨b,c,e,d⟩:=oY h.o c' ab;exact ⟨b,c,d⟩
theorem I6 (h:Tq w A n B k F a) (c:B.x.length=32) (f:0<=F.ra) (i:F.ra<=31) (l:87<=F.op/\F.op<=92):Calls prog 237 #[.p A 0,.u q] a λe w'=>e=.returned (.u (pu F.op q (if 90<=F.op then Uz.wrap F.ra else B.x.getD F.ra.toNat 0)))/\Iv [A] a [⟨A,bz B k F,[]⟩] w':=by obtain ⟨b,j,d,w0⟩:=h.atX c;have:=IE (x:=B.x.getD (0+F.ra.toNat) 0) q h.row ab j ⟨f,ab⟩ d (w0 (0+F.ra.toNat) ab).1;rw [Nat.zero_add] at this;exact this
theorem ON (old:Int) (c:87<=o.op) (d:o.op<=92):tw o q old=pu o.op old (if 90<=o.op then Uz.wrap o.a else q):=by
 obtain ⟨b,h,f,g,e⟩:=o;dsimp only at c d;unfold tw pu lM;dsimp only;obtain rfl|rfl|rfl|rfl|rfl|rfl:b=87\/b=88\/b=89\/b=90\/b=91\/b=92:=ab
 all_goals rfl
theorem R8 {B g:Nat} {w0 w:World} {M:MV} {A:MA} (i:Ins) (wd:Int) (hi:jJ i) (h87:87<=i.op) (h92:i.op<=92) (h:Tq B g w0 M A (t0 M i wd) w) (Z:Gd M): Calls prog 180 #[.p g 0] w (TR B g w0 (Pf true (nC M i (M.x.getD i.a.toNat 0) wd) i)):=by
 obtain ⟨G,hcs,hpr,_,_,_⟩:=aI Z.ok;have h32:=Z.x32;have ua:=Z.ux i.a.toNat;have uc:=Z.mw.cs;obtain ⟨V,hV⟩:∃ V,nC M i (M.x.getD i.a.toNat 0) wd=V:=⟨_,rfl⟩;rw [hV];have D:=λW (h:Tq B g w0 M A (t0 M i wd) W)=>tf A.ac M.cs.length A.cc M.cs i.imm M.pr W rfl h.sl.cs uc;rw [Kd _ _ uc,uW _ _ uc] at D;obtain ⟨d,p⟩:∃ d:TV,d=t0 M i wd:=⟨_,rfl⟩;have L:d.up=false:=by rw [p];rfl
 have n:d.ra=i.a:=by rw [p];rfl
 have s:d.rd=i.rd:=by rw [p];rfl
 have C:d.fm=dY i.op:=by rw [p];rfl
 have K:d.nx=Uz.wrap (M.pc+4):=by rw [p];rfl
 have hwd:d.wd=wd:=by rw [p];rfl
 have m:d.op=i.op:=by rw [p];rfl
 have him:d.im=i.imm:=by rw [p];rfl
 rw [<- p] at h D;clear p;refine fj (args:=[.p g 0]) (Tq B g w0 M A d) func180 ?_;refine aL 0 1 ?_; -- refused
 have bad:∀ (S:World->Prop) (a:TV),a.wd=wd->a.rd=i.rd->a.fm=dY i.op->V=(aM M 2 false wd,2)->∀ (H:Hn prog (Tq B g w0 M A a) (Tq B g w0 M A a)) (k:List KI) (F:Fr) (W:World),Tq B g w0 M A a W->iu k=true->((aY prog [⟨g,bz M A a,[]⟩] H Tryz.f180.ntmps true 60 k F).1.1,I8 prog Tryz.f180.ntmps (aY prog [⟨g,bz M A a,[]⟩] H Tryz.f180.ntmps true 60 k F).1.2.2 (aY prog [⟨g,bz M A a,[]⟩] H Tryz.f180.ntmps true 60 k F).1.2.1)=(false,some (168,#[.p g 0]))->(aY prog [⟨g,bz M A a,[]⟩] H Tryz.f180.ntmps true 60 k F).2.map Prod.fst=(aY prog [⟨g,bz M A a,[]⟩] H Tryz.f180.ntmps true 60 k F).2.map Prod.snd ->
  (vP (aY prog [⟨g,bz M A a,[]⟩] H Tryz.f180.ntmps true 60 k F).1.2.2 (aY prog [⟨g,bz M A a,[]⟩] H Tryz.f180.ntmps true 60 k F).1.2.1,iu (nZ (aY prog [⟨g,bz M A a,[]⟩] H Tryz.f180.ntmps true 60 k F).1.2.2 (aY prog [⟨g,bz M A a,[]⟩] H Tryz.f180.ntmps true 60 k F).1.2.1))=(false,true) ->
  (∀ J:World->Prop,(λ(y:(Bool × List KI × Fr) × List (Oe × Oe))=>(y.1.1,y.2.map Prod.fst)) (aY prog [] ({}:Hn prog J J) Tryz.f180.ntmps false 20 (nZ (aY prog [⟨g,bz M A a,[]⟩] H Tryz.f180.ntmps true 60 k F).1.2.2 (aY prog [⟨g,bz M A a,[]⟩] H Tryz.f180.ntmps true 60 k F).1.2.1) (pP (aY prog [⟨g,bz M A a,[]⟩] H Tryz.f180.ntmps true 60 k F).1.2.2 (aY prog [⟨g,bz M A a,[]⟩] H Tryz.f180.ntmps true 60 k F).1.2.1 (.tuple #[]) 0))=(true,[])) ->
  Wg prog S (bodyPost prog Tryz.f180 (TR B g w0 (Pf true V i))) Tryz.f180.ntmps k F W:=by
  intro S a x1 x2 x3 x4 H k F W z hn hx he hb hy
  simp only [Prod.mk.injEq] at hb
  refine aK (Tq B g w0 M A a) (hn:=hn) ?_
  refine aN (Tq.eng (dr:=true)) H 60 z (λW z=>oU z.row) (hx:=hx) (he:=he) λW1 e w2 h1 hr=>⟨_,0,hr.1,fi hb.1,?_⟩
  have h2:=h1.iv hr.2 rfl
  have hy2:=hy (λx=>x=w2)
  simp only [Prod.mk.injEq] at hy2
  refine EJ (R:=[]) trivial {} 20 (by rw [hb.2,hy2.1]) ?_ rfl h2 ⟨?_,Z,x2,x3,λ_=>⟨2,a6,rfl⟩⟩
  ·have:(aY prog [] ({}:Hn prog (λx=>x=w2) (λx=>x=w2)) Tryz.f180.ntmps false 20 (nZ (aY prog [⟨g,bz M A a,[]⟩] H Tryz.f180.ntmps true 60 k F).1.2.2 (aY prog [⟨g,bz M A a,[]⟩] H Tryz.f180.ntmps true 60 k F).1.2.1) (pP (aY prog [⟨g,bz M A a,[]⟩] H Tryz.f180.ntmps true 60 k F).1.2.2 (aY prog [⟨g,bz M A a,[]⟩] H Tryz.f180.ntmps true 60 k F).1.2.1 (.tuple #[]) 0)).2=[]:=List.map_eq_nil_iff.1 hy2.2
   rw [this];rfl
  ·rw [iL (k:=2) rfl rfl,x4]
   show (aM M 2 false a.wd,2)=_
   rw [x1]
 cases t:jt M.cs.length M.cs i.imm M.pr with
 | false =>rw [t] at D;have x4:V=(aM M 2 false wd,2):=(by rw [<- hV];unfold nC;rw [t];rfl);exact bad _ d hwd s C x4 {eq:=[(15,cZ .i64 him)],cv:=[(21,MH D)]} _ _ w h a4 a4 a4 a4 (λ_=>a4)
 | true =>
   rw [t,if_pos rfl] at D;have hold:=Mh uc i.imm;have hkn:df i.imm=true:=(by have q:=t;unfold jt at q;simp only [Bool.and_eq_true] at q;exact q.1.1.2);have f:(if (dN i&&((wrap64 (i.imm.tdiv 1024)).tmod 4==3))=true then (aM M 2 false wd,2) else (if dN i=true then iP (aX M i.rd (dj M.cs i.imm) (Uz.wrap (M.pc+4))) (bM (M.cs.set 21 (Uz.wrap (M.cs.getD 21 0+1))) i.imm (tw i (M.x.getD i.a.toNat 0) (dj M.cs i.imm))) else aX M i.rd (dj M.cs i.imm) (Uz.wrap (M.pc+4)),1))=V:=(by rw [<- hV];unfold nC;rw [t];rfl);clear hV;have hX:=ON i (M.x.getD i.a.toNat 0) (dj M.cs i.imm) h87 h92;generalize dj M.cs i.imm=old at *;have fin:∀ (S:World->Prop) (K2:Nat) (X:Option Addr) (Y:Nat) (l2:List Int) (a:TV) (W:World),Tz B g w0 M A a K2 X Y l2 W->a.rd=i.rd->a.fm=dY i.op->a.up=false->a.nx=Uz.wrap (M.pc+4)->Gd (iP M l2)->(iP (aX M i.rd old (Uz.wrap (M.pc+4))) l2,1)=V->Wg prog S (bodyPost prog Tryz.f180 (TR B g w0 (Pf true V i))) Tryz.f180.ntmps [.code (ay 5 (aW Tryz.f180))] [(0,.p g 0,1),(2,.u old,0),(3,.bool true,0),(4,.slice X l2.length Y,0)] W:=(by intro S K2 X Y l2 a W hz x1 x2 x3 x4 x5 x6;refine aK (λ_=>True) ?_;refine gp (R1:=[⟨g,bz (iP M l2) {A with ac:=X,cc:=Y} {a with rs:=old},[]⟩]) (Iv.one hz.q.row) {} 60 λW5 h5=>⟨rfl,iP M l2,_,{a with rs:=old},⟨?_,x5,x1,x2,λe=>by rw [show TV.up {a with rs:=old}=a.up from rfl,x3] at e;cases e⟩,hz.csrs ⟨rfl,rfl,rfl,rfl⟩ h5⟩;rw [<- x6];unfold tz;rw [show TV.up {a with rs:=old}=a.up from rfl,x3];unfold iP aX;rw [<- x4,<- x1];rfl);refine aN (Tq.eng (dr:=true)) {eq:=[(15,cZ .i64 him)],cv:=[(21,MH D)]} 100 h (λW z=>oz A.ac M.cs.length A.cc M.cs W rfl Z.len.cs z.sl.cs) ?_;rintro W1 e W2 h1 ⟨a',c',rfl,o2,k2⟩;refine ⟨_,0,rfl,fi a4,?_⟩;have hz2:Tz B g w0 M A d W1.heap.size a' c' M.cs W2:=⟨h1.below k2,h1.fam.below k2,o2,h1.le,k2.size,h1.glt⟩;obtain ⟨b,rfl,_⟩:=hz2.at_ G;have cc:∀ W,Tz B g w0 M A d W1.heap.size (some ⟨b,0,none⟩) c' M.cs W->W.cell? ⟨b,0+(21:Int).toNat,none⟩=some (.u (M.cs.getD 21 0))/\W.frozen? ⟨b,0+(21:Int).toNat,none⟩=false:=λW z=>by obtain ⟨b',hb',P⟩:=z.at_ G;cases hb';exact P 21 ab
   refine aK (Tz B g w0 M A d W1.heap.size (some ⟨b,0,none⟩) c' M.cs) ?_;refine ae (Tz.eng (dr:=false)) {ov:=[(35,pe (b:=b) (o:=0) M.cs.length c' .i64 21 rfl ⟨ab,ab⟩ underlying23 a4),(36,jk ⟨b,0+(21:Int).toNat,none⟩ (.u (M.cs.getD 21 0)) underlying22 rfl (λW z=>(cc W z).1)),(38,pe (b:=b) (o:=0) M.cs.length c' .i64 21 rfl ⟨ab,ab⟩ underlying23 a4)]} 40 hz2 λW3 hz3=>?_;refine bx (lV (T:=22) (v:=.u (Uz.wrap (M.cs.getD 21 0+1))) (cc W3 hz3) a4 rfl) ?_;have c:=hz3.set 21 (Uz.wrap (M.cs.getD 21 0+1));have E:(M.cs.set 21 (Uz.wrap (M.cs.getD 21 0+1))).length=22:=(by rw [List.length_set];exact G);have Q:br 22 (M.cs.set 21 (Uz.wrap (M.cs.getD 21 0+1)))=true:=cE M.cs G hcs 21 ab _ (beq_self_eq_true _);have lU:∀ j,U ((M.cs.set 21 (Uz.wrap (M.cs.getD 21 0+1))).getD j 0):=jz _ uc 21 _ (bI _);have l9:(M.cs.set 21 (Uz.wrap (M.cs.getD 21 0+1))).getD 9 0=M.cs.getD 9 0:=jT _ 21 9 _ ab;have ll:M.cs.length=(M.cs.set 21 (Uz.wrap (M.cs.getD 21 0+1))).length:=(by rw [List.length_set]);have I:aX M i.rd old (Uz.wrap (M.pc+4))=iP (aX M i.rd old (Uz.wrap (M.pc+4))) (M.cs.set 21 (Uz.wrap (M.cs.getD 21 0+1))):=rfl;refine aP (R:=[]) trivial {} 1 ?_;refine an [.code (ay 4 (aW Tryz.f180))] [(0,.p g 0,1),(2,.u old,0),(3,.bool true,0),(4,.slice (some ⟨b,0,none⟩) M.cs.length c',0)] ?_;rw [ll];rw [I] at f;generalize M.cs.set 21 (Uz.wrap (M.cs.getD 21 0+1))=l at *;clear I ll;have write:∀ (S:World->Prop),dN i=true->Wg prog S (bodyPost prog Tryz.f180 (TR B g w0 (Pf true V i))) Tryz.f180.ntmps [.code (ay 1 (SZ (ay 1 (iZ (ay 4 (aW Tryz.f180)))))),.blk 0,.code (ay 5 (aW Tryz.f180))] [(0,.p g 0,1),(2,.u old,0),(3,.bool true,0),(4,.slice (some ⟨b,0,none⟩) l.length c',0)] (W3.setCell ⟨b,21,none⟩ (.u (Uz.wrap (M.cs.getD 21 0+1)))):=by
    intro S u;rw [u,Bool.true_and,if_pos rfl] at f;obtain ⟨a,r⟩:∃ a:TV,a={d with wr:=true}:=⟨_,rfl⟩;have xup:a.up=false:=(by rw [r];exact L);have xra:a.ra=i.a:=(by rw [r];exact n);have xrd:a.rd=i.rd:=(by rw [r];exact s);have xfm:a.fm=dY i.op:=(by rw [r];exact C);have xnx:a.nx=Uz.wrap (M.pc+4):=(by rw [r];exact K);have xwd:a.wd=wd:=(by rw [r];exact hwd);have xop:a.op=i.op:=(by rw [r];exact m);have xim:a.im=i.imm:=(by rw [r];exact him);refine aK (λ_=>True) ?_;refine pF (R1:=[⟨g,bz M A {d with wr:=true},[]⟩]) (Iv.one c.q.row) {} 8 λW5 h5=>?_;rw [<- r] at h5;have hz5:=c.iv h5;clear r;have hwo:=λW (z:Tz B g w0 M A a W1.heap.size (some ⟨b,0,none⟩) c' l W)=>I6 old z.q h32 (by rw [xra];exact hi.a0) (by rw [xra];exact hi.a31) (by rw [xop];exact ⟨h87,h92⟩);rw [xop,xra,<- hX] at hwo;have ux:U (tw i (M.x.getD i.a.toNat 0) old):=by
     have hga:U (lM i (M.x.getD i.a.toNat 0)):=(by unfold lM;split;exact bI _;exact ua);unfold tw;split;·exact aj _ _ _
     ·split;·exact aj _ _ _
      ·exact hga
    clear hX;generalize tw i (M.x.getD i.a.toNat 0) old=x at *;have N:=λW (z:Tz B g w0 M A a W1.heap.size (some ⟨b,0,none⟩) c' l W)=>rq (some ⟨b,0,none⟩) l.length c' l i.imm M.pr x W rfl (gj z.o) lU ux.1 ux.2;rw [Ib _ _ rfl lU _ _ _ ux,xD _ _ lU] at N;have ewo:CI l.length l i.imm M.pr=!((wrap64 (i.imm.tdiv 1024)).tmod 4==3):=by
     unfold CI;have:jt l.length l i.imm M.pr=true:=by unfold jt at t ⊢;rw [G] at t;rw [E,Q];rw [hcs] at t;exact t
     rw [this,Bool.true_and]
    rw [ewo] at N;unfold CJ at N;rw [ewo] at N;refine aK (Tz B g w0 M A a W1.heap.size (some ⟨b,0,none⟩) c' l) ?_;refine aN (Tz.eng (dr:=true)) {eq:=[(64,cZ .i64 xim)],cv:=[(72,Tv hwo)]} 60 hz5 N ?_;rintro W6 e W7 h6 ⟨X,Y,rfl,o7,k7⟩;refine ⟨_,0,rfl,λ_=>h6.below k7,?_⟩;have h7:=h6.below k7;cases hro:((wrap64 (i.imm.tdiv 1024)).tmod 4==3) with
    | true =>rw [hro,if_pos rfl] at f;refine ae (Tz.eng (dr:=true)) {} 7 h7 λW8 h8=>?_;refine an [.code (ay 5 (aW Tryz.f180))] [(0,.p g 0,1),(3,.bool false,0)] ?_;exact bad _ a xwd xrd xfm f.symm {} _ _ W8 h8.q a4 a4 a4 a4 (λ_=>a4)
    | false =>rw [hro,if_neg a6] at f;rw [hro] at o7;have o8:W7.ownsRow W6.heap.size 22 1 (.slice X (bM l i.imm x).length Y) (bM l i.imm x).length ((bM l i.imm x).map (Value.int .u64)):=o7;have gw:Gd (iP M (bM l i.imm x)):=(by have g1:Gd (iP M l):=Z.cs_ E Q lU (by rw [l9]);exact g1.cs_ (M:=iP M l) (by rw [pA];exact E) (sC _ E lU Q _ _ ux hkn) (Fy _ lU _ _ ux) (Gh _ E _ _));generalize bM l i.imm x=l3 at *;have hz7:Tz B g w0 M A a W6.heap.size X Y l3 W7:=⟨h7.q,h6.q.fam.below k7,o8,h6.q.le,k7.size,h6.q.glt⟩;refine ae (Tz.eng2 (dr:=true)) {} 7 ⟨h7,hz7⟩ λW8 h8=>?_;exact an _ _ (fin _ _ X Y l3 a W8 h8.2 xrd xfm xup xnx gw f)
   have g0:Gd (iP M l):=Z.cs_ E Q lU (by rw [l9]);by_cases O:i.a=0
   ·obtain e|e|e|e|e|e:i.op=87\/i.op=90\/i.op=88\/i.op=89\/i.op=91\/i.op=92:=ab;·refine aP (R:=[⟨g,bz M A d,[]⟩]) ⟨c.q.row.in_,trivial⟩ {eq:=[(43,cZ .i64 (m.trans e))]} 41 ?_;exact an _ _ (write _ (by unfold dN;rw [e];rfl))
    ·refine aP (R:=[⟨g,bz M A d,[]⟩]) ⟨c.q.row.in_,trivial⟩ {eq:=[(43,cZ .i64 (m.trans e))]} 41 ?_;exact an _ _ (write _ (by unfold dN;rw [e];rfl))
    ·refine aP (R:=[⟨g,bz M A d,[]⟩]) ⟨c.q.row.in_,trivial⟩ {eq:=[(43,cZ .i64 (m.trans e)),(53,cZ .i64 (n.trans O))]} 36 ?_;exact a0x
    ·refine aP (R:=[⟨g,bz M A d,[]⟩]) ⟨c.q.row.in_,trivial⟩ {eq:=[(43,cZ .i64 (m.trans e)),(53,cZ .i64 (n.trans O))]} 42 ?_;exact a0x
    ·refine aP (R:=[⟨g,bz M A d,[]⟩]) ⟨c.q.row.in_,trivial⟩ {eq:=[(43,cZ .i64 (m.trans e)),(53,cZ .i64 (n.trans O))]} 48 ?_;exact a0x
    ·refine aP (R:=[⟨g,bz M A d,[]⟩]) ⟨c.q.row.in_,trivial⟩ {eq:=[(43,cZ .i64 (m.trans e)),(53,cZ .i64 (n.trans O))]} 51 ?_;exact a0x
   ·have nA:(i.a==0)=false:=(by simpa using O);have u:dN i=true:=(by unfold dN;rw [bne,nA];simp);obtain e|e|e|e|e|e:i.op=87\/i.op=90\/i.op=88\/i.op=89\/i.op=91\/i.op=92:=ab;·refine aP (R:=[⟨g,bz M A d,[]⟩]) ⟨c.q.row.in_,trivial⟩ {eq:=[(43,cZ .i64 (m.trans e)),(53,cZ .i64 n),(54,af nA)]} 41 ?_;exact an _ _ (write _ u)
    ·refine aP (R:=[⟨g,bz M A d,[]⟩]) ⟨c.q.row.in_,trivial⟩ {eq:=[(43,cZ .i64 (m.trans e)),(53,cZ .i64 n),(54,af nA)]} 41 ?_;exact an _ _ (write _ u)
    ·refine aP (R:=[⟨g,bz M A d,[]⟩]) ⟨c.q.row.in_,trivial⟩ {eq:=[(43,cZ .i64 (m.trans e)),(53,cZ .i64 n),(54,af nA)]} 37 ?_;exact an _ _ (write _ u)
    ·refine aP (R:=[⟨g,bz M A d,[]⟩]) ⟨c.q.row.in_,trivial⟩ {eq:=[(43,cZ .i64 (m.trans e)),(53,cZ .i64 n),(54,af nA)]} 43 ?_;exact an _ _ (write _ u)
    ·refine aP (R:=[⟨g,bz M A d,[]⟩]) ⟨c.q.row.in_,trivial⟩ {eq:=[(43,cZ .i64 (m.trans e)),(53,cZ .i64 n),(54,af nA)]} 49 ?_;exact an _ _ (write _ u)
    ·refine aP (R:=[⟨g,bz M A d,[]⟩]) ⟨c.q.row.in_,trivial⟩ {eq:=[(43,cZ .i64 (m.trans e)),(53,cZ .i64 n),(54,af nA)]} 52 ?_;exact an _ _ (write _ u)
theorem Tz.engQ:oM d (Tq w A n B k F) (Tz w A n B k F K S l Q) [⟨A,bz B k F,[]⟩] dr (bodyPost d b j):=
 ⟨λ_ h=>h.q,λW h r a=>by rw [List.mem_singleton] at a;subst a;exact h.row.in_,λ_ W h=>h.below (Below.refl _ _).drew,cL⟩
theorem Iv.cell (h:Iv [g] n [⟨g,m,[]⟩] a) (i:Nat) (v:Value):Iv [g] n [⟨g,m.setIfInBounds i v,[]⟩] (a.setCell ⟨g,i,none⟩ v):=by obtain ⟨T,b⟩:=h.row1;refine ⟨λr W=>by rw [List.mem_singleton] at W;subst W;exact ⟨T,bC b i v⟩,h.ag.trans (yq bc a i v),λr W=>by rw [List.mem_singleton] at W;subst W;simp,bc⟩
theorem Gu (h:Tq w A n B k F a) (q:Gd B) (M:Nat) (hk:M<16) (i:Bool) (v:Int):Calls prog 112 #[.p A 0,.i M,.bool i,.u v] a λe w'=>e=.returned (.tuple #[])/\∃ A',Tq w A n (aM B M i v) A' F w':=by
 have j:be B.cs.length B.cs B.pr=true:=(cP q.ok).2.2.1;have f:=λW (C:Tq w A n B k F W)=>xa k.ac B.cs.length k.cc B.cs B.pr B.pc M i v W rfl C.sl.cs q.mw.cs;have d:zI B.cs.length B.cs B.pr M=true:=by unfold zI;rw [j];unfold Si;simp;omega
 have g:rN B.cs.length B.cs B.pr B.pc M i v=(aM B M i v).cs:=by unfold rN;rw [d];rfl
 have o:Eo B.cs.length B.cs B.pr M i=(aM B M i v).pr:=by unfold Eo;rw [d];rfl
 have p:Ep B.cs.length B.cs B.pr M i=(aM B M i v).pc:=by unfold Ep;rw [d];rfl
 rw [g,o,p,d] at f;have c:(aM B M i v).x=B.x/\(aM B M i v).cs=(aM B M i v).cs/\(aM B M i v).ram=B.ram/\(aM B M i v).d=B.d/\(aM B M i v).hd=B.hd/\(aM B M i v).hl=B.hl/\(aM B M i v).wt=B.wt:=⟨rfl,rfl,rfl,rfl,rfl,rfl,rfl⟩;generalize aM B M i v=N at *;clear g o p d j;refine fj (args:=[.p A 0,.i M,.bool i,.u v]) (Tq w A n B k F) func112 ?_;refine aL 0 1 ?_;refine mq 26 ?_;refine aN (Tq.eng (dr:=true)) {} 100 (h.below (Below.refl _ _).drew) f ?_;rintro x e y b ⟨a',c',rfl,L,l⟩;refine ⟨_,0,rfl,λ_=>b.below l,?_⟩;have m:Tz w A n B k F x.heap.size a' c' N.cs y:=⟨b.below l,b.fam.below l,L,b.le,l.size,b.glt⟩;refine ae (Tz.engQ (dr:=true)) {} 60 m λX w0=>?_;obtain ⟨S,O⟩:=w0.q.row;have D:=Iv.one w0.q.row;refine bx (cy (i:=3) (T:=23) (v:=.slice a' N.cs.length c') O (show 3<28 by decide) a4 rfl) ?_;have r:=D.cell 3 (.slice a' N.cs.length c');obtain ⟨U,P⟩:=r.row1;refine aK (λ_=>True) ?_;refine aP (R:=[]) trivial {} 2 ?_;refine bx (cy (i:=2) (T:=2) (v:=.i N.pr) P (by simp [bz]) a4 rfl) ?_;have s:=r.cell 2 (.i N.pr);obtain ⟨V,Q⟩:=s.row1;refine aP (R:=[]) trivial {} 2 ?_;refine bx (cy (i:=0) (T:=22) (v:=.u N.pc) Q (by simp [bz]) a4 rfl) ?_;have E:=s.cell 0 (.u N.pc);refine iG {} 40 a4 a4 rfl ⟨rfl,{k with ac:=a',cc:=c'},w0.csrs ⟨c.1,rfl,c.2.2.1,c.2.2.2.1⟩ (t':=F) ?_⟩;have z:bz N {k with ac:=a',cc:=c'} F=(((bz B k F).setIfInBounds 3 (.slice a' N.cs.length c')).setIfInBounds 2 (.i N.pr)).setIfInBounds 0 (.u N.pc):=by obtain ⟨I,Z,J,t,u,Y,G,H,K⟩:=N;dsimp only at c ⊢;obtain ⟨rfl,_,rfl,rfl,rfl,rfl,rfl⟩:=c;rfl
 rw [z];exact E
theorem EK (h:bN c=true):IntKind.i64.wrap (8+c)=((oJ c:Nat):Int)/\oJ c<16:=by
 have:c=0\/c=1\/c=3:=by simpa [bN,or_assoc] using h
 rcases this with rfl|rfl|rfl<;>exact ⟨by rw [IntKind.wrap_i64];rfl,a6⟩
theorem Mv (wd:Int) (N:jJ o) (K:93<=o.op) (h:Tq w A a B k (t0 B o wd) P) (g:Gd B) (x:B.wt=false): Calls prog 181 #[.p A 0] P (TR w A a (Pf false (kC B o wd) o)):=by
 obtain ⟨l,d,f,_,_,_⟩:=aI g.ok;have u:be B.cs.length B.cs B.pr=true:=(cP g.ok).2.2.1;have O:=N.op98;by_cases j:o.op=93;·refine (LD h.row j).mono λe w' ⟨c,M⟩=>⟨c,B,k,_,⟨?_,g,rfl,rfl,λ_=>⟨_,(EK f).2,(EK f).1⟩⟩,h.iv M rfl⟩;rw [iL rfl (EK f).1];unfold kC;rw [if_pos j]
 by_cases p:o.op=94;·refine (IF h.row p).mono λe w' ⟨c,M⟩=>⟨c,B,k,_,⟨?_,g,rfl,rfl,λ_=>⟨3,a6,rfl⟩⟩,h.iv M rfl⟩;rw [iL (k:=3) rfl rfl];unfold kC;rw [if_neg j,if_pos p]
 by_cases r:o.op=95\/o.op=96
 ·have L:=λW (m:Iv [A] P [⟨A,bz B k (t0 B o wd),[]⟩] W)=>Og (jK B.cs.length B.cs B.pr (o.op==96)) (qM B.cs.length B.cs B.pr (o.op==96)) (qN B.cs.length B.cs B.pr (o.op==96)) (lL B.cs.length B.cs B.pr (o.op==96)) (h.iv m rfl).row (λE t=>(wZ k.ac B.cs.length k.cc B.cs B.pr (o.op==96) E rfl ((h.iv m rfl).iv t rfl).sl.cs g.mw.cs).mono λe w' ⟨Q,R,S,T,U⟩=>⟨Q,R,S,λ_=>T,U⟩);refine (IG h.row r L (λW e w' m v=>v.1)).mono λe w' ⟨c,W,m,v⟩=>⟨c,?_⟩;have D:=h.iv m rfl;have b:=v.2;have s:kC B o wd=if lL B.cs.length B.cs B.pr (o.op==96)=true then (aX (gB (iP B (B.cs.set 0 (cH (B.cs.getD 0 0) (o.op==96)))) (cW (B.cs.getD 0 0) (o.op==96))) 0 0 (dV B.cs (o.op==96)),1) else (aM B 2 false wd,2):=by unfold kC lL;rw [if_neg j,if_neg p,if_pos r,u];cases (o.op==96)<;>cases (B.pr != 3)<;>cases (B.pr==0)<;>rfl
  rw [s];cases n:lL B.cs.length B.cs B.pr (o.op==96) with
  | true =>rw [n,if_pos rfl] at b;obtain ⟨a',c',M,i⟩:=b;have y:jK B.cs.length B.cs B.pr (o.op==96)=B.cs.set 0 (cH (B.cs.getD 0 0) (o.op==96)):=(by unfold jK;rw [n]);have H:qM B.cs.length B.cs B.pr (o.op==96)=cW (B.cs.getD 0 0) (o.op==96):=(by unfold qM;rw [n]);have G:qN B.cs.length B.cs B.pr (o.op==96)=dV B.cs (o.op==96):=(by unfold qN;rw [n]);rw [y,H,G] at M;rw [y] at i;have I:Gd (iP B (B.cs.set 0 (cH (B.cs.getD 0 0) (o.op==96)))):=g.cs_ (by rw [List.length_set];exact l) (cE _ l d 0 ab _ (Ci _ (g.mw.cs 0) _ (dX d 0 ab))) (jz _ g.mw.cs 0 _ (qO _ _)) (by rw [jT _ 0 9 _ ab]);have J:=I.priv (vJ _ (g.mw.cs 0) (dX d 0 ab) (o.op==96));have w0:=D.csrs (M':=gB (iP B (B.cs.set 0 (cH (B.cs.getD 0 0) (o.op==96)))) (cW (B.cs.getD 0 0) (o.op==96))) ⟨rfl,rfl,rfl,rfl⟩ M i;refine ⟨_,_,_,⟨?_,J,rfl,rfl,λe=>x8⟩,w0⟩;rw [if_pos rfl,je rfl];exact congrArg (λz=>(z,(1:Int))) (kW (M:=gB (iP B (B.cs.set 0 (cH (B.cs.getD 0 0) (o.op==96)))) (cW (B.cs.getD 0 0) (o.op==96))) (rd:=o.rd) (to:=dV B.cs (o.op==96)))
  | false =>rw [n,if_neg a6] at b;refine ⟨B,k,_,⟨?_,g,rfl,rfl,λ_=>⟨2,a6,rfl⟩⟩,D.iv b rfl⟩;rw [if_neg a6,iL (k:=2) rfl rfl];rfl
 ·refine (LE h.row (show o.op=97\/o.op=98 by omega)).mono λe w' ⟨c,M⟩=>⟨c,?_⟩;have s:kC B o wd=if (B.pr==0)=true then (aM B 2 false wd,2) else (aX {B with wt:=o.op==97} 0 0 (Uz.wrap (B.pc+4)),1):=by
   unfold kC;rw [if_neg j,if_neg p,if_neg r];by_cases q:o.op=97;·rw [if_pos q,show (o.op==97)=true by simpa using q];rfl
   ·have e:(o.op==97)=false:=(by simpa using q);have F:({B with wt:=false}:MV)=B:=(by rw [<- x]);rw [if_neg q,e,F]
  rw [s];cases C:(B.pr==0) with
  | true =>rw [C,if_pos rfl] at M;refine ⟨B,k,_,⟨?_,g,rfl,rfl,λ_=>⟨2,a6,rfl⟩⟩,h.iv M rfl⟩;rw [if_pos rfl,iL (k:=2) rfl rfl];rfl
  | false =>rw [C,if_neg a6] at M;refine ⟨{B with wt:=o.op==97},k,_,⟨?_,g.wait _,rfl,rfl,λe=>x8⟩,h.iv M rfl⟩;rw [if_neg a6,je rfl];exact congrArg (λz=>(z,(1:Int))) (kW (M:={B with wt:=o.op==97}) (rd:=o.rd))
section
variable {B g K : Nat} {w0 w w' W : World} {M M' : MV} {A A' : MA} {t t' : TV}
inductive Fo:Bool->Value->Prop
 | s (v:Value):Fo false (.iface 203 v)
 | j (v:Value):Fo false (.iface 204 v)
 | l (v:Value):Fo false (.iface 208 v)
 | t (v:Value):Fo false (.iface 210 v)
 | h (v:Value):Fo false (.iface 212 v)
 | c (v:Value):Fo false (.iface 213 v)
 | a (v:Value):Fo false (.iface 214 v)
 | f (v:Value):Fo false (.iface 215 v)
 | y (v:Value):Fo false (.iface 217 v)
 | r:Fo true (.iface 216 (.agg #[]))
theorem CC (op:Int):Fo (decide (87<=op/\op<=92)) (dY op):=by
 by_cases c:87<=op/\op<=92;·rw [decide_eq_true c];unfold dY;rw [if_neg ab,if_neg ab,if_neg ab,if_neg ab,if_neg ab,if_neg ab,if_neg ab,if_pos ab];exact .r
 ·rw [decide_eq_false c];unfold dY;split;·exact .s _
  split;·exact .j _
  split;·exact .l _
  split;·exact .t _
  split;·exact .s _
  split
  ·split;·exact .h _
   split;·exact .c _
   ·exact .a _
  split;·exact .f _
  split;·omega
  ·exact .y _
theorem Mw {cf:Bool} (s:Fo cf t.fm) (h:Tq B g w0 M A t w) (K:Gd M) (V:0<=t.rd) (O:t.rd<=31) (u:t.up=false):Calls prog 115 #[.p g 0] w λe w'=>e=.returned (.tuple #[])/\Tq B g w0 (tz cf M t).1 A t w':=by
 obtain ⟨n,P,Q,_,_,_⟩:=aI K.ok;have p:=K.x32;have fin:∀ (S:World->Prop) (N:MV) (W:World),Tq B g w0 N A t W->N.cs.length=22->(⟨t.nx,N.x,N.pr,if cf=true then N.cs else N.cs.set 21 (Uz.wrap (N.cs.getD 21 0+1)),N.ram,N.d,N.hd,N.hl,N.wt⟩:MV)=(tz cf M t).1->Wg prog S (bodyPost prog Tryz.f115 λe w'=>e=.returned (.tuple #[])/\Tq B g w0 (tz cf M t).1 A t w') Tryz.f115.ntmps [.code (ay 1 (aW Tryz.f115))] [(0,.p g 0,1)] W:=by
  intro S N W F n22 I;rw [<- I];clear I;refine aK (λ_=>True) ?_;refine pF (R1:=[⟨g,bz ⟨t.nx,N.x,N.pr,N.cs,N.ram,N.d,N.hd,N.hl,N.wt⟩ A t,[]⟩]) (Iv.one F.row) {} 12 λC l=>?_;have f:=F.iv l rfl;refine an [.code (ay 2 (aW Tryz.f115))] [(0,.p g 0,1)] ?_;obtain ⟨a,y⟩:∃ a:MV,a=⟨t.nx,N.x,N.pr,N.cs,N.ram,N.d,N.hd,N.hl,N.wt⟩:=⟨_,rfl⟩;rw [<- y] at f;have H:a.cs=N.cs:=(by rw [y]);have J:(⟨t.nx,N.x,N.pr,if cf=true then N.cs else N.cs.set 21 (Uz.wrap (N.cs.getD 21 0+1)),N.ram,N.d,N.hd,N.hl,N.wt⟩:MV)=if cf=true then a else cM a (a.cs.set 21 (Uz.wrap (a.cs.getD 21 0+1))):=by rw [y];cases cf<;>rfl
  rw [J];rw [<- H] at n22;clear y H J l F;obtain ⟨b,j,G,_⟩:=f.atC n22;have x:∀ W,Tq B g w0 a A t W->W.cell? ⟨b,0+(21:Int).toNat,none⟩=some (.u (a.cs.getD 21 0))/\W.frozen? ⟨b,0+(21:Int).toNat,none⟩=false:=λW k=>by obtain ⟨L,d,_,c⟩:=k.atC n22;rw [j] at d;cases d;exact c 21 ab
  have cnt:∀ (S:World->Prop) (W:World),Tq B g w0 a A t W->Wg prog S (bodyPost prog Tryz.f115 λe w'=>e=.returned (.tuple #[])/\Tq B g w0 (cM a (a.cs.set 21 (Uz.wrap (a.cs.getD 21 0+1)))) A t w') Tryz.f115.ntmps [.code (ay 3 (aW Tryz.f115))] [(0,.p g 0,1),(3,.bool false,0)] W:=(by intro S W k;refine aK (Tq B g w0 a A t) ?_;refine ae (Tq.eng (dr:=false)) {ov:=[(48,pe a.cs.length A.cc .i64 21 j ⟨ab,ab⟩ underlying23 a4),(49,jk ⟨b,0+(21:Int).toNat,none⟩ (.u (a.cs.getD 21 0)) underlying22 rfl (λW k=>(x W k).1)),(51,pe a.cs.length A.cc .i64 21 j ⟨ab,ab⟩ underlying23 a4)]} 40 k λD f=>?_;refine bx (lV (T:=22) (v:=.u (Uz.wrap (a.cs.getD 21 0+1))) (x D f) a4 rfl) ?_;exact iG {} 40 a4 a4 rfl ⟨rfl,f.setC j 21 (Uz.wrap (a.cs.getD 21 0+1))⟩);refine aK (Tq B g w0 a A t) ?_;generalize m:t.fm=U at s;cases s;case r =>refine ae (Tq.eng (dr:=false)) {eq:=[(37,⟨_,_,0,m⟩)]} 10 f λi o=>?_;refine fz 2 (cT (T:=216) (z:=.agg #[]) a4 i) ?_;refine bx (aD (g:=i.heap.size) (t:=216) (ty:=216) (old:=#[]) (cells:=#[]) (heap_alloc_new _ _) a4 rfl a4) ?_;have E:=o.below (aR ((Below.refl i.heap.size i).alloc (Nat.le_refl _) (.cells (Value.agg #[]).cells 216)) (Nat.le_refl _) #[]);exact iG {} 40 a4 a4 rfl ⟨rfl,E⟩
  all_goals
   refine ae (Tq.eng (dr:=false)) {eq:=[(37,⟨_,_,0,m⟩)]} 10 f λi o=>?_
   refine fz 2 (cT (T:=216) (z:=.agg #[]) a4 i) ?_
   refine bx (aD (g:=i.heap.size) (t:=216) (ty:=216) (old:=#[]) (cells:=#[]) (heap_alloc_new _ _) a4 rfl a4) ?_
   have E:=o.below (aR ((Below.refl i.heap.size i).alloc (Nat.le_refl _) (.cells (Value.agg #[]).cells 216)) (Nat.le_refl _) #[])
   refine aP (R:=[]) trivial {} 2 ?_
   exact an _ _ (cnt _ _ E)
 refine fj (args:=[.p g 0]) (Tq B g w0 M A t) func115 ?_;refine aL 0 1 ?_;by_cases e:t.rd=0;·have q:(t.rd != 0)=false:=(by simpa using e);refine ae (Tq.eng (dr:=false)) {eq:=[(9,af q)]} 12 h λC l=>?_;refine an _ _ (fin _ M C l n ?_);unfold tz;rw [u,if_pos e];rfl
 ·have q:(t.rd != 0)=true:=(by simpa using e);obtain ⟨b,j,G,_⟩:=h.atX p;have x:∀ W,Tq B g w0 M A t W->W.cell? ⟨b,0+t.rd.toNat,none⟩=some (.u (M.x.getD (0+t.rd.toNat) 0))/\W.frozen? ⟨b,0+t.rd.toNat,none⟩=false:=λW k=>by obtain ⟨L,d,_,c⟩:=k.atX p;rw [j] at d;cases d;exact c (0+t.rd.toNat) ab
  refine ae (Tq.eng (dr:=false)) {eq:=[(9,af q)]} 12 h λC l=>?_;refine yU ?_;refine ae (Tq.eng (dr:=true)) {ov:=[(24,pe M.x.length A.cx .i64 t.rd j ⟨ab,ab⟩ underlying23 a4)]} 40 (l.below (Below.refl _ _).drew) λD f=>?_;refine bx (lV (T:=22) (v:=.u t.rs) (x D f) a4 rfl) ?_;have o:=f.setX j (0+t.rd.toNat) t.rs;refine aP (R:=[]) trivial {} 1 ?_;refine an _ _ (fin _ _ _ o n ?_);unfold tz;rw [u,if_neg e,Nat.zero_add];rfl
def tS:TV:=⟨.func (.func 50) #[] #[],0,0,0,0,0,0,.nilIface,0,0,false,false,0,0⟩
def QQ (M:MV) (q:Int × MV × Int):TV :=
 if (q.2.2 != 0)=true then nz tS q M.pc else match F4 q.1 with
  | none=>{tS with wd:=q.1,up:=true,cz:=2,vl:=q.1}
  | some i=>t0 q.2.1 i q.1
theorem OO (h:Tq B g w0 M A tS w) (z:Gd M) (hd:Ud M.d):Calls prog 113 #[.p g 0] w λe w'=>e=.returned (.tuple #[])/\∃ C,Tq B g w0 (aC M M.pc 4 1 0).2.1 C (QQ M (aC M M.pc 4 1 0)) w':=by
 have J:=λW (h:Tq B g w0 M A tS W)=>Mt h z rfl M.pc 4 1 0 a6 a6 a6 (λ_=>rfl) z.pc lN;have Q:=sU z hd M.pc 4 ab 1 0;have ga:=z.acc M.pc 4 1 0;rw [show ((4:Nat):Int)=4 from rfl] at Q;unfold QQ;generalize aC M M.pc 4 1 0=X at *;obtain ⟨y,N,c⟩:=X;dsimp only at *;refine fj (args:=[.p g 0]) (Tq B g w0 M A tS) func113 ?_;refine aL 0 1 ?_;refine aN (Tq.eng (dr:=true)) {} 60 h J ?_;rintro W1 e W2 h1 ⟨C,rfl,l⟩;refine ⟨_,0,rfl,fi a4,?_⟩;cases hc:(c != 0) with
 | true =>rw [if_pos rfl];exact jv (R:=[]) trivial {} 40 λa _=>⟨_,results_none rfl _ _ _,rfl,C,l⟩
 | false =>
   rw [if_neg a6];unfold nz at l;dsimp only at l;rw [hc,if_neg a6] at l;refine aK (λ_=>True) ?_;have d:=λW=>vq y Q.1 Q.2 W;unfold mN at d;cases K:F4 y with
   | none =>simp only [K] at d;refine gn (R1:=[⟨g,bz N C {tS with wd:=y},[]⟩]) (Iv.one l.row) {} 60 (λW _=>d W) ?_;rintro W3 e W4 G ⟨rfl,L⟩;refine ⟨_,0,rfl,?_⟩;have s:=(l.iv G rfl).below L;refine gn (R1:=[⟨g,bz N C {tS with wd:=y},[]⟩]) (Iv.one s.row) {} 60 (λW I=>oU I.row1) ?_;rintro W5 e W6 H ⟨rfl,O⟩;refine ⟨_,0,rfl,?_⟩;have x:=(s.iv H rfl).iv O rfl;exact jv (R:=[]) trivial {} 40 λa _=>⟨_,results_none rfl _ _ _,rfl,C,x⟩
   | some i =>
     simp only [K] at d;have p:=zA K;have u:=λW=>EF i.op p.op1 p.op98 W;obtain ⟨D,E,U⟩:∃ D E,dY i.op=.iface D E:=(by obtain ⟨S,q⟩:∃ S,Fo S (dY i.op):=⟨_,CC i.op⟩;generalize dY i.op=f at q;cases q<;>exact ⟨_,_,rfl⟩);rw [U] at u;refine gn (R1:=[⟨g,bz N C {tS with wd:=y},[]⟩]) (Iv.one l.row) {} 60 (λW _=>d W) ?_;rintro W3 e W4 G ⟨rfl,L⟩;refine ⟨_,0,rfl,?_⟩;have s:=(l.iv G rfl).below L;refine gn (R1:=[⟨g,bz N C {tS with wd:=y,op:=i.op,rd:=i.rd,ra:=i.a,rb:=i.b,im:=i.imm},[]⟩]) (Iv.one s.row) {} 60 (λW _=>u W) ?_;rintro W5 e W6 H ⟨rfl,O⟩;refine ⟨_,0,rfl,?_⟩;have x:=(s.iv H rfl).below O;obtain ⟨o,m⟩:∃ o:TV,o={tS with wd:=y,op:=i.op,rd:=i.rd,ra:=i.a,rb:=i.b,im:=i.imm,fm:=.iface D E}:=⟨_,rfl⟩;have F:o.rd=i.rd:=(by rw [m]);have n32:=ga.x32;refine pF (R1:=[⟨g,bz N C {tS with wd:=y,op:=i.op,rd:=i.rd,ra:=i.a,rb:=i.b,im:=i.imm,fm:=.iface D E},[]⟩]) (Iv.one x.row) {} 4 λW7 V=>?_;rw [<- m] at V;have Y:=x.iv V rfl;refine an [.code (ay 6 (aW Tryz.f113))] [(0,.p g 0,1)] ?_;obtain ⟨b,Z,hne,_⟩:=Y.atX n32;have cc:∀ W,Tq B g w0 N C o W->W.cell? ⟨b,0+i.rd.toNat,none⟩=some (.u (N.x.getD (0+i.rd.toNat) 0)):=λW I=>by obtain ⟨b',t,_,k⟩:=I.atX n32;rw [Z] at t;cases t;have:=p.rd0;have:=p.rd31;exact (k (0+i.rd.toNat) ab).1
     refine aK (Tq B g w0 N C o) ?_;refine ae (Tq.eng (dr:=false)) {} 1 Y λW9 h9=>?_;refine mq 15 ?_;refine ae (Tq.eng (dr:=true)) {eq:=[(51,cZ .i64 F)],ov:=[(52,pe N.x.length C.cx .i64 i.rd Z ⟨p.rd0,by have:=p.rd31;omega⟩ underlying23 a4),(53,jk ⟨b,0+i.rd.toNat,none⟩ (.u (N.x.getD (0+i.rd.toNat) 0)) underlying22 rfl cc)]} 40 (h9.below (Below.refl _ _).drew) λW10 n=>?_;obtain ⟨T10,P⟩:=n.row;refine bx (cy (i:=22) (T:=22) (v:=.u (N.x.getD (0+i.rd.toNat) 0)) P (show 22<28 by decide) a4 rfl) ?_;have r:Tq B g w0 N C {o with rs:=N.x.getD (0+i.rd.toNat) 0} _:=n.iv ((Iv.one n.row).cell 22 (.u (N.x.getD (0+i.rd.toNat) 0))) rfl;refine aK (λ_=>True) ?_;refine aP (R:=[]) trivial {} 1 ?_;refine an [.code (ay 7 (aW Tryz.f113))] [(0,.p g 0,1)] ?_;refine gp (R1:=[⟨g,bz N C {o with rs:=N.x.getD (0+i.rd.toNat) 0,nx:=Uz.wrap (N.pc+4)},[]⟩]) (Iv.one r.row) {} 60 λW11 j=>⟨rfl,C,?_⟩;have j:=r.iv j rfl;rw [m,Nat.zero_add,<- U] at j;exact j
end
theorem xY (h:U c):(cQ c 1 1==1)=(bits .and .u64 c 2 != 0):=by
 rw [Oq c 1 h];cases a:bt c 1 with
 | true =>
   rw [if_pos rfl];have:bits .and .u64 c 2≠0:=λe=>by have q:=az c 2 1;rw [e,a] at q;exact absurd q a6
   simp [this]
 | false =>
   rw [if_neg a6];have:bits .and .u64 c 2=0:=by refine bu _ _ (aj _ _ _) lN λi b=>?_;rw [az];have key:∀ j,j<64->∀ x:Bool,(j=1->x=false)->(x&&bt 2 j)=bt 0 j:=bb;exact key i b _ (λe=>by rw [e];exact a)
   simp [this]
theorem zY (d:U c) (f:Gd B) (to:F.up=false) (b:F.rd=X.rd) (a:F.fm=dY X.op) {rd:Int} (hx:aX B F.rd F.rs c=aX B rd x c):Pf false (if (bits .and .u64 c 2 != 0)=true then (aM B 0 false c,2) else (aX B rd x c,1)) X B (qr F c):=by
 unfold qr;rw [xY d];cases g:(bits .and .u64 c 2 != 0) with
 | true =>rw [if_pos rfl,if_pos rfl];exact ⟨iL (k:=0) rfl rfl,f,b,a,λ_=>⟨0,a6,rfl⟩⟩
 | false =>rw [if_neg a6,if_neg a6];refine ⟨?_,f,b,a,λe=>by rw [show TV.up {F with nx:=c}=F.up from rfl,to] at e;cases e⟩;rw [je (t:={F with nx:=c}) to,<- hx]
theorem QR {g:MA} (i:jJ o) (E:3<=o.op) (p:o.op<=10) (h:Tq w A a B g (t0 B o q) P) (d:Gd B): Calls prog 171 #[.p A 0] P (TR w A a (Pf false (pw B o (B.x.getD o.a.toNat 0) (B.x.getD o.b.toNat 0) (Uz.wrap o.imm)) o)):=by
 have w0:=d.x32;obtain ⟨b,s,l,t⟩:=h.atX w0;have m:=i.a0;have C:=i.a31;have wd:=i.b0;have D:=i.b31;have r:=(t (0+o.a.toNat) ab).1;have v:=(t (0+o.b.toNat) ab).1;unfold pw;by_cases u:o.op=3;·refine (H5 h.row u).mono λe w' ⟨f,k⟩=>⟨f,B,g,_,?_,h.iv k rfl⟩;have c:fG B o (B.x.getD o.a.toNat 0) (B.x.getD o.b.toNat 0) (Uz.wrap o.imm)=Uz.wrap (B.pc+Uz.wrap o.imm):=(by unfold fG;rw [if_neg ab,decide_eq_false ab];rfl);rw [c,if_neg (show ¬ 4<o.op by omega)];exact zY (bI _) d rfl rfl rfl rfl
 by_cases n:o.op=4;·have:=Kb h.row n s ⟨m,show o.a<(B.x.length:Int) by rw [w0];omega⟩ l r;rw [Nat.zero_add] at this;refine this.mono λe w' ⟨f,k⟩=>⟨f,B,g,_,?_,h.iv k rfl⟩;have c:fG B o (B.x.getD o.a.toNat 0) (B.x.getD o.b.toNat 0) (Uz.wrap o.imm)=bits .andNot .u64 (Uz.wrap (B.x.getD o.a.toNat 0+Uz.wrap o.imm)) 1:=(by unfold fG;rw [if_pos n]);rw [c,if_neg (show ¬ 4<o.op by omega)];exact zY (aj _ _ _) d rfl rfl rfl rfl
 ·have:=Bp h.row (show 5<=o.op by omega) p s ⟨m,show o.a<(B.x.length:Int) by rw [w0];omega⟩ ⟨wd,show o.b<(B.x.length:Int) by rw [w0];omega⟩ l r v;rw [Nat.zero_add,Nat.zero_add] at this;refine this.mono λe w' ⟨f,k⟩=>⟨f,B,g,_,?_,h.iv k rfl⟩;rw [if_pos (show 4<o.op by omega)];show Pf _ _ _ _ (if I9 o.op (B.x.getD o.a.toNat 0) (B.x.getD o.b.toNat 0)=true then qr (t0 B o q) (Uz.wrap (B.pc+Uz.wrap o.imm)) else t0 B o q);cases j:I9 o.op (B.x.getD o.a.toNat 0) (B.x.getD o.b.toNat 0) with
  | true =>have c:fG B o (B.x.getD o.a.toNat 0) (B.x.getD o.b.toNat 0) (Uz.wrap o.imm)=Uz.wrap (B.pc+Uz.wrap o.imm):=(by unfold fG;rw [if_neg n,decide_eq_true (show 4<o.op by omega),j];rfl);rw [c,if_pos rfl];exact zY (x:=Uz.wrap (B.pc+4)) (rd:=0) (bI _) d rfl rfl rfl kW
  | false =>have c:fG B o (B.x.getD o.a.toNat 0) (B.x.getD o.b.toNat 0) (Uz.wrap o.imm)=Uz.wrap (B.pc+4):=(by unfold fG;rw [if_neg n,decide_eq_true (show 4<o.op by omega),j];rfl);have y:(bits .and .u64 (Uz.wrap (B.pc+4)) 2 != 0)=false:=(by rw [<- xY (bI _)];have:=d.al4;rw [IntKind.wrap_u64];simp [cQ];omega);rw [c,y,if_neg a6,if_neg a6];refine ⟨?_,d,rfl,rfl,λe=>x8⟩;rw [je rfl];exact congrArg (λz=>(z,(1:Int))) (kW (M:=B) (rd:=o.rd) (to:=Uz.wrap (B.pc+4)))
theorem OP (wd:Int) (d:Gd B) (n:Nat) (s:Bool) (a:Int) (hn:n=jF o.op) (hs:s=decide (o.op-11<4)):Pf false (mP B o a) o (aC B a n 2 0).2.1 (sP (t0 B o wd) (aC B a n 2 0) a n s):=by
 have f:mP B o a=if ((aC B a n 2 0).2.2 != 0)=true then cC (aC B a n 2 0) 0 a else (aX (aC B a n 2 0).2.1 o.rd (if s=true then av (8*n) (aC B a n 2 0).1 else (aC B a n 2 0).1) (Uz.wrap ((aC B a n 2 0).2.1.pc+4)),1):=by
  subst hn hs;unfold mP;dsimp only;by_cases q:o.op-11<4;·rw [if_pos q,decide_eq_true q,if_pos rfl]
  ·rw [if_neg q,decide_eq_false q];rfl
 rw [f,(i8 B a n 2 0).1];have g:=d.acc a n 2 0;have c:=λb=>mT (cf:=false) (i:=o) (t:=t0 B o wd) (M:=B) (a:=a) (n:=n) (kind:=2) (x:=0) rfl d b rfl rfl;unfold sP;generalize aC B a n 2 0=X at *;cases b:(X.2.2 != 0) with
 | true=>rw [if_pos rfl,if_pos rfl];exact c b
 | false =>rw [if_neg (show ¬ (false=true) by decide),if_neg (show ¬ (false=true) by decide)];refine ⟨?_,g,rfl,rfl,λe=>x8⟩;rw [je rfl];rfl
theorem Mz (d:Gd B) (n:Nat) (a x:Int) (hn:n=2^(o.op-18).toNat):Pf false (nB B o a x) o (aC B a n 3 x).2.1 (nz (t0 B o q) (aC B a n 3 x) a):=by
 have h:nB B o a x=if ((aC B a n 3 x).2.2 != 0)=true then cC (aC B a n 3 x) 0 a else (aX (aC B a n 3 x).2.1 0 0 (Uz.wrap ((aC B a n 3 x).2.1.pc+4)),1):=by subst hn;rfl
 obtain ⟨f,g,_,_⟩:=i8 B a n 3 x;rw [h,f];have j:=d.acc a n 3 x;have c:=λb=>mT (cf:=false) (i:=o) (t:=t0 B o q) (M:=B) (a:=a) (n:=n) (kind:=3) (x:=x) rfl d b rfl rfl;generalize aC B a n 3 x=X at *;cases b:(X.2.2 != 0) with
 | true=>rw [if_pos rfl];exact c b
 | false =>rw [if_neg a6];unfold nz;rw [b,if_neg a6];refine ⟨?_,j,rfl,rfl,λe=>x8⟩;rw [je rfl];have:=kW (M:=X.2.1) (rd:=o.rd) (to:=Uz.wrap (B.pc+4));rw [g] at this;exact congrArg (λz=>(z,(1:Int))) this
theorem o9 (h:Tq w A n B k F a) (H:Hn prog (Tq w A n B k F) (Tq w A n B k F)) (c:∀ Q,Tq w A n B k F Q->Calls prog K m Q (TR w A n W)) (hn:iu f=true) (hx:((aY prog [⟨A,bz B k F,[]⟩] H l true 90 f p).1.1,I8 prog l (aY prog [⟨A,bz B k F,[]⟩] H l true 90 f p).1.2.2 (aY prog [⟨A,bz B k F,[]⟩] H l true 90 f p).1.2.1)=(false,some (K,m))) (he:(aY prog [⟨A,bz B k F,[]⟩] H l true 90 f p).2.map Prod.fst=(aY prog [⟨A,bz B k F,[]⟩] H l true 90 f p).2.map Prod.snd) (hb:(vP (aY prog [⟨A,bz B k F,[]⟩] H l true 90 f p).1.2.2 (aY prog [⟨A,bz B k F,[]⟩] H l true 90 f p).1.2.1,iu (nZ (aY prog [⟨A,bz B k F,[]⟩] H l true 90 f p).1.2.2 (aY prog [⟨A,bz B k F,[]⟩] H l true 90 f p).1.2.1))=(false,true)) (hy:∀ J:World->Prop,(λ(y:(Bool × List KI × Fr) × List (Oe × Oe))=>(y.1.1,iu y.1.2.1,y.1.2.1.isEmpty,y.2.map Prod.fst)) (aY prog [] ({}:Hn prog J J) l false 20 (nZ (aY prog [⟨A,bz B k F,[]⟩] H l true 90 f p).1.2.2 (aY prog [⟨A,bz B k F,[]⟩] H l true 90 f p).1.2.1) (pP (aY prog [⟨A,bz B k F,[]⟩] H l true 90 f p).1.2.2 (aY prog [⟨A,bz B k F,[]⟩] H l true 90 f p).1.2.1 (.tuple #[]) 0))=(false,true,true,[])) (hr:b.results=#[]):Wg prog e (bodyPost prog b (TR w A n W)) l f p a:=by simp only [Prod.mk.injEq] at hb;refine aK (Tq w A n B k F) (hn:=hn) ?_;refine aN (Tq.eng (dr:=true)) H 90 h c (hx:=hx) (he:=he) ?_;rintro j tt i g ⟨rfl,M',A',t',d,S⟩;refine ⟨_,0,rfl,fi hb.1,?_⟩;have M:=hy (λx=>x=i);simp only [Prod.mk.injEq] at M;refine iG {} 20 (by rw [hb.2,M.1,M.2.1,M.2.2.1]) ?_ hr ⟨rfl,M',A',t',d,S⟩;rw [List.map_eq_nil_iff.1 M.2.2.2];rfl
theorem I7 (f:jJ o) (h:Tq w A a B k (t0 B o q) P) (c:Gd B) (hd:Ud B.d) (I:B.wt=false): Calls prog 114 #[.p A 0] P (TR w A a (Pf (decide (87<=o.op/\o.op<=92)) (cR B o q) o)):=by
 have X:=f.op1;have J:=f.op98;have x:=c.x32;have ua:=c.ux o.a.toNat;have Y:=c.ux o.b.toNat;obtain ⟨_,_,wl,K,Z⟩:=Gp X J;have l:dY o.op=(if o.op<3 then .iface 203 (.agg #[]) else if o.op<11 then .iface 204 (.agg #[]) else if o.op<18 then mU .ld (wN o.op) (wS o.op) else if o.op<22 then mU .st (wN o.op) (wS o.op) else if o.op<63 then .iface 203 (.agg #[]) else if o.op<85 then (if o.op=63\/o.op=74 then mU .hd (wN o.op) (wS o.op) else if o.op=64\/o.op=75 then mU .sc (wN o.op) (wS o.op) else mU .am (wN o.op) (wS o.op)) else if o.op<87 then .iface 215 (.agg #[]) else if o.op<93 then .iface 216 (.agg #[]) else .iface 217 (.agg #[])):=rfl;have w0:=λW (h:Tq w A a B k (t0 B o q) W)=>QM h x f.a0 f.a31;have T:=λW (h:Tq w A a B k (t0 B o q) W)=>SX h x f.b0 f.b31;have Q:=λW (h:Tq w A a B k (t0 B o q) W)=>sx h.row;have g:(t0 B o q).fm=dY o.op:=rfl;refine fj (args:=[.p A 0]) (Tq w A a B k (t0 B o q)) func114 ?_;refine aL 0 1 ?_;have M:dY o.op=.iface 203 (.agg #[])->cR B o q=(aX B o.rd (vM B o) (Uz.wrap (B.pc+4)),1)->Wg prog (Tq w A a B k (t0 B o q)) (bodyPost prog Tryz.f114 (TR w A a (Pf false (cR B o q) o))) Tryz.f114.ntmps [.code (aW Tryz.f114)] [(0,.p A 0,1)] P:=by intro b d;have U:=λW (h:Tq w A a B k (t0 B o q) W)=>EG o q f h c;rw [d];generalize vM B o=v at *;refine aN (Tq.eng (dr:=true)) {eq:=[(5,⟨_,_,0,g.trans b⟩)]} 90 h U ?_;rintro D e O u ⟨rfl,p⟩;refine ⟨_,0,rfl,fi a4,?_⟩;refine aK (λ_=>True) ?_;refine aL 9 1 ?_;refine gp (R1:=[⟨A,bz B k {t0 B o q with rs:=v},[]⟩]) (Iv.one p.row) {} 40 λR E=>⟨rfl,B,k,{t0 B o q with rs:=v},⟨?_,c,rfl,rfl,λe=>x8⟩,p.iv E rfl⟩;rw [je rfl];rfl
 by_cases S:o.op<3
 ·have b:dY o.op=.iface 203 (.agg #[]):=(by rw [l,if_pos S]);rw [decide_eq_false ab];refine M b ?_;unfold cR vM;dsimp only;by_cases wd:o.op=1;·rw [if_pos wd,if_pos wd]
  ·rw [if_neg wd,if_pos ab,if_neg wd,if_pos ab]
 by_cases c2:o.op<11;·have b:dY o.op=.iface 204 (.agg #[]):=(by rw [l,if_neg ab,if_pos ab]);have d:cR B o q=pw B o (B.x.getD o.a.toNat 0) (B.x.getD o.b.toNat 0) (Uz.wrap o.imm):=oi;rw [decide_eq_false ab,d];exact o9 h {eq:=[(5,⟨_,_,0,g.trans b⟩)]} (λW j=>QR o q f ab ab j c) a4 a4 a4 a4 (λ_=>a4) rfl
 by_cases c3:o.op<18;·have b:dY o.op=mU .ld (wN o.op) (wS o.op):=(by rw [l,if_neg ab,if_neg ab,if_pos ab]);have d:cR B o q=mP B o (Uz.wrap (B.x.getD o.a.toNat 0+Uz.wrap o.imm)):=ib;rw [decide_eq_false ab,d];obtain ⟨m,t⟩:=wl ab;have G:wN o.op=1\/wN o.op=2\/wN o.op=4\/wN o.op=8:=(by have wd:o.op=11\/o.op=12\/o.op=13\/o.op=14\/o.op=15\/o.op=16\/o.op=17:=ab;rw [m];rcases wd with wd | wd | wd | wd | wd | wd | wd<;>rw [wd]<;>decide);have F:=λW (h:Tq w A a B k (t0 B o q) W)=>(EI h c rfl .ld (wN o.op) (wS o.op) G (g.trans b) (Uz.wrap (B.x.getD o.a.toNat 0+Uz.wrap o.imm)) (bI _)).mono λe w' ⟨C,L,N⟩=>And.intro L (Exists.intro C N);have H:=OP o q c (wN o.op) (wS o.op) (Uz.wrap (B.x.getD o.a.toNat 0+Uz.wrap o.imm)) m t;generalize wN o.op=n at *;generalize wS o.op=s at *;refine aN (Tq.eng (dr:=true)) {eq:=[(5,⟨_,_,0,g.trans b⟩)],cv:=[(24,sX w0),(26,sX Q)]} 90 h F ?_;rintro D e O u ⟨rfl,C,p⟩;refine ⟨_,0,rfl,fi a4,?_⟩;exact iG {} 40 a4 a4 rfl ⟨rfl,_,C,_,H,p⟩
 by_cases c4:o.op<22;·have b:dY o.op=mU .st (wN o.op) (wS o.op):=(by rw [l,if_neg ab,if_neg ab,if_neg ab,if_pos ab]);have d:cR B o q=nB B o (Uz.wrap (B.x.getD o.a.toNat 0+Uz.wrap o.imm)) (B.x.getD o.b.toNat 0):=ey;rw [decide_eq_false ab,d];have m:=K ab;have G:wN o.op=1\/wN o.op=2\/wN o.op=4\/wN o.op=8:=(by have wd:o.op=18\/o.op=19\/o.op=20\/o.op=21:=ab;rw [m];rcases wd with wd | wd | wd | wd<;>rw [wd]<;>decide);have F:=λW (h:Tq w A a B k (t0 B o q) W)=>(zX h c rfl .st (wN o.op) (wS o.op) G (g.trans b) (Uz.wrap (B.x.getD o.a.toNat 0+Uz.wrap o.imm)) (B.x.getD o.b.toNat 0) (bI _) Y).mono λe w' ⟨C,L,N⟩=>And.intro L (Exists.intro C N);have H:=Mz o q c (wN o.op) (Uz.wrap (B.x.getD o.a.toNat 0+Uz.wrap o.imm)) (B.x.getD o.b.toNat 0) m;generalize wN o.op=n at *;generalize wS o.op=s at *;refine aN (Tq.eng (dr:=true)) {eq:=[(5,⟨_,_,0,g.trans b⟩)],cv:=[(34,sX w0),(36,sX Q),(39,sX T)]} 90 h F ?_;rintro D e O u ⟨rfl,C,p⟩;refine ⟨_,0,rfl,fi a4,?_⟩;exact iG {} 40 a4 a4 rfl ⟨rfl,_,C,_,H,p⟩
 by_cases c5:o.op<63;·have b:dY o.op=.iface 203 (.agg #[]):=(by rw [l,if_neg ab,if_neg ab,if_neg ab,if_neg ab,if_pos ab]);rw [decide_eq_false ab];refine M b ?_;have m:cR B o q=(aX B o.rd (m7 o.op (B.x.getD o.a.toNat 0) (if (fD o.op).toList=[82] then B.x.getD o.b.toNat 0 else Uz.wrap o.imm)) (Uz.wrap (B.pc+4)),1):=ek;have t:vM B o=m7 o.op (B.x.getD o.a.toNat 0) (if (fD o.op).toList=[82] then B.x.getD o.b.toNat 0 else Uz.wrap o.imm):=(by unfold vM;rw [if_neg ab,if_neg ab]);rw [m,t]
 clear M;by_cases c6:o.op<85
 ·have d:cR B o q=i9 B o (B.x.getD o.a.toNat 0) (B.x.getD o.b.toNat 0):=ef;rw [decide_eq_false ab,d];have i:dY o.op=(if o.op=63\/o.op=74 then mU .hd (wN o.op) (wS o.op) else if o.op=64\/o.op=75 then mU .sc (wN o.op) (wS o.op) else mU .am (wN o.op) (wS o.op)):=(by rw [l,if_neg ab,if_neg ab,if_neg ab,if_neg ab,if_neg ab,if_pos ab]);by_cases r:o.op=63\/o.op=74;·have b:=i.trans (if_pos r);have V:(mR o.op==0)=true:=(by rcases r with wd | wd<;>rw [wd]<;>decide);have t:i9 B o (B.x.getD o.a.toNat 0) (B.x.getD o.b.toNat 0)=RQ B o (B.x.getD o.a.toNat 0):=(by unfold i9;rw [V,if_pos rfl]);rw [t];exact o9 h {eq:=[(5,⟨_,_,0,g.trans b⟩)]} (λW j=>QO o q f r j c hd) a4 a4 a4 a4 (λ_=>a4) rfl
  ·by_cases y:o.op=64\/o.op=75;·have b:=(i.trans (if_neg r)).trans (if_pos y);exact o9 h {eq:=[(5,⟨_,_,0,g.trans b⟩)]} (λW j=>QP o q f y j c) a4 a4 a4 a4 (λ_=>a4) rfl
   ·have b:=(i.trans (if_neg r)).trans (if_neg y);exact o9 h {eq:=[(5,⟨_,_,0,g.trans b⟩)]} (λW j=>R7 o q f ab ab ⟨r,y⟩ j c hd) a4 a4 a4 a4 (λ_=>a4) rfl
 by_cases c7:o.op<87;·have b:dY o.op=.iface 215 (.agg #[]):=(by rw [l,if_neg ab,if_neg ab,if_neg ab,if_neg ab,if_neg ab,if_neg ab,if_pos ab]);have d:cR B o q=(aX B 0 0 (Uz.wrap (B.pc+4)),1):=d8;rw [decide_eq_false ab,d];refine ae (Tq.eng (dr:=true)) {eq:=[(5,⟨_,_,0,g.trans b⟩)]} 2 h λD u=>?_;refine aK (λ_=>True) ?_;refine gp (R1:=[⟨A,bz B k (t0 B o q),[]⟩]) (Iv.one u.row) {eq:=[(5,⟨_,_,0,g.trans b⟩)]} 90 λR E=>⟨rfl,B,k,t0 B o q,⟨?_,c,rfl,rfl,λe=>x8⟩,u.iv E rfl⟩;rw [je rfl];exact congrArg (λz=>(z,(1:Int))) (kW (M:=B) (rd:=o.rd) (to:=Uz.wrap (B.pc+4)))
 by_cases c8:o.op<93;·have b:dY o.op=.iface 216 (.agg #[]):=(by rw [l,if_neg ab,if_neg ab,if_neg ab,if_neg ab,if_neg ab,if_neg ab,if_neg ab,if_pos ab]);have d:cR B o q=nC B o (B.x.getD o.a.toNat 0) q:=di;rw [decide_eq_true ab,d];exact o9 h {eq:=[(5,⟨_,_,0,g.trans b⟩)]} (λW j=>R8 o q f ab ab j c) a4 a4 a4 a4 (λ_=>a4) rfl
 have b:dY o.op=.iface 217 (.agg #[]):=by rw [l,if_neg ab,if_neg ab,if_neg ab,if_neg ab,if_neg ab,if_neg ab,if_neg ab,if_neg ab]
 have d:cR B o q=kC B o q:=by unfold cR;dsimp only;rw [if_neg ab,if_neg ab,if_neg ab,if_neg ab,if_neg ab,if_neg ab,if_neg ab,if_neg ab,if_neg ab]
 rw [decide_eq_false ab,d];exact o9 h {eq:=[(5,⟨_,_,0,g.trans b⟩)]} (λW j=>Mv o q f ab j c I) a4 a4 a4 a4 (λ_=>a4) rfl
def SR (B g:Nat) (w0:World) (V:MV × Int) (e:Ending) (w':World):Prop:=e=.returned (.i V.2)/\∃ A' t',Tq B g w0 V.1 A' t' w'
theorem QS {g:World} (h:Tq w A P B k tS g) (hg:Gd B) (hd:Ud B.d):Calls prog 51 #[.p A 0] g (SR w A P (dP B)):=by
 obtain ⟨I,hcs,hpr,_,_,_⟩:=aI hg.ok; -- what is raised is entered
 have up:∀ (S:World->Prop) (N:MV) (C:MA) (f:TV) (M:Nat) (W:World),Tq w A P N C f W->Gd N->f.up=true->f.cz=M->M<16->Wg prog S (bodyPost prog Tryz.f51 (SR w A P (aM N M false f.vl,2))) Tryz.f51.ntmps [.code (ay 6 (aW Tryz.f51))] [(0,.p A 0,1)] W:=by intro S N C f M W d gN l m u;refine aK (Tq w A P N C f) ?_;refine ae (Tq.eng (dr:=false)) {eq:=[(61,af l)]} 40 d λW1 h1=>?_;refine mq 11 ?_;refine aN (Tq.eng (dr:=true)) {eq:=[(68,cZ .i64 m)]} 60 (h1.below (Below.refl _ _).drew) (λW d=>Gu d gN M u false f.vl) ?_;rintro W2 e W3 H ⟨rfl,C2,J⟩;refine ⟨_,0,rfl,fi a4,?_⟩;exact gI (R:=[]) (t:=2) (v:=.i 2) trivial {} 40 ⟨rfl,C2,f,J⟩
 -- fd a performance
 have tail:∀ (S:World->Prop) (cf:Bool) (i:Ins) (V:MV × Int) (N:MV) (C:MA) (f:TV) (W:World),jJ i->cf=decide (87<=i.op/\i.op<=92)->Pf cf V i N f->Tq w A P N C f W->Wg prog S (bodyPost prog Tryz.f51 (SR w A P V)) Tryz.f51.ntmps [.code (ay 6 (aW Tryz.f51))] [(0,.p A 0,1)] W:=by
  intro S cf i V N C f W Q hcf o d;cases l:f.up with
  | true =>obtain ⟨M,u,m⟩:=o.c l;have e:=o.e;rw [iL l m] at e;rw [<- e];exact up S N C f M W d o.g l m u
  | false =>have hfo:Fo cf f.fm:=(by rw [o.fm,hcf];exact CC i.op);have s:=λW (d:Tq w A P N C f W)=>Mw hfo d o.g (by rw [o.rd];exact Q.rd0) (by rw [o.rd];exact Q.rd31) l;have e2:V.2=1:=(by rw [<- o.e];unfold tz;rw [l];rfl);rw [o.e] at s;unfold SR;rw [e2];generalize V.1=V1 at *;refine aK (Tq w A P N C f) ?_;refine aN (Tq.eng (dr:=true)) {eq:=[(61,af l)]} 60 d s ?_;rintro W2 e W3 H ⟨rfl,J⟩;refine ⟨_,0,rfl,fi a4,?_⟩;exact gI (R:=[]) (t:=2) (v:=.i 1) trivial {} 40 ⟨rfl,C,f,J⟩
 have fin:∀ (S:World->Prop) (W:World),Tq w A P B k tS W->(B.wt&&(j9 B.cs==0))=false->Wg prog S (bodyPost prog Tryz.f51 (SR w A P (dP B))) Tryz.f51.ntmps [.code (ay 2 (aW Tryz.f51))] [(0,.p A 0,1)] W:=by
  intro S W d hn;have eV:dP B=if 0<=fJ B.cs B.pr then (aM (gA B false) (fJ B.cs B.pr).toNat true 0,3) else (let q:=aC (gA B false) B.pc 4 1 0;if (q.2.2 != 0)=true then cC q 0 q.2.1.pc else match F4 q.1 with | none=>(aM q.2.1 2 false q.1,2) | some i=>cR q.2.1 i q.1):=by unfold dP;rw [hn,if_neg a6];rfl
  rw [eV];clear eV;have F:=hg.wait false;have Y:fJ B.cs B.pr=fJ (gA B false).cs (gA B false).pr:=rfl;have U:B.pc=(gA B false).pc:=rfl;have z:Ud (gA B false).d:=hd;have Z:(gA B false).wt=false:=rfl;refine aK (λ_=>True) ?_;refine pF (R1:=[⟨A,bz (gA B false) k tS,[]⟩]) (Iv.one d.row) {} 8 λW1 h1=>?_;have H:=d.iv h1 rfl;refine an [.code (ay 3 (aW Tryz.f51))] [(0,.p A 0,1)] ?_;rw [Y,U];generalize gA B false=N at F H z Z ⊢;clear Y U h1;have r:=λW (d:Tq w A P N k tS W)=>tu k.ac N.cs.length k.cc N.cs N.pr W rfl d.sl.cs F.mw.cs;have T:tW N.cs.length N.cs N.pr=fJ N.cs N.pr:=(by unfold tW;rw [(cP F.ok).2.2.1]);rw [T] at r;clear T;refine aK (Tq w A P N k tS) ?_;by_cases e:0<=fJ N.cs N.pr;·obtain ⟨M,k16,u⟩:=zT _ _ e;have q:decide (0<=((M:Nat):Int))=true:=bw;rw [if_pos e,u,Int.toNat_natCast];rw [u] at r;refine aN (Tq.eng (dr:=true)) {eq:=[(43,af q)],cv:=[(41,MH r)]} 60 H (λW d=>Gu d F M k16 true 0) ?_;rintro W3 e W4 J ⟨rfl,C2,n⟩;refine ⟨_,0,rfl,fi a4,?_⟩;exact gI (R:=[]) (t:=2) (v:=.i 3) trivial {} 40 ⟨rfl,C2,tS,n⟩
  ·have q:decide (0<=fJ N.cs N.pr)=false:=(by rw [decide_eq_false_iff_not];exact e);rw [if_neg e];generalize fJ N.cs N.pr=pv at *;have w0:=λW (d:Tq w A P N k tS W)=>OO d F z;have ga:=F.acc N.pc 4 1 0;have da:=zP z N.pc 4 1 lN;have wa:=(i8 N N.pc 4 1 0).2.2.2;have pa:=(i8 N N.pc 4 1 0).1;have ec:=λc=>j7 (M:=N) (addr:=N.pc) (size:=4) (kind:=1) (x:=0) (c:=c);rw [Z] at wa;unfold QQ at w0;generalize aC N N.pc 4 1 0=X at *;obtain ⟨y,E,c⟩:=X;dsimp only at *;rw [pa];refine aN (Tq.eng (dr:=true)) {eq:=[(43,af q)],cv:=[(41,MH r)]} 60 H w0 ?_;rintro W3 e W4 J ⟨rfl,C,n⟩;refine ⟨_,0,rfl,fi a4,?_⟩;refine aP (R:=[]) trivial {} 1 ?_;refine an [.code (ay 5 (aW Tryz.f51))] [(0,.p A 0,1)] ?_;have skip:∀ (S:World->Prop) (f:TV) (M:Nat),Tq w A P E C f W4->f.up=true->f.cz=M->M<16->Wg prog S (bodyPost prog Tryz.f51 (SR w A P (aM E M false f.vl,2))) Tryz.f51.ntmps [.code (ay 5 (aW Tryz.f51))] [(0,.p A 0,1)] W4:=(by intro S f M d l m u;refine aK (Tq w A P E C f) ?_;refine ae (Tq.eng (dr:=false)) {eq:=[(54,af l)]} 11 d λW5 h5=>?_;exact an _ _ (up _ E C f M W5 h5 ga l m u));cases O:(c != 0) with
   | true =>rw [O,if_pos rfl] at n;rw [if_pos rfl];unfold nz at n;dsimp only at n;rw [O,if_pos rfl,(ec c rfl O).1] at n;exact skip _ _ (c-16).toNat n rfl rfl (ec c rfl O).2
   | false =>
     rw [O,if_neg a6] at n;rw [if_neg a6];cases he:F4 y with
     | none =>simp only [he] at n ⊢;exact skip _ _ 2 n rfl rfl a6
     | some i =>simp only [he] at n ⊢;have Q:=zA he;refine aK (Tq w A P E C (t0 E i y)) ?_;refine aN (Tq.eng (dr:=true)) {} 60 n (λW d=>I7 i y Q d ga da wa) ?_;rintro W5 e W6 h5 ⟨rfl,N3,D,t3,o,h6⟩;refine ⟨_,0,rfl,fi a4,?_⟩;refine aP (R:=[]) trivial {} 1 ?_;exact an _ _ (tail _ _ i _ N3 D t3 W6 Q rfl o h6)
 obtain ⟨b,K,hne,_⟩:=h.atC I;have cc:∀ (j:Nat),j<22->∀ W,Tq w A P B k tS W->W.cell? ⟨b,j,none⟩=some (.u (B.cs.getD j 0)):=λj hj W d=>by obtain ⟨b',L,_,p⟩:=d.atC I;rw [K] at L;cases L;exact (p j hj).1
 refine bf (S:=Tq w A P B k tS) (args:=[.p A 0]) [] func51 ?_;refine aL 0 1 ?_;cases G:B.wt with
 | true =>
   cases hz:(j9 B.cs==0) with
   | true =>have eV:dP B=(B,4):=(by unfold dP;rw [G,hz,if_pos a6]);rw [eV];exact aU (t:=2) (v:=.i 4) (Tq.eng (dr:=true)) {eq:=[(8,af G),(25,af hz)],ov:=[(15,pe B.cs.length k.cc .i64 9 K ⟨ab,ab⟩ underlying23 a4),(16,jk ⟨b,0+(9:Int).toNat,none⟩ (.u (B.cs.getD 9 0)) underlying22 rfl (cc 9 ab)),(22,pe B.cs.length k.cc .i64 3 K ⟨ab,ab⟩ underlying23 a4),(23,jk ⟨b,0+(3:Int).toNat,none⟩ (.u (B.cs.getD 3 0)) underlying22 rfl (cc 3 ab))]} 60 h λW d=>⟨rfl,k,tS,d⟩
   | false =>refine ae (Tq.eng (dr:=true)) {eq:=[(8,af G),(25,af hz)],ov:=[(15,pe B.cs.length k.cc .i64 9 K ⟨ab,ab⟩ underlying23 a4),(16,jk ⟨b,0+(9:Int).toNat,none⟩ (.u (B.cs.getD 9 0)) underlying22 rfl (cc 9 ab)),(22,pe B.cs.length k.cc .i64 3 K ⟨ab,ab⟩ underlying23 a4),(23,jk ⟨b,0+(3:Int).toNat,none⟩ (.u (B.cs.getD 3 0)) underlying22 rfl (cc 3 ab))]} 29 h λW d=>?_;exact an _ _ (fin _ W d (by rw [G,hz];rfl))
 | false =>refine ae (Tq.eng (dr:=true)) {eq:=[(8,af G)]} 29 h λW d=>?_;exact an _ _ (fin _ W d (by rw [G];rfl))
end Go.Proofs.YtfagphfjfhpmjaaGreatDoor
