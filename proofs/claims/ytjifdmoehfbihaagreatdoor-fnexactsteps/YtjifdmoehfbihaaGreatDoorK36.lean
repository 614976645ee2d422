/- Own lemmas. -/
import Derived.Test.YtjifdmoehfbihaaGreatDoorAut
import Derived.Test.YtjifdmoehfbihaaGreatDoorK35
set_option maxRecDepth 100000
namespace Go.Proofs.YtjifdmoehfbihaaGreatDoor
open Go.RowKit Tryz
open IntKind renaming u64->Uz
set_option linter.unusedVariables false
section
variable {l l' : List Int} (h : ∀ j, j≠9 -> l.getD j 0 = l'.getD j 0)
include h
theorem EM (i:Nat):de l i=de l' i:=by unfold de;rw [h 16 al]
theorem KK (i:Nat):iD l i=iD l' i:=by unfold iD;rw [EM h]
theorem KL (i:Nat):cG l i=cG l' i:=by unfold cG j7;rw [KK h,h (17+i) al,h (16+i) al]
theorem yG (p x y kind:Int):∀ n k,ay l p x y kind n k=ay l' p x y kind n k
 | 0,_=>rfl
 | n+1,k=>by rw [ay,ay,KL h,EM h,yG p x y kind n (k+1)]
theorem KM (p va kind e x:Int) (lv:Nat):cL l p va kind e x lv=cL l' p va kind e x lv:=by unfold cL fX fY;rw [h 0 al,yG h]
theorem EN (zs:List Int) (n:Nat) (p va kind:Int):∀ a T,bA zs n l p va kind a T=bA zs n l' p va kind a T
 | 0,T=>by rw [bA,bA,yG h,KM h]
 | a+1,T=>by rw [bA,bA,yG h,KM h,EN zs n p va kind a]
theorem MU (zs:List Int) (n:Nat) (p va kind:Int):bO zs n l p va kind=bO zs n l' p va kind:=by unfold bO j8;rw [h 15 al,EN h]
theorem O0 (p kind:Int):eC l p kind=eC l' p kind:=by unfold eC;rw [h 0 al]
end
theorem MX (M:MV) (pa n x:Int) (b:(rv M pa n 2 x).2.2=0):(rv M pa n 2 x).2.1.ram=M.ram/\(rv M pa n 2 x).2.1.pr=M.pr/\∀ j,j≠9->(rv M pa n 2 x).2.1.cs.getD j 0=M.cs.getD j 0:=by
 unfold rv at b ⊢;split;·exact ⟨rfl,rfl,λ_ _=>rfl⟩
 ·rename_i c;rw [if_neg c] at b;split
  ·rename_i a;split;·exact ⟨rfl,rfl,λj d=>js _ 9 j _ (Ne.symm d)⟩
   ·exact ⟨rfl,rfl,λ_ _=>rfl⟩
  ·rename_i a;exact absurd rfl a
theorem Dy {M:MV} (r:Gd M) {a n:Int} (b:(aC M a n 2 0).2.2=0):(bU (aC M a n 2 0).2.1 a 2).code=0:=by
 have p:∀ i,0<=M.ram.getD i 0/\M.ram.getD i 0<=255:=Ds r.mw.ram;have key:∀ F:Fd,F=bO M.ram M.ram.length M.cs (eC M.cs M.pr 2) a 2->F.code=0->∀ N:MV,N.ram=aN M.ram F->N.pr=M.pr->(∀ j,j≠9->N.cs.getD j 0=M.cs.getD j 0)->(bU N a 2).code=0:=by
  intro F hF l N m o h;unfold bU;rw [m,o,jH,MU h,O0 h];rcases CT M.ram M.ram.length rfl p M.cs (eC M.cs M.pr 2) a 2 with ⟨_,e,_⟩|⟨e,_⟩;·rw [hF,e]
  ·rw [<- hF] at e;exact absurd l e
 unfold aC at b ⊢;split;·rename_i q;rw [if_pos q] at b;exact absurd b (show ¬ qu 2=0 by decide)
 ·rename_i q;rw [if_neg q] at b;unfold xL at b ⊢;split;·rename_i f;rw [if_pos f] at b;exfalso;obtain ⟨c,k,e⟩:=kL M.ram M.ram.length M.cs (eC M.cs M.pr 2) a 2;have d:wrap64 ((bO M.ram M.ram.length M.cs (eC M.cs M.pr 2) a 2).code+16)=0:=b;rw [e] at d;unfold wrap64 at d;omega
  ·rename_i f;rw [if_neg f] at b;have s:(bO M.ram M.ram.length M.cs (eC M.cs M.pr 2) a 2).code=0:=et;split;·rename_i g;rw [if_pos g] at b;exact absurd b (show ¬ jp 2=0 by decide)
   ·rename_i g;rw [if_neg g] at b;obtain ⟨t,u,v⟩:=MX _ _ _ _ b;exact key _ rfl s _ t u v
section
variable {B g : Nat} {w0 w w' : World} {M M' : MV} {A A' : MA} {t t' : TV}
theorem QJ (h:Tq B g w0 M A t w) (b:M.x.length=32) (c:0<=t.ra) (a:t.ra<=31) {v:Int} (hv:M.x.getD t.ra.toNat 0=v):Calls prog 156 #[.p g 0] w λe w'=>e=.returned (.u v)/\Iv [g] w [⟨g,br M A t,[]⟩] w':=by subst hv;exact OZ h b c a
theorem QR (h:Tq B g w0 M A t w) (b:M.x.length=32) (c:0<=t.rb) (a:t.rb<=31) {v:Int} (hv:M.x.getD t.rb.toNat 0=v):Calls prog 159 #[.p g 0] w λe w'=>e=.returned (.u v)/\Iv [g] w [⟨g,br M A t,[]⟩] w':=by subst hv;exact QI h b c a
theorem KN (h:Tq B g w0 M A t w) (n:Gd M) (d:t.ld=.func (.func 40) #[] #[]) (addr size kind x:Int) (i:ic size=true) (a:1<=kind) (b:kind<=3) (c:kind=1->size=4) (m:U addr) (hx:U x) :
 Calls prog 149 #[.p g 0,.u addr,.i size,.i kind,.u x] w λe w'=>∃ C,e=.returned (.tuple #[.u (if (aC M addr size kind x).2.2 != 0 then 0 else (aC M addr size kind x).1),.bool (!((aC M addr size kind x).2.2 != 0))])/\Tq B g w0 (aC M addr size kind x).2.1 C (mM t (aC M addr size kind x) addr) w' :=
 (uC (aC M addr size kind x) addr size kind x d h.row (λW l=>(h.iv l rfl).acc n i a b c m hx)).mono λe w' ⟨C,j,k,f⟩=>⟨C,j,h.new k f⟩
theorem Ny {n:Nat} (hn:n=1\/n=2\/n=4\/n=8):ic (n:Int)=true:=by rcases hn with rfl|rfl|rfl|rfl<;>decide
theorem Dz (h:Tq B g w0 M A t w) (j:Gd M) (a:t.ld=.func (.func 40) #[] #[]) (f:Wf) (n:Nat) (s:Bool) (hn:n=1\/n=2\/n=4\/n=8) (i:t.fm=ml f n s) (addr:Int) (d:U addr) :
 Calls prog 155 #[.p g 0,.u addr] w λe w'=>∃ C,e=.returned (.tuple #[.u (if (aC M addr n 2 0).2.2 != 0 then 0 else (aC M addr n 2 0).1),.bool (!((aC M addr n 2 0).2.2 != 0))])/\Tq B g w0 (aC M addr n 2 0).2.1 C (rK t (aC M addr n 2 0) addr n s) w' :=
 (OI (aC M addr n 2 0) f n s hn i addr a h.row (λW c=>(h.iv c rfl).acc j (Ny hn) a5 a5 (λe=>yn) d kO)).mono λe w' ⟨C,b,k,f⟩=>⟨C,b,h.new k f⟩
theorem yH (h:Tq B g w0 M A t w) (j:Gd M) (a:t.ld=.func (.func 40) #[] #[]) (f:Wf) (n:Nat) (s:Bool) (hn:n=1\/n=2\/n=4\/n=8) (i:t.fm=ml f n s) (addr x:Int) (d:U addr) (hx:U x) :
 Calls prog 158 #[.p g 0,.u addr,.u x] w λe w'=>∃ C,e=.returned (.bool (!((aC M addr n 3 x).2.2 != 0)))/\Tq B g w0 (aC M addr n 3 x).2.1 C (mM t (aC M addr n 3 x) addr) w' :=
 (MI (aC M addr n 3 x) f n s i addr x a h.row (λW c=>(h.iv c rfl).acc j (Ny hn) a5 a5 (λe=>yn) d hx)).mono λe w' ⟨C,b,k,f⟩=>⟨C,b,h.new k f⟩
theorem KO (h:Tq B g w0 M A t w) (a:Gd M) (l:t.ld=.func (.func 40) #[] #[]) (addr kind:Int) (i:1<=kind) (j:kind<=3) (s:U addr):Calls prog 212 #[.p g 0,.u addr,.i kind] w λe w'=>∃ C,e=.returned (.tuple #[.u (if (bU M addr kind).code != 0 then 0 else (bU M addr kind).addr),.bool (!((bU M addr kind).code != 0))])/\Tq B g w0 (cR M addr kind) C (wQ t (bU M addr kind).code addr) w':=by
 obtain ⟨f,d,n,v,_,_⟩:=aF a.ok;have m:aQ M.cs.length M.cs M.pr=true:=(ee a.ok).2.2.1;have u:=t9 (a.mw.cs 0) d n kind;have r:zI M.cs.length M.cs M.pr kind=eC M.cs M.pr kind:=by unfold zI;rw [m,decide_eq_true ⟨i,j⟩];rfl
 have p:mD M.ram.length M.cs.length M.cs (eC M.cs M.pr kind) kind=true:=by unfold mD aQ;rw [v,f,d,u];unfold iF;rcases (show kind=1\/kind=2\/kind=3 by omega) with rfl|rfl|rfl<;>rfl
 refine (OJ (bU M addr kind).addr (bU M addr kind).code (eC M.cs M.pr kind) (aN M.ram (bU M addr kind)) addr kind l h.row (λW b=>?_) (λW b=>?_)).mono λe w' ⟨x,c,q,k,o⟩=>⟨_,q,h.ram k o⟩;·have:=kW A.ac M.cs.length A.cc M.cs M.pr kind W rfl (h.iv b rfl).sl.cs a.mw.cs;rw [r] at this;exact this
 ·have:=pX A.ar M.ram.length A.cr M.ram A.ac M.cs.length A.cc M.cs (eC M.cs M.pr kind) addr kind W rfl a.len.ram (h.iv b rfl).sl.ram a.mw.ram rfl (h.iv b rfl).sl.cs a.mw.cs s (h.iv b rfl).tab h.good;unfold DY DZ tH at this;rw [p,if_pos rfl,if_pos rfl,if_pos rfl] at this;exact this
theorem Bc (h:Tq B g w0 M A t w) (d:M.x.length=32) (q:0<=t.ra) (c:t.ra<=31) (f:Wf) (n:Nat) (s:Bool) (hn:n=4\/n=8) (z:t.fm=ml f n s) (hz:((M.x.getD t.ra.toNat 0).tmod n != 0)=true):Calls prog 213 #[.p g 0] w λe w'=>e=.returned (.tuple #[.u 0,.bool false])/\Tq B g w0 M A {t with up:=true,cz:=6,vl:=M.x.getD t.ra.toNat 0} w':=by
 have m:=λW (h:Tq B g w0 M A t W)=>OZ h d q c;generalize M.x.getD t.ra.toNat 0=a at *;have C:Uz.wrap (n:Int)=n:=by rw [IntKind.wrap_u64];omega
 have j:(n:Int)≠0:=al
 refine cn (S:=Tq B g w0 M A t) (args:=[.p g 0]) [] func213 ?_;refine aL 0 1 ?_;cases f;all_goals
  refine af (Tq.eng (dr:=true)) {cv:=[(5,rT m),(7,rT λW i=>pD _ n s z i.row)]} 60 h λp r=>?_
  refine nu (xO n s p) a3 λe F b=>⟨_,0,b.1,gp a3,?_⟩
  have u:=r.below b.2
  refine aW (Tq.eng (dr:=true)) {eq:=[(9,ei .u64 C),(11,au hz)],ov:=[(10,Nf .u64 a n j)],cv:=[(13,KX λW _=>(gt 3 (.inr (.inr rfl)) W).mono λe w' k=>⟨k.1,by rw [k.2];exact Below.refl _ _⟩),(15,rT m)]} 60 u (λW i=>jx 6 a i.row) λD e G x b=>⟨_,0,b.1,gp a3,?_⟩
  have l:=x.iv b.2 rfl
  refine aR (λ_=>True) ?_
  exact iC (Iv.one l.row) {} 40 λE a y o=>⟨.tuple #[.u 0,.bool false],by rw [results_tmp2 rfl,o.slot (v:=.u 0) a3,o.slot (v:=.bool false) a3],rfl,l.iv y rfl⟩
theorem EO (h:Tq B g w0 M A t w) (d:Gd M) (i:t.ld=.func (.func 40) #[] #[]) (u:0<=t.ra) (b:t.ra<=31) (f:Wf) (n:Nat) (s:Bool) (hn:n=4\/n=8) (E:t.fm=ml f n s) (hz:((M.x.getD t.ra.toNat 0).tmod n != 0)=false):Calls prog 213 #[.p g 0] w λe w'=>∃ C,e=.returned (.tuple #[.u (if (bU M (M.x.getD t.ra.toNat 0) 3).code != 0 then 0 else (bU M (M.x.getD t.ra.toNat 0) 3).addr),.bool (!((bU M (M.x.getD t.ra.toNat 0) 3).code != 0))])/\Tq B g w0 (cR M (M.x.getD t.ra.toNat 0) 3) C (wQ t (bU M (M.x.getD t.ra.toNat 0) 3).code (M.x.getD t.ra.toNat 0)) w':=by
 have c:=d.x32;have l:=λW (h:Tq B g w0 M A t W)=>OZ h c u b;have k:=λW (h:Tq B g w0 M A t W)=>KO h d i (M.x.getD t.ra.toNat 0) 3 a5 a5 (d.ux _);generalize M.x.getD t.ra.toNat 0=a at *;have F:Uz.wrap (n:Int)=n:=by rw [IntKind.wrap_u64];omega
 have j:(n:Int)≠0:=al
 generalize (if (bU M a 3).code != 0 then 0 else (bU M a 3).addr)=p at *;generalize (!((bU M a 3).code != 0))=q at *;refine cn (S:=Tq B g w0 M A t) (args:=[.p g 0]) [] func213 ?_;refine aL 0 1 ?_;cases f;all_goals
  refine af (Tq.eng (dr:=true)) {cv:=[(5,rT l),(7,rT λW D=>pD _ n s E D.row)]} 60 h λr x=>?_
  refine nu (xO n s r) a3 λe I o=>⟨_,0,o.1,gp a3,?_⟩
  have y:=x.below o.2
  refine aW (Tq.eng (dr:=true)) {eq:=[(9,ei .u64 F),(11,au hz)],ov:=[(10,Nf .u64 a n j)],cv:=[(19,rT l)]} 60 y k ?_
  rintro G e J H ⟨C,rfl,z⟩
  refine ⟨_,0,rfl,gp a3,?_⟩
  refine hC (R:=[]) trivial {} 40 λa m=>⟨.tuple #[.u p,.bool q],by rw [results_tmp2 rfl,m.slot (v:=.u p) a3,m.slot (v:=.bool q) a3],C,rfl,z⟩
end
section
variable {B g : Nat} {w0 w w' : World} {M M' : MV} {A A' : MA} {t t' : TV}
theorem gX {cf:Bool} {M:MV} {t:TV} {k:Nat} (h:t.up=true) (a:t.cz=k):si cf M t=(aJ M k false t.vl,2):=by unfold si;rw [if_pos h,a,Int.toNat_natCast]
theorem iA {M:MV} {t:TV} (h:t.up=false):si false M t=(aP M t.rd t.rs t.nx,1):=by unfold si;rw [h];rfl
theorem kp {M:MV} {rd to:Int}:aP M rd (M.x.getD rd.toNat 0) to=aP M 0 0 to:=by
 unfold aP;congr 1;by_cases e:rd=0;·rw [if_pos e,if_pos rfl]
 ·rw [if_neg e,if_pos rfl];by_cases a:rd.toNat<M.x.length;·exact lX M.x rd.toNat a
  ·exact List.set_eq_of_length_le al
theorem mi {cf:Bool} {i:Ins} {t:TV} {X:Int × MV × Int} {a n kind x:Int} (f:aC M a n kind x=X) (g:Gd M) (e:(X.2.2 != 0)=true) (d:t.rd=i.rd) (b:t.fm=dV i.op):Pf cf (cw X 0 a) i X.2.1 (mM t X a):=by subst f;have c:=jA (M:=M) (addr:=a) (size:=n) (kind:=kind) (x:=x) rfl e;unfold mM;rw [e];exact ⟨gX rfl c.1,g.acc a n kind x,d,b,λ_=>⟨_,c.2,c.1⟩⟩
theorem DA {P:Program} {S:World->Prop} {n:Nat} {fn:Func} {k:List KI} {F:Fr} {w:World} {Q:MV->TV->Prop} {R:List Rw} (b:jk w R) (H:Hn P (λx=>x=w) (λx=>x=w)) (m:Nat) (hx:(gP k,(aU P R H n false m k F).1.1)=(true,true)) (he:(aU P R H n false m k F).2.map Prod.fst=(aU P R H n false m k F).2.map Prod.snd) (hr:fn.results=#[]) {M':MV} {A':MA} {t':TV} (h:Tq B g w0 M' A' t' w) (c:Q M' t'):Wg P S (bodyPost P fn (TR B g w0 Q)) n k F w :=
 hC b H m (hx:=hx) (he:=he) λa _=>⟨_,results_none hr _ _ _,rfl,M',A',t',c,h⟩
theorem O4 (i:Ins) (wd:Int) (m:jg i) (z:i.op=63\/i.op=74) (h:Tq B g w0 M A (t0 M i wd) w) (l:Gd M) (hd:Ud M.d):Calls prog 160 #[.p g 0] w (TR B g w0 (Pf false (PS M i (M.x.getD i.a.toNat 0)) i)):=by
 obtain ⟨n,r⟩:∃ n,n=aZ i.op:=⟨_,rfl⟩;have hn:n=4\/n=8:=by rw [r];unfold aZ;split<;>simp
 obtain ⟨wn,ws⟩:=(EL m.op1 m.op98).2.2.2.2 al;have V:dV i.op=ml .hd n true:=by unfold dV;rw [if_neg al,if_neg al,if_neg al,if_neg al,if_neg al,if_pos al,if_pos z,wn,ws,r]
 have o:=l.x32;have F:=l.ux i.a.toNat;have s:=λW (h:Tq B g w0 M A (t0 M i wd) W)=>OZ h o m.a0 m.a31;have Y:=λW (h:Tq B g w0 M A (t0 M i wd) W)=>Dz h l rfl .hd n true al V (M.x.getD i.a.toNat 0) F;have H:PS M i (M.x.getD i.a.toNat 0)=if ((aC M (M.x.getD i.a.toNat 0) n 2 0).2.2 != 0)=true then cw (aC M (M.x.getD i.a.toNat 0) n 2 0) 0 (M.x.getD i.a.toNat 0) else (aP (bT (cR (aC M (M.x.getD i.a.toNat 0) n 2 0).2.1 (M.x.getD i.a.toNat 0) 2) true (bU (aC M (M.x.getD i.a.toNat 0) n 2 0).2.1 (M.x.getD i.a.toNat 0) 2).addr) i.rd (aq (8*n) (aC M (M.x.getD i.a.toNat 0) n 2 0).1) (Uz.wrap (M.pc+4)),1):=by rw [r];rfl
 rw [H];clear H;have I:=l.acc (M.x.getD i.a.toNat 0) n 2 0;have K:=(iw M (M.x.getD i.a.toNat 0) n 2 0).2.1;have v:=Dy l (a:=M.x.getD i.a.toNat 0) (n:=n);have E:=λX (T:aC M (M.x.getD i.a.toNat 0) n 2 0=X) k=>mi (cf:=false) (i:=i) (t:=t0 M i wd) T l k rfl rfl;generalize P:M.x.getD i.a.toNat 0=a at *;generalize aC M a n 2 0=X at *;obtain ⟨y,N,c⟩:=X;dsimp only at *;refine fD (args:=[.p g 0]) (Tq B g w0 M A (t0 M i wd)) func160 ?_;refine aL 0 1 ?_;refine aW (Tq.eng (dr:=true)) {cv:=[(7,rT s)]} 60 h Y ?_;rintro W1 e W2 h1 ⟨C,rfl,d⟩;refine ⟨_,0,rfl,gp a3,?_⟩;cases k:(c != 0) with
 | true =>rw [if_pos rfl];unfold rK at d;dsimp only at d;rw [k,if_pos rfl] at d;exact DA (R:=[]) trivial {} 40 a3 a3 rfl d (E _ rfl k)
 | false =>rw [if_neg a5];unfold rK at d;dsimp only at d;rw [k,if_neg a5,if_pos rfl] at d;have O:c=0:=(by simpa using k);have u:=v O;obtain ⟨f,b⟩:∃ f:TV,f={t0 M i wd with rs:=aq (8*n) y}:=⟨_,rfl⟩;have j:f.ra=i.a:=(by rw [b];rfl);have x:f.ld=.func (.func 40) #[] #[]:=(by rw [b];rfl);rw [<- b] at d;have p:=λW (h:Tq B g w0 N C f W)=>OZ h (by rw [K];exact o) (by rw [j];exact m.a0) (by rw [j];exact m.a31);rw [j,K,P] at p;have q:=λW (h:Tq B g w0 N C f W)=>KO h I x a 2 a5 a5 F;have Q:Gd (cR N a 2):=I.marked _;have Z:U (bU N a 2).addr:=sB _ _ _ _ _ _ F;rw [u] at q;generalize (bU N a 2).addr=L at *;generalize cR N a 2=G at *;refine aR (Tq B g w0 N C f) ?_;refine aW (Tq.eng (dr:=true)) {cv:=[(18,rT p)]} 60 d q ?_;rintro W3 e W4 h3 ⟨D,rfl,J⟩;refine ⟨_,0,rfl,gp a3,?_⟩;refine aR (λ_=>True) ?_;refine fH (R1:=[⟨g,br (bT G true L) D f,[]⟩]) (Iv.one J.row) {} 60 λW5 S=>⟨rfl,bT G true L,D,f,?_,J.iv S rfl⟩;refine ⟨?_,Q.hold Z (Or.inl rfl),by rw [b];rfl,by rw [b];rfl,λe=>by rw [b] at e;cases e⟩;rw [iA (by rw [b];rfl),b];rfl
end
section
variable {B g : Nat} {w0 w w' : World} {M M' : MV} {A A' : MA} {t t' : TV}
theorem Bd {i:Ins} (a:jg i) (b:63<=i.op) (c:i.op<=84):(aZ i.op=4\/aZ i.op=8)/\wN i.op=aZ i.op/\wS i.op=true:=by obtain ⟨wn,d⟩:=(EL a.op1 a.op98).2.2.2.2 al;refine ⟨?_,wn,d⟩;unfold aZ;split<;>simp
theorem EP {a:Int} {n:Nat} (b:U a):a.tmod n=a%(n:Int):=Int.tmod_eq_emod_of_nonneg b.1
theorem O5 (i:Ins) (wd:Int) (q:jg i) (hop:i.op=64\/i.op=75) (h:Tq B g w0 M A (t0 M i wd) w) (J:Gd M):Calls prog 161 #[.p g 0] w (TR B g w0 (Pf false (ix M i (M.x.getD i.a.toNat 0) (M.x.getD i.b.toNat 0)) i)):=by
 obtain ⟨hn,wn,ws⟩:=Bd q al al;have hf:dV i.op=ml .sc (aZ i.op:Nat) true:=by unfold dV;rw [if_neg al,if_neg al,if_neg al,if_neg al,if_neg al,if_pos al,if_neg al,if_pos hop,wn,ws]
 have x:=J.x32;have ua:=J.ux i.a.toNat;have ub:=J.ux i.b.toNat;have k0:(me i.op==0)=false:=by unfold me;split<;>simp<;>omega
 have k1:(me i.op==1)=true:=by unfold me;split<;>simp<;>omega
 have eV:ix M i (M.x.getD i.a.toNat 0) (M.x.getD i.b.toNat 0)=if ((M.x.getD i.a.toNat 0).tmod (aZ i.op:Nat) != 0)=true then (aJ M 6 false (M.x.getD i.a.toNat 0),2) else if ((bU M (M.x.getD i.a.toNat 0) 3).code != 0)=true then (aJ (cR M (M.x.getD i.a.toNat 0) 3) (bU M (M.x.getD i.a.toNat 0) 3).code.toNat false (M.x.getD i.a.toNat 0),2) else if ((cR M (M.x.getD i.a.toNat 0) 3).hl&&((cR M (M.x.getD i.a.toNat 0) 3).hd==(bU M (M.x.getD i.a.toNat 0) 3).addr))=true then (if ((aC (cR M (M.x.getD i.a.toNat 0) 3) (M.x.getD i.a.toNat 0) (aZ i.op:Nat) 3 (M.x.getD i.b.toNat 0)).2.2 != 0)=true then cw (aC (cR M (M.x.getD i.a.toNat 0) 3) (M.x.getD i.a.toNat 0) (aZ i.op:Nat) 3 (M.x.getD i.b.toNat 0)) 0 (M.x.getD i.a.toNat 0) else (aP (bT (aC (cR M (M.x.getD i.a.toNat 0) 3) (M.x.getD i.a.toNat 0) (aZ i.op:Nat) 3 (M.x.getD i.b.toNat 0)).2.1 false 0) i.rd 0 (Uz.wrap (M.pc+4)),1)) else (aP (bT (cR M (M.x.getD i.a.toNat 0) 3) false 0) i.rd 1 (Uz.wrap (M.pc+4)),1):=by unfold ix;rw [k0,k1,if_neg a5,EP ua,if_pos rfl];rfl
 rw [eV];clear eV k0 k1 wn ws;have o:=λW (h:Tq B g w0 M A (t0 M i wd) W)=>Bc h x q.a0 q.a31 .sc _ true hn hf;have j:=λW (h:Tq B g w0 M A (t0 M i wd) W)=>EO h J rfl q.a0 q.a31 .sc _ true hn hf;have K:Gd (cR M (M.x.getD i.a.toNat 0) 3):=J.marked _;obtain ⟨T,S,hcc⟩:∃ c:Nat,c<16/\(bU M (M.x.getD i.a.toNat 0) 3).code=c:=kL M.ram M.ram.length M.cs (eC M.cs M.pr 3) (M.x.getD i.a.toNat 0) 3;rw [show (t0 M i wd).ra=i.a from rfl] at o j;have s:(cR M (M.x.getD i.a.toNat 0) 3).x=M.x:=rfl;generalize ea:M.x.getD i.a.toNat 0=a at *;generalize eb:M.x.getD i.b.toNat 0=b at *;generalize aZ i.op=n at *;generalize cR M a 3=N at *;generalize bU M a 3=F at *;obtain ⟨p,fc,fm,ft,fe⟩:=F;dsimp only at *;subst hcc;obtain ⟨d,f⟩:∃ d:TV,d=t0 M i wd:=⟨_,rfl⟩;have r:d.up=false:=by rw [f];rfl
 have hld:d.ld=.func (.func 40) #[] #[]:=by rw [f];rfl
 have E:d.ra=i.a:=by rw [f];rfl
 have G:d.rb=i.b:=by rw [f];rfl
 have l:d.rd=i.rd:=by rw [f];rfl
 have m:d.fm=dV i.op:=by rw [f];rfl
 have O:d.nx=Uz.wrap (M.pc+4):=by rw [f];rfl
 rw [<- f] at h o j;clear f;refine fD (args:=[.p g 0]) (Tq B g w0 M A d) func161 ?_;refine aL 0 1 ?_;cases hz:(a.tmod n != 0) with
 | true =>rw [if_pos rfl];refine aW (Tq.eng (dr:=true)) {} 60 h (λW Y=>o W Y hz) ?_;rintro W1 e W2 h1 ⟨rfl,u⟩;refine ⟨_,0,rfl,gp a3,?_⟩;exact DA (R:=[]) trivial {} 40 a3 a3 rfl u ⟨gX (k:=6) rfl rfl,J,l,m,λ_=>⟨6,a5,rfl⟩⟩
 | false =>
   rw [if_neg a5];refine aW (Tq.eng (dr:=true)) {} 60 h (λW Y=>j W Y hz) ?_;rintro W1 e W2 h1 ⟨C,rfl,u⟩;refine ⟨_,0,rfl,gp a3,?_⟩;unfold wQ at u;cases P:(((T:Nat):Int) != 0) with
   | true =>rw [P,if_pos rfl] at u;rw [if_pos rfl,Int.toNat_natCast];exact DA (R:=[]) trivial {} 40 a3 a3 rfl u ⟨gX (k:=T) rfl rfl,K,l,m,λ_=>⟨T,S,rfl⟩⟩
   | false =>
     rw [P,if_neg a5] at u;rw [if_neg a5];refine cW (R:=[]) trivial {} 14 ?_;refine aE [.code (aG 2 (bD Tryz.f161))] [(0,.p g 0,1),(2,.u p,0)] ?_;refine aR (λ_=>True) ?_;refine oK (R1:=[⟨g,br N C {d with rs:=1},[]⟩]) (Iv.one u.row) {} 7 λW3 h3=>?_;have U:=u.iv h3 rfl;refine aE [.code (aG 3 (bD Tryz.f161))] [(0,.p g 0,1),(2,.u p,0)] ?_;have no:∀ (H:Hw prog (Ag [g] W3)),(N.hl&&(N.hd==p))=false->((dE prog H Tryz.f161.ntmps 60 [.code (aG 3 (bD Tryz.f161))] [(0,.p g 0,1),(2,.u p,0)] [⟨g,br N C {d with rs:=1},[]⟩]).1.1,(dE prog H Tryz.f161.ntmps 60 [.code (aG 3 (bD Tryz.f161))] [(0,.p g 0,1),(2,.u p,0)] [⟨g,br N C {d with rs:=1},[]⟩]).1.2.2.2)=(false,[⟨g,br (bT N false 0) C {d with rs:=1},[]⟩]) ->
      (dE prog H Tryz.f161.ntmps 60 [.code (aG 3 (bD Tryz.f161))] [(0,.p g 0,1),(2,.u p,0)] [⟨g,br N C {d with rs:=1},[]⟩]).1.2.1.isEmpty=true->(dE prog H Tryz.f161.ntmps 60 [.code (aG 3 (bD Tryz.f161))] [(0,.p g 0,1),(2,.u p,0)] [⟨g,br N C {d with rs:=1},[]⟩]).2.map Prod.fst=(dE prog H Tryz.f161.ntmps 60 [.code (aG 3 (bD Tryz.f161))] [(0,.p g 0,1),(2,.u p,0)] [⟨g,br N C {d with rs:=1},[]⟩]).2.map Prod.snd ->
      Wg prog (λ_=>True) (bodyPost prog Tryz.f161 (TR B g w0 (Pf false (if (N.hl&&(N.hd==p))=true then (if ((aC N a n 3 b).2.2 != 0)=true then cw (aC N a n 3 b) 0 a else (aP (bT (aC N a n 3 b).2.1 false 0) i.rd 0 (Uz.wrap (M.pc+4)),1)) else (aP (bT N false 0) i.rd 1 (Uz.wrap (M.pc+4)),1)) i))) Tryz.f161.ntmps [.code (aG 3 (bD Tryz.f161))] [(0,.p g 0,1),(2,.u p,0)] W3:=by
      intro H hn0 hx hz1 he
      rw [hn0,if_neg a5]
      refine fH (Iv.one U.row) H 60 (hx:=hx) (hz:=hz1) (he:=he) λW5 V=>⟨rfl,bT N false 0,C,{d with rs:=1},?_,U.iv V rfl⟩
      refine ⟨?_,K.hold kO (Or.inr rfl),l,m,λe=>by rw [show TV.up {d with rs:=1}=d.up from rfl,r] at e;cases e⟩
      rw [iA (t:={d with rs:=1}) r,<- O,<- l]
     cases z:N.hl with
     | false =>have:=no {eq:=[(18,au z)]} (by rw [z];rfl) a3 a3 a3;rw [z] at this;exact this
     | true =>
       cases Q:(N.hd==p) with
       | false =>have:=no {eq:=[(18,au z),(26,au Q)]} (by rw [z,Q];rfl) a3 a3 a3;rw [z,Q] at this;exact this
       | true =>
         clear no;rw [if_pos a5];have V:=U;have ga:=K.acc a n 3 b;have Z:=λW (h:Tq B g w0 N C {d with rs:=1} W)=>QJ h (by rw [s];exact x) (show 0<=d.ra by rw [E];exact q.a0) (show d.ra<=31 by rw [E];exact q.a31) (v:=a) (show N.x.getD d.ra.toNat 0=a by rw [s,E];exact ea);have hb2:=λW (h:Tq B g w0 N C {d with rs:=1} W)=>QR h (by rw [s];exact x) (show 0<=d.rb by rw [G];exact q.b0) (show d.rb<=31 by rw [G];exact q.b31) (v:=b) (show N.x.getD d.rb.toNat 0=b by rw [s,G];exact eb);have hst:=λW (h:Tq B g w0 N C {d with rs:=1} W)=>yH h K (show d.ld=_ from hld) .sc n true al (show d.fm=_ by rw [m,hf]) a b ua ub;have hrf:=λX (hX:aC N a n 3 b=X) P=>mi (cf:=false) (i:=i) (t:={d with rs:=1}) hX K P l m;generalize aC N a n 3 b=X at *;obtain ⟨y,N2,c2⟩:=X;dsimp only at *;refine aR (Tq B g w0 N C {d with rs:=1}) ?_;refine aW (Tq.eng (dr:=true)) {eq:=[(18,au z),(26,au Q)],cv:=[(30,rT Z),(32,rT hb2)]} 80 V hst ?_;rintro W6 e W7 h6 ⟨D,rfl,I⟩;refine ⟨_,0,rfl,gp a3,?_⟩;cases L:(c2 != 0) with
         | true =>rw [if_pos rfl];exact DA (R:=[]) trivial {} 40 a3 a3 rfl I (hrf _ rfl L)
         | false =>rw [if_neg a5];unfold mM at I;dsimp only at I;rw [L,if_neg a5] at I;refine aR (λ_=>True) ?_;refine fH (R1:=[⟨g,br (bT N2 false 0) D {d with rs:=0},[]⟩]) (Iv.one I.row) {} 60 λW8 h8=>⟨rfl,bT N2 false 0,D,{d with rs:=0},?_,I.iv h8 rfl⟩;refine ⟨?_,ga.hold kO (Or.inr rfl),l,m,λe=>by rw [show TV.up {d with rs:=0}=d.up from rfl,r] at e;cases e⟩;rw [iA (t:={d with rs:=0}) r,<- O,<- l]
theorem P6 (i:Ins) (wd:Int) (q:jg i) (h63:63<=i.op) (h84:i.op<=84) (hop:¬ (i.op=63\/i.op=74)/\¬ (i.op=64\/i.op=75)) (h:Tq B g w0 M A (t0 M i wd) w) (T:Gd M) (hd:Ud M.d):Calls prog 162 #[.p g 0] w (TR B g w0 (Pf false (ix M i (M.x.getD i.a.toNat 0) (M.x.getD i.b.toNat 0)) i)):=by
 obtain ⟨hn,wn,ws⟩:=Bd q h63 h84;have hf:dV i.op=ml .am (aZ i.op:Nat) true:=by unfold dV;rw [if_neg al,if_neg al,if_neg al,if_neg al,if_neg al,if_pos al,if_neg hop.1,if_neg hop.2,wn,ws]
 have u:=T.x32;have ua:=T.ux i.a.toNat;have ub:=T.ux i.b.toNat;have k0:(me i.op==0)=false:=by unfold me;split<;>simp<;>omega
 have k1:(me i.op==1)=false:=by unfold me;split<;>simp<;>omega
 have eV:∀ (a b:Int) (N:MV) (n:Nat),a=M.x.getD i.a.toNat 0->b=M.x.getD i.b.toNat 0->N=cR M a 3->n=aZ i.op->ix M i a b=if (a.tmod n != 0)=true then (aJ M 6 false a,2) else if ((bU M a 3).code != 0)=true then (aJ N (bU M a 3).code.toNat false a,2) else if ((aC N a n 2 0).2.2 != 0)=true then cw (aC N a n 2 0) 2 a else if ((aC (aC N a n 2 0).2.1 a n 3 (iu i.op (aC N a n 2 0).1 b)).2.2 != 0)=true then cw (aC (aC N a n 2 0).2.1 a n 3 (iu i.op (aC N a n 2 0).1 b)) 0 a else (aP (aC (aC N a n 2 0).2.1 a n 3 (iu i.op (aC N a n 2 0).1 b)).2.1 i.rd (aq (8*n) (aC N a n 2 0).1) (Uz.wrap (M.pc+4)),1):=by intro a b N n e1 e2 e3 e4;subst e1 e2 e3 e4;unfold ix;rw [k0,k1,if_neg a5,EP ua,if_neg (show ¬ (false=true) by decide)];rfl
 rw [eV _ _ _ _ rfl rfl rfl rfl];clear eV k0 k1 wn ws;have o:=λW (h:Tq B g w0 M A (t0 M i wd) W)=>Bc h u q.a0 q.a31 .am _ true hn hf;have m:=λW (h:Tq B g w0 M A (t0 M i wd) W)=>EO h T rfl q.a0 q.a31 .am _ true hn hf;have gl:Gd (cR M (M.x.getD i.a.toNat 0) 3):=T.marked _;have dl:Ud (cR M (M.x.getD i.a.toNat 0) 3).d:=hd;obtain ⟨cc,c16,hcc⟩:∃ c:Nat,c<16/\(bU M (M.x.getD i.a.toNat 0) 3).code=c:=kL M.ram M.ram.length M.cs (eC M.cs M.pr 3) (M.x.getD i.a.toNat 0) 3;rw [show (t0 M i wd).ra=i.a from rfl] at o m;have O:(cR M (M.x.getD i.a.toNat 0) 3).x=M.x:=rfl;generalize ea:M.x.getD i.a.toNat 0=a at *;generalize eb:M.x.getD i.b.toNat 0=b at *;generalize aZ i.op=n at *;generalize cR M a 3=N at *;generalize bU M a 3=F at *;obtain ⟨pa,fc,fm,ft,fe⟩:=F;dsimp only at *;subst hcc;obtain ⟨l,f⟩:∃ l:TV,l=t0 M i wd:=⟨_,rfl⟩;have hup:l.up=false:=by rw [f];rfl
 have hld:l.ld=.func (.func 40) #[] #[]:=by rw [f];rfl
 have H:l.ra=i.a:=by rw [f];rfl
 have hrb:l.rb=i.b:=by rw [f];rfl
 have I:l.rd=i.rd:=by rw [f];rfl
 have hto:l.op=i.op:=by rw [f];rfl
 have p:l.fm=dV i.op:=by rw [f];rfl
 have hnx:l.nx=Uz.wrap (M.pc+4):=by rw [f];rfl
 rw [<- f] at h o m;clear f;refine fD (args:=[.p g 0]) (Tq B g w0 M A l) func162 ?_;refine aL 0 1 ?_;cases hz:(a.tmod n != 0) with
 | true =>rw [if_pos rfl];refine aW (Tq.eng (dr:=true)) {} 60 h (λW hW=>o W hW hz) ?_;rintro W1 e W2 h1 ⟨rfl,K⟩;refine ⟨_,0,rfl,gp a3,?_⟩;exact DA (R:=[]) trivial {} 40 a3 a3 rfl K ⟨gX (k:=6) rfl rfl,T,I,p,λ_=>⟨6,a5,rfl⟩⟩
 | false =>
   rw [if_neg a5];refine aW (Tq.eng (dr:=true)) {} 60 h (λW hW=>m W hW hz) ?_;rintro W1 e W2 h1 ⟨C,rfl,K⟩;refine ⟨_,0,rfl,gp a3,?_⟩;unfold wQ at K;cases hc:(((cc:Nat):Int) != 0) with
   | true =>rw [hc,if_pos rfl] at K;rw [if_pos rfl,Int.toNat_natCast];exact DA (R:=[]) trivial {} 40 a3 a3 rfl K ⟨gX (k:=cc) rfl rfl,gl,I,p,λ_=>⟨cc,c16,rfl⟩⟩
   | false =>
     rw [hc,if_neg a5] at K;rw [if_neg a5];refine cW (R:=[]) trivial {} 13 ?_;refine aE [.code (aG 1 (bD Tryz.f162))] [(0,.p g 0,1)] ?_;have ha2:=λW (h:Tq B g w0 N C l W)=>QJ h (by rw [O];exact u) (by rw [H];exact q.a0) (by rw [H];exact q.a31) (v:=a) (by rw [O,H];exact ea);have hl2:=λW (h:Tq B g w0 N C l W)=>Dz h gl hld .am n true al (by rw [p,hf]) a ua;have ga:=gl.acc a n 2 0;have da:=yw dl a n 2 kO;have uy:=rO gl dl a n al 2 0;have r:=(iw N a n 2 0).2.1;have e18:=λc=>yv (M:=N) (addr:=a) (size:=n) (x:=0) (c:=c);rw [O] at r;generalize aC N a n 2 0=X at *;obtain ⟨y,s,V⟩:=X;dsimp only at *;refine aR (Tq B g w0 N C l) ?_;refine aW (Tq.eng (dr:=true)) {cv:=[(18,rT ha2)]} 60 K hl2 ?_;rintro W3 e W4 h3 ⟨D,rfl,G⟩;refine ⟨_,0,rfl,gp a3,?_⟩;unfold rK mM at G;dsimp only at G;cases L:(V != 0) with
     | true =>obtain ⟨q1,q2,q3⟩:=e18 V rfl L;rw [L,if_pos rfl,if_pos rfl] at G;rw [if_pos rfl];refine aR (λ_=>True) ?_;rw [q1] at G;refine n6 (R1:=[⟨g,br s D {l with up:=true,cz:=(((V-16).toNat+2:Nat):Int),vl:=a},[]⟩]) (Iv.one G.row) {eq:=[(28,ei .i64 q2)]} 60 λW5 h5=>⟨rfl,s,D,{l with up:=true,cz:=(((V-16).toNat+2:Nat):Int),vl:=a},?_,G.iv h5 rfl⟩;exact ⟨gX (k:=(V-16).toNat+2) rfl rfl,ga,I,p,λ_=>⟨_,q3,rfl⟩⟩
     | false =>
       rw [L,if_neg a5,if_pos rfl] at G;rw [if_neg a5];refine cW (R:=[]) trivial {} 14 ?_;refine aE [.code (aG 3 (bD Tryz.f162))] [(0,.p g 0,1),(4,.u y,0)] ?_;obtain ⟨j,d⟩:∃ j:TV,j={l with rs:=aq (8*n) y}:=⟨_,rfl⟩;have up2:j.up=false:=(by rw [d];exact hup);have ld2:j.ld=.func (.func 40) #[] #[]:=(by rw [d];exact hld);have P:j.ra=i.a:=(by rw [d];exact H);have Q:j.rb=i.b:=(by rw [d];exact hrb);have S:j.rd=i.rd:=(by rw [d];exact I);have to2:j.op=i.op:=(by rw [d];exact hto);have J:j.fm=dV i.op:=(by rw [d];exact p);have nx2:j.nx=Uz.wrap (M.pc+4):=(by rw [d];exact hnx);have rs2:j.rs=aq (8*n) y:=(by rw [d]);rw [<- d] at G;clear d;have uv:U (iu i.op y b):=EI i.op uy ub;have ha3:=λW (h:Tq B g w0 s D j W)=>QJ h (by rw [r];exact u) (by rw [P];exact q.a0) (by rw [P];exact q.a31) (v:=a) (by rw [r,P];exact ea);have hb3:=λW (h:Tq B g w0 s D j W)=>QR h (by rw [r];exact u) (by rw [Q];exact q.b0) (by rw [Q];exact q.b31) (v:=b) (by rw [r,Q];exact eb);have hm3:=λW (_:Tq B g w0 s D j W)=>AQ i.op y b (rN al al) uy.1 uy.2 ub.1 ub.2 W;have hst:=λW (h:Tq B g w0 s D j W)=>yH h ga ld2 .am n true al (by rw [J,hf]) a (iu i.op y b) ua uv;have gb:=ga.acc a n 3 (iu i.op y b);have hrf:=λX (hX:aC s a n 3 (iu i.op y b)=X) hc=>mi (cf:=false) (i:=i) (t:=j) hX ga hc S J;generalize iu i.op y b=z at *;generalize qC i.op=zb at *;generalize aC s a n 3 z=Y at *;obtain ⟨y3,N3,c3⟩:=Y;dsimp only at *;refine aR (Tq B g w0 s D j) ?_;refine aW (Tq.eng (dr:=true)) {eq:=[(36,ei .i64 to2)],cv:=[(39,rT hb3),(40,KX hm3),(45,rT ha3)]} 80 G hst ?_;rintro W5 e W6 h5 ⟨E,rfl,h6⟩;refine ⟨_,0,rfl,gp a3,?_⟩;refine kY {} 40 a3 a3 rfl ⟨rfl,N3,E,_,?_,h6⟩;cases Z:(c3 != 0) with
       | true =>rw [if_pos rfl];exact hrf _ rfl Z
       | false =>rw [if_neg a5];unfold mM;dsimp only;rw [Z,if_neg a5];refine ⟨?_,gb,S,J,λe=>by rw [up2] at e;cases e⟩;rw [iA up2,nx2,S,rs2]
end
end Go.Proofs.YtjifdmoehfbihaaGreatDoor
