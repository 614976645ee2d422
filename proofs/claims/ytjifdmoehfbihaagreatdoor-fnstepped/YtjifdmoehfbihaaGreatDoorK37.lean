/- Own lemmas. -/
import Derived.Test.YtjifdmoehfbihaaGreatDoorAut
import Derived.Test.YtjifdmoehfbihaaGreatDoorK36
set_option maxRecDepth 100000
namespace Go.Proofs.YtjifdmoehfbihaaGreatDoor
open Go.RowKit Tryz
open IntKind renaming u64->Uz
set_option linter.unusedVariables false
structure Tz (B g:Nat) (w0:World) (M:MV) (A:MA) (t:TV) (K:Nat) (a':Option Addr) (c':Nat) (l:List Int) (W:World):Prop where
 q:Tq B g w0 M A t W
 f:bx B K W (aI M A)
 o:W.ownsRow K 22 1 (.slice a' l.length c') l.length (l.map (Value.int .u64))
 bk:B<=K
 kw:K<=W.heap.size
 gk:g<K
def UF:Go.Code->Go.Code
 | .block _ c=>c
 | c=>c
section
variable {B g K : Nat} {w0 w w' W : World} {M M' : MV} {A A' : MA} {t t' : TV} {a' : Option Addr} {c' : Nat} {l : List Int}
theorem Tz.below (h:Tz B g w0 M A t K a' c' l w) (hb:Bw w w'):Tz B g w0 M A t K a' c' l w' :=
 ⟨h.q.below hb,h.f.below hb,fH h.o λk e=>hb.block k (h.o.lt k e).2,h.bk,Nat.le_trans h.kw hb.size,h.gk⟩
theorem Tz.iv (h:Tz B g w0 M A t K a' c' l w) (k:Iv [g] w [⟨g,bH M A t',[]⟩] w'):Tz B g w0 M A t' K a' c' l w':=by have a:=h.gk;exact ⟨h.q.iv k rfl,h.q.other h.f k,fH h.o λi e=>k.ag.block i (h.o.lt i e).2 (by rw [List.mem_singleton];have:=(h.o.lt i e).1;omega),h.bk,Nat.le_trans h.kw k.ag.size,h.gk⟩
theorem Tz.eng {P:Program} {fn:Func} {Rs:Ending->World->Prop} {dr:Bool}:nE P (Tz B g w0 M A t K a' c' l) (Tz B g w0 M A t K a' c' l) [⟨g,bH M A t,[]⟩] dr (bodyPost P fn Rs):=
 ⟨λ_ h=>h,λW h r a=>by rw [List.mem_singleton] at a;subst a;exact h.q.row.in_,λ_ W h=>h.below (Below.refl _ _).drew,ct⟩
theorem Tz.eng2 {P:Program} {fn:Func} {Rs:Ending->World->Prop} {dr:Bool} {b:Nat} {a2:Option Addr} {c2:Nat} {c:List Int}:nE P (Tz B g w0 M A t K a' c' l) (λW=>Tz B g w0 M A t K a' c' l W/\Tz B g w0 M A t b a2 c2 c W) [⟨g,bH M A t,[]⟩] dr (bodyPost P fn Rs):=
 ⟨λ_ h=>h.1,λW h r a=>by rw [List.mem_singleton] at a;subst a;exact h.q.row.in_,λ_ W h=>⟨h.1.below (Below.refl _ _).drew,h.2.below (Below.refl _ _).drew⟩,ct⟩
def Vf {P:Program} {f:Nat} {args:Array Value} {v:Value} (h:∀ W,Tz B g w0 M A t K a' c' l W->Calls P f args W λe w'=>e=.returned v/\Iv [g] W [⟨g,bH M A t,[]⟩] w'):Cv P (Tz B g w0 M A t K a' c' l):=⟨f,args,v,0,λW a=>(h W a).mono λe w' k=>⟨k.1,a.iv k.2⟩⟩
theorem Tz.set {b:Nat} (h:Tz B g w0 M A t K (some ⟨b,0,none⟩) c' l w) (i:Nat) (v:Int):Tz B g w0 M A t K (some ⟨b,0,none⟩) c' (l.set i v) (w.setCell ⟨b,i,none⟩ (.u v)):=by
 have f:=h.o.stored i (.u v);rw [mC] at f;have n:=(h.o.lt b rfl).1;have c:∀ k,k≠b->(w.setCell ⟨b,i,none⟩ (.u v)).heap[k]?=w.heap[k]?:=λk c=>Below.heap_setCell w _ _ k c;have a:(w.setCell ⟨b,i,none⟩ (.u v)).heap.size=w.heap.size:=aO _ _ _;have p:=h.bk;have o:=h.gk;refine ⟨⟨?_,?_,h.q.ne,by rw [a];exact h.q.le,h.q.os,h.q.tape,h.q.output,by rw [a];exact h.q.size,λk j d=>(c k ab).trans (h.q.block k j d),h.q.t0,h.q.tb,h.q.tn⟩,h.f.mono λk _ d _=>c k ab,?_,h.bk,by rw [a];exact h.kw,h.gk⟩;·obtain ⟨T,m⟩:=h.q.row;exact ⟨T,(c g ab).trans m⟩
 ·rw [a];have e:K<=w.heap.size:=(by have:=(h.o.lt b rfl).2;omega);exact (h.f.mono λk _ d _=>c k ab).low (Nat.le_refl _) e
 ·rw [List.length_set];exact f.1
theorem Tz.csrs (h:Tz B g w0 M A t K a' c' l w) (a:M'.x=M.x/\M'.cs=l/\M'.ram=M.ram/\M'.d=M.d) (k:Iv [g] w [⟨g,bH M' {A with ac:=a',cc:=c'} t',[]⟩] w'):Tq B g w0 M' {A with ac:=a',cc:=c'} t' w':=by
 have c:=h.gk;have o:=fH (w':=w') h.o λi e=>k.ag.block i (h.o.lt i e).2 (by rw [List.mem_singleton];have:=(h.o.lt i e).1;omega);have b:K<=w'.heap.size:=Nat.le_trans h.kw k.ag.size;have f:=h.q.other h.f k;have d:=zT (L1:=[aJ A.ax M.x.length A.cx M.x]) (L2:=[aF A.ar M.ram.length A.cr M.ram,aF A.ai M.d.xs.length A.ci M.d.xs,aF A.ao M.d.ys.length A.co M.d.ys]) (r:=aJ A.ac M.cs.length A.cc M.cs) (q:=aJ a' l.length c' l) h.q.ne λe=>by have:=(o.lt g e).1;omega
 refine h.q.iv1 k ?_ (by unfold aI;rw [a.1,a.2.1,a.2.2.1,a.2.2.2];exact d);unfold aI;rw [a.1,a.2.1,a.2.2.1,a.2.2.2];exact bx.swap (L1:=[aJ A.ax M.x.length A.cx M.x]) (r:=aJ A.ac M.cs.length A.cc M.cs) (L2:=[aF A.ar M.ram.length A.cr M.ram,aF A.ai M.d.xs.length A.ci M.d.xs,aF A.ao M.d.ys.length A.co M.d.ys]) f (aJ a' l.length c' l) o h.bk b (Nat.le_refl _)
theorem Tz.at_ (h:Tz B g w0 M A t K a' c' l w) (a:l.length=22):∃ b,a'=some ⟨b,0,none⟩/\∀ j,j<22->w.cell? ⟨b,j,none⟩=some (.u (l.getD j 0))/\w.frozen? ⟨b,j,none⟩=false:=by obtain ⟨b,c,e,d⟩:=rT h.o a ab;exact ⟨b,c,d⟩
theorem JA (a:Int) (h:Tq B g w0 M A t w) (c:M.x.length=32) (f:0<=t.ra) (i:t.ra<=31) (l:87<=t.op/\t.op<=92):Calls prog 217 #[.p g 0,.u a] w λe w'=>e=.returned (.u (pj t.op a (if 90<=t.op then Uz.wrap t.ra else M.x.getD t.ra.toNat 0)))/\Iv [g] w [⟨g,bH M A t,[]⟩] w':=by obtain ⟨b,j,d,k⟩:=h.atX c;have:=Jh (x:=M.x.getD (0+t.ra.toNat) 0) a h.row ab j ⟨f,ab⟩ d (k (0+t.ra.toNat) ab).1;rw [Nat.zero_add] at this;exact this
theorem Pv (i:Ins) (a old:Int) (c:87<=i.op) (d:i.op<=92):tB i a old=pj i.op old (if 90<=i.op then Uz.wrap i.a else a):=by
 obtain ⟨b,h,f,g,e⟩:=i;dsimp only at c d;unfold tB pj lK;dsimp only;obtain rfl|rfl|rfl|rfl|rfl|rfl:b=87\/b=88\/b=89\/b=90\/b=91\/b=92:=ab
 all_goals rfl
theorem TD (i:Ins) (wd:Int) (hi:jA i) (h87:87<=i.op) (h92:i.op<=92) (h:Tq B g w0 M A (t0 M i wd) w) (Z:Gd M):Calls prog 163 #[.p g 0] w (TR B g w0 (Pf true (ml M i (M.x.getD i.a.toNat 0) wd) i)):=by
 obtain ⟨G,hcs,hpr,_,_,_⟩:=ay Z.ok;have h32:=Z.x32;have ua:=Z.ux i.a.toNat;have uc:=Z.mw.cs;obtain ⟨V,hV⟩:∃ V,ml M i (M.x.getD i.a.toNat 0) wd=V:=⟨_,rfl⟩;rw [hV];have D:=λW (h:Tq B g w0 M A (t0 M i wd) W)=>tu A.ac M.cs.length A.cc M.cs i.imm M.pr W rfl h.sl.cs uc;rw [KR _ _ uc,vi _ _ uc] at D;obtain ⟨d,p⟩:∃ d:TV,d=t0 M i wd:=⟨_,rfl⟩;have L:d.up=false:=by rw [p];rfl
 have n:d.ra=i.a:=by rw [p];rfl
 have s:d.rd=i.rd:=by rw [p];rfl
 have C:d.fm=ew i.op:=by rw [p];rfl
 have K:d.nx=Uz.wrap (M.pc+4):=by rw [p];rfl
 have hwd:d.wd=wd:=by rw [p];rfl
 have m:d.op=i.op:=by rw [p];rfl
 have him:d.im=i.imm:=by rw [p];rfl
 rw [<- p] at h D;clear p;refine fT (args:=[.p g 0]) (Tq B g w0 M A d) func163 ?_;refine aL 0 1 ?_; -- refused
 have bad:∀ (S:World->Prop) (a:TV),a.wd=wd->a.rd=i.rd->a.fm=ew i.op->V=(aK M 2 false wd,2)->∀ (H:Hn prog (Tq B g w0 M A a) (Tq B g w0 M A a)) (k:List KI) (F:Fr) (W:World),Tq B g w0 M A a W->gZ k=true->((be prog [⟨g,bH M A a,[]⟩] H Tryz.f163.ntmps true 60 k F).1.1,NB prog Tryz.f163.ntmps (be prog [⟨g,bH M A a,[]⟩] H Tryz.f163.ntmps true 60 k F).1.2.2 (be prog [⟨g,bH M A a,[]⟩] H Tryz.f163.ntmps true 60 k F).1.2.1)=(false,some (151,#[.p g 0]))->(be prog [⟨g,bH M A a,[]⟩] H Tryz.f163.ntmps true 60 k F).2.map Prod.fst=(be prog [⟨g,bH M A a,[]⟩] H Tryz.f163.ntmps true 60 k F).2.map Prod.snd ->
  (yJ (be prog [⟨g,bH M A a,[]⟩] H Tryz.f163.ntmps true 60 k F).1.2.2 (be prog [⟨g,bH M A a,[]⟩] H Tryz.f163.ntmps true 60 k F).1.2.1,gZ (oI (be prog [⟨g,bH M A a,[]⟩] H Tryz.f163.ntmps true 60 k F).1.2.2 (be prog [⟨g,bH M A a,[]⟩] H Tryz.f163.ntmps true 60 k F).1.2.1))=(false,true) ->
  (∀ J:World->Prop,(λ(y:(Bool × List KI × Fr) × List (Oe × Oe))=>(y.1.1,y.2.map Prod.fst)) (be prog [] ({}:Hn prog J J) Tryz.f163.ntmps false 20 (oI (be prog [⟨g,bH M A a,[]⟩] H Tryz.f163.ntmps true 60 k F).1.2.2 (be prog [⟨g,bH M A a,[]⟩] H Tryz.f163.ntmps true 60 k F).1.2.1) (pP (be prog [⟨g,bH M A a,[]⟩] H Tryz.f163.ntmps true 60 k F).1.2.2 (be prog [⟨g,bH M A a,[]⟩] H Tryz.f163.ntmps true 60 k F).1.2.1 (.tuple #[]) 0))=(true,[])) ->
  Wg prog S (bodyPost prog Tryz.f163 (TR B g w0 (Pf true V i))) Tryz.f163.ntmps k F W:=by
  intro S a x1 x2 x3 x4 H k F W z hn hx he hb hy
  simp only [Prod.mk.injEq] at hb
  refine aH (Tq B g w0 M A a) (hn:=hn) ?_
  refine aN (Tq.eng (dr:=true)) H 60 z (λW z=>oM z.row) (hx:=hx) (he:=he) λW1 e w2 h1 hr=>⟨_,0,hr.1,gm hb.1,?_⟩
  have h2:=h1.iv hr.2 rfl
  have hy2:=hy (λx=>x=w2)
  simp only [Prod.mk.injEq] at hy2
  refine ET (R:=[]) trivial {} 20 (by rw [hb.2,hy2.1]) ?_ rfl h2 ⟨?_,Z,x2,x3,λ_=>⟨2,bb,rfl⟩⟩
  ·have:(be prog [] ({}:Hn prog (λx=>x=w2) (λx=>x=w2)) Tryz.f163.ntmps false 20 (oI (be prog [⟨g,bH M A a,[]⟩] H Tryz.f163.ntmps true 60 k F).1.2.2 (be prog [⟨g,bH M A a,[]⟩] H Tryz.f163.ntmps true 60 k F).1.2.1) (pP (be prog [⟨g,bH M A a,[]⟩] H Tryz.f163.ntmps true 60 k F).1.2.2 (be prog [⟨g,bH M A a,[]⟩] H Tryz.f163.ntmps true 60 k F).1.2.1 (.tuple #[]) 0)).2=[]:=List.map_eq_nil_iff.1 hy2.2
   rw [this];rfl
  ·rw [iu (k:=2) rfl rfl,x4]
   show (aK M 2 false a.wd,2)=_
   rw [x1]
 cases t:jf M.cs.length M.cs i.imm M.pr with
 | false =>rw [t] at D;have x4:V=(aK M 2 false wd,2):=(by rw [<- hV];unfold ml;rw [t];rfl);exact bad _ d hwd s C x4 {eq:=[(15,dI .i64 him)],cv:=[(21,NE D)]} _ _ w h al al al al (λ_=>al)
 | true =>
   rw [t,if_pos rfl] at D;have hold:=MO uc i.imm;have hkn:dj i.imm=true:=(by have q:=t;unfold jf at q;simp only [Bool.and_eq_true] at q;exact q.1.1.2);have f:(if (dS i&&((wrap64 (i.imm.tdiv 1024)).tmod 4==3))=true then (aK M 2 false wd,2) else (if dS i=true then iz (aT M i.rd (dq M.cs i.imm) (Uz.wrap (M.pc+4))) (bU (M.cs.set 21 (Uz.wrap (M.cs.getD 21 0+1))) i.imm (tB i (M.x.getD i.a.toNat 0) (dq M.cs i.imm))) else aT M i.rd (dq M.cs i.imm) (Uz.wrap (M.pc+4)),1))=V:=(by rw [<- hV];unfold ml;rw [t];rfl);clear hV;have hX:=Pv i (M.x.getD i.a.toNat 0) (dq M.cs i.imm) h87 h92;generalize dq M.cs i.imm=old at *;have fin:∀ (S:World->Prop) (K2:Nat) (X:Option Addr) (Y:Nat) (l2:List Int) (a:TV) (W:World),Tz B g w0 M A a K2 X Y l2 W->a.rd=i.rd->a.fm=ew i.op->a.up=false->a.nx=Uz.wrap (M.pc+4)->Gd (iz M l2)->(iz (aT M i.rd old (Uz.wrap (M.pc+4))) l2,1)=V->Wg prog S (bodyPost prog Tryz.f163 (TR B g w0 (Pf true V i))) Tryz.f163.ntmps [.code (az 5 (aW Tryz.f163))] [(0,.p g 0,1),(2,.u old,0),(3,.bool true,0),(4,.slice X l2.length Y,0)] W:=(by intro S K2 X Y l2 a W hz x1 x2 x3 x4 x5 x6;refine aH (λ_=>True) ?_;refine fY (R1:=[⟨g,bH (iz M l2) {A with ac:=X,cc:=Y} {a with rs:=old},[]⟩]) (Iv.one hz.q.row) {} 60 λW5 h5=>⟨rfl,iz M l2,_,{a with rs:=old},⟨?_,x5,x1,x2,λe=>by rw [show TV.up {a with rs:=old}=a.up from rfl,x3] at e;cases e⟩,hz.csrs ⟨rfl,rfl,rfl,rfl⟩ h5⟩;rw [<- x6];unfold tD;rw [show TV.up {a with rs:=old}=a.up from rfl,x3];unfold iz aT;rw [<- x4,<- x1];rfl);refine aN (Tq.eng (dr:=true)) {eq:=[(15,dI .i64 him)],cv:=[(21,NE D)]} 100 h (λW z=>oy A.ac M.cs.length A.cc M.cs W rfl Z.len.cs z.sl.cs) ?_;rintro W1 e W2 h1 ⟨a',c',rfl,o2,k2⟩;refine ⟨_,0,rfl,gm al,?_⟩;have hz2:Tz B g w0 M A d W1.heap.size a' c' M.cs W2:=⟨h1.below k2,h1.fam.below k2,o2,h1.le,k2.size,h1.glt⟩;obtain ⟨b,rfl,_⟩:=hz2.at_ G;have cc:∀ W,Tz B g w0 M A d W1.heap.size (some ⟨b,0,none⟩) c' M.cs W->W.cell? ⟨b,0+(21:Int).toNat,none⟩=some (.u (M.cs.getD 21 0))/\W.frozen? ⟨b,0+(21:Int).toNat,none⟩=false:=λW z=>by obtain ⟨b',hb',P⟩:=z.at_ G;cases hb';exact P 21 ab
   refine aH (Tz B g w0 M A d W1.heap.size (some ⟨b,0,none⟩) c' M.cs) ?_;refine ae (Tz.eng (dr:=false)) {ov:=[(35,kN (b:=b) (o:=0) M.cs.length c' .i64 21 rfl ⟨ab,ab⟩ underlying23 al),(36,iR ⟨b,0+(21:Int).toNat,none⟩ (.u (M.cs.getD 21 0)) underlying22 rfl (λW z=>(cc W z).1)),(38,kN (b:=b) (o:=0) M.cs.length c' .i64 21 rfl ⟨ab,ab⟩ underlying23 al)]} 40 hz2 λW3 hz3=>?_;refine bJ (jh (T:=22) (v:=.u (Uz.wrap (M.cs.getD 21 0+1))) (cc W3 hz3) al rfl) ?_;have c:=hz3.set 21 (Uz.wrap (M.cs.getD 21 0+1));have E:(M.cs.set 21 (Uz.wrap (M.cs.getD 21 0+1))).length=22:=(by rw [List.length_set];exact G);have Q:bq 22 (M.cs.set 21 (Uz.wrap (M.cs.getD 21 0+1)))=true:=cH M.cs G hcs 21 ab _ (beq_self_eq_true _);have lU:∀ j,U ((M.cs.set 21 (Uz.wrap (M.cs.getD 21 0+1))).getD j 0):=jp _ uc 21 _ (aP _);have l9:(M.cs.set 21 (Uz.wrap (M.cs.getD 21 0+1))).getD 9 0=M.cs.getD 9 0:=jM _ 21 9 _ ab;have ll:M.cs.length=(M.cs.set 21 (Uz.wrap (M.cs.getD 21 0+1))).length:=(by rw [List.length_set]);have I:aT M i.rd old (Uz.wrap (M.pc+4))=iz (aT M i.rd old (Uz.wrap (M.pc+4))) (M.cs.set 21 (Uz.wrap (M.cs.getD 21 0+1))):=rfl;refine an (R:=[]) trivial {} 1 ?_;refine ah [.code (az 4 (aW Tryz.f163))] [(0,.p g 0,1),(2,.u old,0),(3,.bool true,0),(4,.slice (some ⟨b,0,none⟩) M.cs.length c',0)] ?_;rw [ll];rw [I] at f;generalize M.cs.set 21 (Uz.wrap (M.cs.getD 21 0+1))=l at *;clear I ll;have write:∀ (S:World->Prop),dS i=true->Wg prog S (bodyPost prog Tryz.f163 (TR B g w0 (Pf true V i))) Tryz.f163.ntmps [.code (az 1 (UF (az 1 (i8 (az 4 (aW Tryz.f163)))))),.blk 0,.code (az 5 (aW Tryz.f163))] [(0,.p g 0,1),(2,.u old,0),(3,.bool true,0),(4,.slice (some ⟨b,0,none⟩) l.length c',0)] (W3.setCell ⟨b,21,none⟩ (.u (Uz.wrap (M.cs.getD 21 0+1)))):=by
    intro S u;rw [u,Bool.true_and,if_pos rfl] at f;obtain ⟨a,r⟩:∃ a:TV,a={d with wr:=true}:=⟨_,rfl⟩;have xup:a.up=false:=(by rw [r];exact L);have xra:a.ra=i.a:=(by rw [r];exact n);have xrd:a.rd=i.rd:=(by rw [r];exact s);have xfm:a.fm=ew i.op:=(by rw [r];exact C);have xnx:a.nx=Uz.wrap (M.pc+4):=(by rw [r];exact K);have xwd:a.wd=wd:=(by rw [r];exact hwd);have xop:a.op=i.op:=(by rw [r];exact m);have xim:a.im=i.imm:=(by rw [r];exact him);refine aH (λ_=>True) ?_;refine nZ (R1:=[⟨g,bH M A {d with wr:=true},[]⟩]) (Iv.one c.q.row) {} 8 λW5 h5=>?_;rw [<- r] at h5;have hz5:=c.iv h5;clear r;have hwo:=λW (z:Tz B g w0 M A a W1.heap.size (some ⟨b,0,none⟩) c' l W)=>JA old z.q h32 (by rw [xra];exact hi.a0) (by rw [xra];exact hi.a31) (by rw [xop];exact ⟨h87,h92⟩);rw [xop,xra,<- hX] at hwo;have ux:U (tB i (M.x.getD i.a.toNat 0) old):=by
     have hga:U (lK i (M.x.getD i.a.toNat 0)):=(by unfold lK;split;exact aP _;exact ua);unfold tB;split;·exact af _ _ _
     ·split;·exact af _ _ _
      ·exact hga
    clear hX;generalize tB i (M.x.getD i.a.toNat 0) old=x at *;have N:=λW (z:Tz B g w0 M A a W1.heap.size (some ⟨b,0,none⟩) c' l W)=>rB (some ⟨b,0,none⟩) l.length c' l i.imm M.pr x W rfl (gv z.o) lU ux.1 ux.2;rw [IH _ _ rfl lU _ _ _ ux,xY _ _ lU] at N;have ewo:CN l.length l i.imm M.pr=!((wrap64 (i.imm.tdiv 1024)).tmod 4==3):=by
     unfold CN;have:jf l.length l i.imm M.pr=true:=by unfold jf at t ⊢;rw [G] at t;rw [E,Q];rw [hcs] at t;exact t
     rw [this,Bool.true_and]
    rw [ewo] at N;unfold CO at N;rw [ewo] at N;refine aH (Tz B g w0 M A a W1.heap.size (some ⟨b,0,none⟩) c' l) ?_;refine aN (Tz.eng (dr:=true)) {eq:=[(64,dI .i64 xim)],cv:=[(72,Vf hwo)]} 60 hz5 N ?_;rintro W6 e W7 h6 ⟨X,Y,rfl,o7,k7⟩;refine ⟨_,0,rfl,λ_=>h6.below k7,?_⟩;have h7:=h6.below k7;cases hro:((wrap64 (i.imm.tdiv 1024)).tmod 4==3) with
    | true =>rw [hro,if_pos rfl] at f;refine ae (Tz.eng (dr:=true)) {} 7 h7 λW8 h8=>?_;refine ah [.code (az 5 (aW Tryz.f163))] [(0,.p g 0,1),(3,.bool false,0)] ?_;exact bad _ a xwd xrd xfm f.symm {} _ _ W8 h8.q al al al al (λ_=>al)
    | false =>rw [hro,if_neg bb] at f;rw [hro] at o7;have o8:W7.ownsRow W6.heap.size 22 1 (.slice X (bU l i.imm x).length Y) (bU l i.imm x).length ((bU l i.imm x).map (Value.int .u64)):=o7;have gw:Gd (iz M (bU l i.imm x)):=(by have g1:Gd (iz M l):=Z.cs_ E Q lU (by rw [l9]);exact g1.cs_ (M:=iz M l) (by rw [pk];exact E) (sK _ E lU Q _ _ ux hkn) (Gc _ lU _ _ ux) (GF _ E _ _));generalize bU l i.imm x=l3 at *;have hz7:Tz B g w0 M A a W6.heap.size X Y l3 W7:=⟨h7.q,h6.q.fam.below k7,o8,h6.q.le,k7.size,h6.q.glt⟩;refine ae (Tz.eng2 (dr:=true)) {} 7 ⟨h7,hz7⟩ λW8 h8=>?_;exact ah _ _ (fin _ _ X Y l3 a W8 h8.2 xrd xfm xup xnx gw f)
   have g0:Gd (iz M l):=Z.cs_ E Q lU (by rw [l9]);by_cases O:i.a=0
   ·obtain e|e|e|e|e|e:i.op=87\/i.op=90\/i.op=88\/i.op=89\/i.op=91\/i.op=92:=ab;·refine an (R:=[⟨g,bH M A d,[]⟩]) ⟨c.q.row.in_,trivial⟩ {eq:=[(43,dI .i64 (m.trans e))]} 41 ?_;exact ah _ _ (write _ (by unfold dS;rw [e];rfl))
    ·refine an (R:=[⟨g,bH M A d,[]⟩]) ⟨c.q.row.in_,trivial⟩ {eq:=[(43,dI .i64 (m.trans e))]} 41 ?_;exact ah _ _ (write _ (by unfold dS;rw [e];rfl))
    ·refine an (R:=[⟨g,bH M A d,[]⟩]) ⟨c.q.row.in_,trivial⟩ {eq:=[(43,dI .i64 (m.trans e)),(53,dI .i64 (n.trans O))]} 36 ?_;exact a0n
    ·refine an (R:=[⟨g,bH M A d,[]⟩]) ⟨c.q.row.in_,trivial⟩ {eq:=[(43,dI .i64 (m.trans e)),(53,dI .i64 (n.trans O))]} 42 ?_;exact a0n
    ·refine an (R:=[⟨g,bH M A d,[]⟩]) ⟨c.q.row.in_,trivial⟩ {eq:=[(43,dI .i64 (m.trans e)),(53,dI .i64 (n.trans O))]} 48 ?_;exact a0n
    ·refine an (R:=[⟨g,bH M A d,[]⟩]) ⟨c.q.row.in_,trivial⟩ {eq:=[(43,dI .i64 (m.trans e)),(53,dI .i64 (n.trans O))]} 51 ?_;exact a0n
   ·have nA:(i.a==0)=false:=(by simpa using O);have u:dS i=true:=(by unfold dS;rw [bne,nA];simp);obtain e|e|e|e|e|e:i.op=87\/i.op=90\/i.op=88\/i.op=89\/i.op=91\/i.op=92:=ab;·refine an (R:=[⟨g,bH M A d,[]⟩]) ⟨c.q.row.in_,trivial⟩ {eq:=[(43,dI .i64 (m.trans e)),(53,dI .i64 n),(54,aj nA)]} 41 ?_;exact ah _ _ (write _ u)
    ·refine an (R:=[⟨g,bH M A d,[]⟩]) ⟨c.q.row.in_,trivial⟩ {eq:=[(43,dI .i64 (m.trans e)),(53,dI .i64 n),(54,aj nA)]} 41 ?_;exact ah _ _ (write _ u)
    ·refine an (R:=[⟨g,bH M A d,[]⟩]) ⟨c.q.row.in_,trivial⟩ {eq:=[(43,dI .i64 (m.trans e)),(53,dI .i64 n),(54,aj nA)]} 37 ?_;exact ah _ _ (write _ u)
    ·refine an (R:=[⟨g,bH M A d,[]⟩]) ⟨c.q.row.in_,trivial⟩ {eq:=[(43,dI .i64 (m.trans e)),(53,dI .i64 n),(54,aj nA)]} 43 ?_;exact ah _ _ (write _ u)
    ·refine an (R:=[⟨g,bH M A d,[]⟩]) ⟨c.q.row.in_,trivial⟩ {eq:=[(43,dI .i64 (m.trans e)),(53,dI .i64 n),(54,aj nA)]} 49 ?_;exact ah _ _ (write _ u)
    ·refine an (R:=[⟨g,bH M A d,[]⟩]) ⟨c.q.row.in_,trivial⟩ {eq:=[(43,dI .i64 (m.trans e)),(53,dI .i64 n),(54,aj nA)]} 52 ?_;exact ah _ _ (write _ u)
end
end Go.Proofs.YtjifdmoehfbihaaGreatDoor
