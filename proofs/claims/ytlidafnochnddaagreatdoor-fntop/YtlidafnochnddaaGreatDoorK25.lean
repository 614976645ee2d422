/- Own lemmas. -/
import Derived.Test.YtlidafnochnddaaGreatDoorAut
import Derived.Test.YtlidafnochnddaaGreatDoorK23
import Derived.Test.YtlidafnochnddaaGreatDoorK24
set_option maxRecDepth 100000
namespace Go.Proofs.YtlidafnochnddaaGreatDoor
open Go.RowKit Tryz
open IntKind renaming u64->Uz
open Below renaming refl->L6,heap_setCell->L7
open Go renaming heap_alloc_new->H1,World->H2,setRow_other->H3,bodyPost->H5,setRow_heap->H8,Value->I4,setRow_size->I5,Calls->K0,bits->K1,Addr->K4,results_none->L4
open Instr renaming storeAt->R5,sureAddr->S1
open Int renaming toNat_natCast->M5,eq_ofNat_of_zero_le->M7
open List renaming mem_singleton->S2
open Nat renaming le_refl->A0,zero_add->A5,le_of_ble_eq_true->A6,lt_of_lt_of_le->F0,add_zero->F3,le_trans->G3
open Value renaming int->N1,agg->P2,slice->R4
open _root_.Array renaming getElem?_eq_some_iff->L5
set_option linter.unusedVariables false
variable {M w:H2} {g:MV} {A B W:Nat} {C:MA} {a:Option K4} {c:List Int} {n:TV} {t:Array I4} {P:Func} {f:Int} {k:Program} {l:Ending->H2->Prop} (p:MV) (x:MA) (D:Ins) (F:Int) (K:H2)
theorem Tz.engQ {c':Nat} {dr:Bool}:oR k (Tq B A M g C n) (Tz B A M g C n W a c' c) [⟨A,aW g C n,[]⟩] dr (H5 k P l):=
 ⟨λ_ h=>h.q,λK h r a'=>by rw [S2] at a';subst a';exact h.row.in_,λ_ K h=>h.below (L6 _ _).drew,cG⟩
theorem Iv.cell {g:Nat} (h:Iv [g] w [⟨g,t,[]⟩] M) (i:Nat) (v:I4):Iv [g] w [⟨g,t.setIfInBounds i v,[]⟩] (M.setCell ⟨g,i,none⟩ v):=by obtain ⟨T,b⟩:=h.row1;refine ⟨λr a=>by rw [S2] at a;subst a;exact ⟨T,bj b i v⟩,h.ag.trans (I3 bh M i v),λr a=>by rw [S2] at a;subst a;simp,bh⟩
theorem Fs (h:Tq B A M g C n w) (q:Gd g) (k:Nat) (hk:k<16) (i:Bool) (v:Int):K0 prog 152 #[.p A 0,.i k,.bool i,.u v] w λe w'=>e=.returned (.tuple #[])/\∃ A',Tq B A M (cu g k i v) A' n w':=by
 have j:aQ g.cs.length g.cs g.pr:=(cI q.ok).2.2.1;have f:=λW (z:Tq B A M g C n W)=>wD C.ac g.cs.length C.cc g.cs g.pr g.pc k i v W rfl z.sl.cs q.mw.cs;have d:yU g.cs.length g.cs g.pr k:=by unfold yU;rw [j];unfold Sn;simp;omega
 have t:rm g.cs.length g.cs g.pr g.pc k i v=(cu g k i v).cs:=by unfold rm;rw [d];rfl
 have o:Dm g.cs.length g.cs g.pr k i=(cu g k i v).pr:=by unfold Dm;rw [d];rfl
 have p:Dn g.cs.length g.cs g.pr k i=(cu g k i v).pc:=by unfold Dn;rw [d];rfl
 rw [t,o,p,d] at f;have c:(cu g k i v).x=g.x/\(cu g k i v).cs=(cu g k i v).cs/\(cu g k i v).ram=g.ram/\(cu g k i v).d=g.d/\(cu g k i v).hd=g.hd/\(cu g k i v).hl=g.hl/\(cu g k i v).wt=g.wt:=⟨rfl,rfl,rfl,rfl,rfl,rfl,rfl⟩;generalize cu g k i v=N at *;clear t o p d j;refine bE (args:=[.p A 0,.i k,.bool i,.u v]) (Tq B A M g C n) func152 ?_;refine aY 0 1 ?_;refine CX 26 ?_;refine bF (Tq.eng (dr:=true)) {} 100 (h.below (L6 _ _).drew) f ?_;rintro W1 e x b ⟨a',c',rfl,K,l⟩;refine ⟨_,0,rfl,λ_=>b.below l,?_⟩;have m:Tz B A M g C n W1.heap.size a' c' N.cs x:=⟨b.below l,b.fam.below l,K,b.le,l.size,b.glt⟩;refine ak (Tz.engQ (dr:=true)) {} 60 m λV a=>?_;obtain ⟨Q,L⟩:=a.q.row;have w0:=Iv.one a.q.row;refine cP (jk (i:=3) (T:=31) (v:=.slice a' N.cs.length c') L (show 3<28 by decide) ab rfl) ?_;have r:=w0.cell 3 (.slice a' N.cs.length c');obtain ⟨S,O⟩:=r.row1;refine bO (λ_=>True) ?_;refine aO (R:=[]) trivial {} 2 ?_;refine cP (jk (i:=2) (T:=2) (v:=.i N.pr) O (by simp [aW]) ab rfl) ?_;have s:=r.cell 2 (.i N.pr);obtain ⟨U,P⟩:=s.row1;refine aO (R:=[]) trivial {} 2 ?_;refine cP (jk (i:=0) (T:=32) (v:=.u N.pc) P (by simp [aW]) ab rfl) ?_;have D:=s.cell 0 (.u N.pc);refine dq {} 40 ab ab rfl ⟨rfl,{C with ac:=a',cc:=c'},a.csrs ⟨c.1,rfl,c.2.2.1,c.2.2.2.1⟩ (t':=n) ?_⟩;have y:aW N {C with ac:=a',cc:=c'} n=(((aW g C n).setIfInBounds 3 (.slice a' N.cs.length c')).setIfInBounds 2 (.i N.pr)).setIfInBounds 0 (.u N.pc):=by obtain ⟨H,Y,I,E,u,X,F,G,J⟩:=N;dsimp only at c ⊢;obtain ⟨rfl,_,rfl,rfl,rfl,rfl,rfl⟩:=c;rfl
 rw [y];exact D
theorem DU (h:di f):IntKind.i64.wrap (8+f)=((E6 f:Nat):Int)/\E6 f<16:=by
 have:f=0\/f=1\/f=3:=by simpa [di,or_assoc] using h
 rcases this with rfl|rfl|rfl<;>exact ⟨by rw [IntKind.wrap_i64];rfl,ba⟩
theorem Ll {w0:MA} (N:jv D) (K:93<=D.op) (h:Tq B A M g w0 (t0 g D F) w) (a:Gd g) (x:g.wt=false): K0 prog 182 #[.p A 0] w (TR B A M (Pf false (vf g D F) D)):=by
 obtain ⟨l,d,f,_,_,_⟩:=dE a.ok;have u:aQ g.cs.length g.cs g.pr:=(cI a.ok).2.2.1;have O:=N.op98;by_cases j:D.op=93;·refine (K6 h.row j).mono λe w' ⟨c,k⟩=>⟨c,g,w0,_,⟨?_,a,rfl,rfl,λ_=>⟨_,(DU f).2,(DU f).1⟩⟩,h.iv k rfl⟩;rw [gA rfl (DU f).1];unfold vf;rw [JZ8 j]
 by_cases p:D.op=94;·refine (Hp h.row p).mono λe w' ⟨c,k⟩=>⟨c,g,w0,_,⟨?_,a,rfl,rfl,λ_=>⟨3,ba,rfl⟩⟩,h.iv k rfl⟩;rw [gA (k:=3) rfl rfl];unfold vf;rw [JZ9 j,JZ8 p]
 by_cases r:D.op=95\/D.op=96
 ·have L:=λW (m:Iv [A] w [⟨A,aW g w0 (t0 g D F),[]⟩] W)=>NU (iO g.cs.length g.cs g.pr (D.op==96)) (qt g.cs.length g.cs g.pr (D.op==96)) (qu g.cs.length g.cs g.pr (D.op==96)) (kK g.cs.length g.cs g.pr (D.op==96)) (h.iv m rfl).row (λE t=>(wC w0.ac g.cs.length w0.cc g.cs g.pr (D.op==96) E rfl ((h.iv m rfl).iv t rfl).sl.cs a.mw.cs).mono λe w' ⟨Q,R,S,T,U⟩=>⟨Q,R,S,λ_=>T,U⟩);refine (Hq h.row r L (λW e w' m v=>v.1)).mono λe w' ⟨c,W,m,v⟩=>⟨c,?_⟩;have i:=h.iv m rfl;have b:=v.2;have s:vf g D F=if kK g.cs.length g.cs g.pr (D.op==96)=true then (bW (xv (xu g (g.cs.set 0 (dY (g.cs.getD 0 0) (D.op==96)))) (dX (g.cs.getD 0 0) (D.op==96))) 0 0 (jn g.cs (D.op==96)),1) else (cu g 2 false F,2):=by unfold vf kK;rw [JZ9 j,JZ9 p,JZ8 r,u];cases (D.op==96)<;>cases (g.pr != 3)<;>cases (g.pr==0)<;>rfl
  rw [s];cases n:kK g.cs.length g.cs g.pr (D.op==96) with
  | true =>rw [n,JZ8 rfl] at b;obtain ⟨a',c',k,o⟩:=b;have y:iO g.cs.length g.cs g.pr (D.op==96)=g.cs.set 0 (dY (g.cs.getD 0 0) (D.op==96)):=(by unfold iO;rw [n]);have H:qt g.cs.length g.cs g.pr (D.op==96)=dX (g.cs.getD 0 0) (D.op==96):=(by unfold qt;rw [n]);have G:qu g.cs.length g.cs g.pr (D.op==96)=jn g.cs (D.op==96):=(by unfold qu;rw [n]);rw [y,H,G] at k;rw [y] at o;have I:Gd (xu g (g.cs.set 0 (dY (g.cs.getD 0 0) (D.op==96)))):=a.cs_ (by rw [List.length_set];exact l) (bM _ l d 0 aa _ (AW _ (a.mw.cs 0) _ (dx d 0 aa))) (iA _ a.mw.cs 0 _ (qw _ _)) (by rw [i7 _ 0 9 _ aa]);have J:=I.priv (vj _ (a.mw.cs 0) (dx d 0 aa) (D.op==96));have P:=i.csrs (M':=xv (xu g (g.cs.set 0 (dY (g.cs.getD 0 0) (D.op==96)))) (dX (g.cs.getD 0 0) (D.op==96))) ⟨rfl,rfl,rfl,rfl⟩ k o;refine ⟨_,_,_,⟨?_,J,rfl,rfl,λe=>ki⟩,P⟩;rw [JZ8 rfl,gZ rfl];exact congrArg (λz=>(z,(1:Int))) (kt (M:=xv (xu g (g.cs.set 0 (dY (g.cs.getD 0 0) (D.op==96)))) (dX (g.cs.getD 0 0) (D.op==96))) (rd:=D.rd) (tO:=jn g.cs (D.op==96)))
  | false =>rw [n,JZ9 ba] at b;refine ⟨g,w0,_,⟨?_,a,rfl,rfl,λ_=>⟨2,ba,rfl⟩⟩,i.iv b rfl⟩;rw [JZ9 ba,gA (k:=2) rfl rfl];rfl
 ·refine (K7 h.row (show D.op=97\/D.op=98 by omega)).mono λe w' ⟨c,k⟩=>⟨c,?_⟩;have s:vf g D F=if (g.pr==0)=true then (cu g 2 false F,2) else (bW {g with wt:=D.op==97} 0 0 (Uz.wrap (g.pc+4)),1):=by
   unfold vf;rw [JZ9 j,JZ9 p,JZ9 r];by_cases q:D.op=97;·rw [JZ8 q,show (D.op==97)=true by simpa using q];rfl
   ·have e:(D.op==97)=false:=(by simpa using q);have wd:({g with wt:=false}:MV)=g:=(by rw [<- x]);rw [JZ9 q,e,wd]
  rw [s];cases C:(g.pr==0) with
  | true =>rw [C,JZ8 rfl] at k;refine ⟨g,w0,_,⟨?_,a,rfl,rfl,λ_=>⟨2,ba,rfl⟩⟩,h.iv k rfl⟩;rw [JZ8 rfl,gA (k:=2) rfl rfl];rfl
  | false =>rw [C,JZ9 ba] at k;refine ⟨{g with wt:=D.op==97},w0,_,⟨?_,a.wait _,rfl,rfl,λe=>ki⟩,h.iv k rfl⟩;rw [JZ9 ba,gZ rfl];exact congrArg (λz=>(z,(1:Int))) (kt (M:={g with wt:=D.op==97}) (rd:=D.rd))
section
variable {B g K : Nat} {w0 w w' W : H2} {M M' : MV} {A A' : MA} {t t' : TV}
inductive Fo:Bool->I4->Prop
 | s (v:I4):Fo false (.iface 262 v)
 | j (v:I4):Fo false (.iface 263 v)
 | l (v:I4):Fo false (.iface 267 v)
 | t (v:I4):Fo false (.iface 269 v)
 | h (v:I4):Fo false (.iface 271 v)
 | c (v:I4):Fo false (.iface 272 v)
 | a (v:I4):Fo false (.iface 273 v)
 | f (v:I4):Fo false (.iface 274 v)
 | y (v:I4):Fo false (.iface 276 v)
 | r:Fo true (.iface 275 (.agg #[]))
theorem BX (op:Int):Fo (decide (87<=op/\op<=92)) (dz op):=by
 by_cases c:87<=op/\op<=92;·rw [decide_eq_true c];unfold dz;rw [JZ9 aa,JZ9 aa,JZ9 aa,JZ9 aa,JZ9 aa,JZ9 aa,JZ9 aa,JZ8 aa];exact .r
 ·rw [decide_eq_false c];unfold dz;split;·exact .s _
  split;·exact .j _
  split;·exact .l _
  split;·exact .t _
  split;·exact .s _
  split
  ·split;·exact .h _
   split;·exact .c _
   ·exact .a _
  split;·exact .f _
  split;·omega
  ·exact .y _
theorem Lm {cf:Bool} (s:Fo cf t.fm) (h:Tq B g w0 M A t w) (J:Gd M) (U:0<=t.rd) (L:t.rd<=31) (u:t.up=false):K0 prog 155 #[.p g 0] w λe w'=>e=.returned (.tuple #[])/\Tq B g w0 (sR cf M t).1 A t w':=by
 obtain ⟨n,O,P,_,_,_⟩:=dE J.ok;have p:=J.x32;have fin:∀ (S:H2->Prop) (N:MV) (W:H2),Tq B g w0 N A t W->N.cs.length=22->(⟨t.nx,N.x,N.pr,if cf=true then N.cs else N.cs.set 21 (Uz.wrap (N.cs.getD 21 0+1)),N.ram,N.d,N.hd,N.hl,N.wt⟩:MV)=(sR cf M t).1->Wg prog S (H5 prog Tryz.f155 λe w'=>e=.returned (.tuple #[])/\Tq B g w0 (sR cf M t).1 A t w') Tryz.f155.ntmps [.code (cQ 1 (bI Tryz.f155))] [(0,.p g 0,1)] W:=by
  intro S N W E n22 H;rw [<- H];clear H;refine bO (λ_=>True) ?_;refine pi (R1:=[⟨g,aW ⟨t.nx,N.x,N.pr,N.cs,N.ram,N.d,N.hd,N.hl,N.wt⟩ A t,[]⟩]) (Iv.one E.row) {} 12 λW1 l=>?_;have f:=E.iv l rfl;refine aH [.code (cQ 2 (bI Tryz.f155))] [(0,.p g 0,1)] ?_;obtain ⟨a,y⟩:∃ a:MV,a=⟨t.nx,N.x,N.pr,N.cs,N.ram,N.d,N.hd,N.hl,N.wt⟩:=⟨_,rfl⟩;rw [<- y] at f;have G:a.cs=N.cs:=(by rw [y]);have I:(⟨t.nx,N.x,N.pr,if cf=true then N.cs else N.cs.set 21 (Uz.wrap (N.cs.getD 21 0+1)),N.ram,N.d,N.hd,N.hl,N.wt⟩:MV)=if cf=true then a else cM a (a.cs.set 21 (Uz.wrap (a.cs.getD 21 0+1))):=by rw [y];cases cf<;>rfl
  rw [I];rw [<- G] at n22;clear y G I l E;obtain ⟨b,j,F,_⟩:=f.atC n22;have x:∀ W,Tq B g w0 a A t W->W.cell? ⟨b,0+(21:Int).toNat,none⟩=some (.u (a.cs.getD 21 0))/\W.frozen? ⟨b,0+(21:Int).toNat,none⟩=false:=λW k=>by obtain ⟨K,d,_,c⟩:=k.atC n22;rw [j] at d;cases d;exact c 21 aa
  have cnt:∀ (S:H2->Prop) (W:H2),Tq B g w0 a A t W->Wg prog S (H5 prog Tryz.f155 λe w'=>e=.returned (.tuple #[])/\Tq B g w0 (cM a (a.cs.set 21 (Uz.wrap (a.cs.getD 21 0+1)))) A t w') Tryz.f155.ntmps [.code (cQ 3 (bI Tryz.f155))] [(0,.p g 0,1),(3,.bool false,0)] W:=(by intro S W k;refine bO (Tq B g w0 a A t) ?_;refine ak (Tq.eng (dr:=false)) {ov:=[(48,pA a.cs.length A.cc .i64 21 j ⟨aa,aa⟩ underlying31 ab),(49,lw ⟨b,0+(21:Int).toNat,none⟩ (.u (a.cs.getD 21 0)) underlying32 rfl (λW k=>(x W k).1)),(51,pA a.cs.length A.cc .i64 21 j ⟨aa,aa⟩ underlying31 ab)]} 40 k λC f=>?_;refine cP (oq (T:=32) (v:=.u (Uz.wrap (a.cs.getD 21 0+1))) (x C f) ab rfl) ?_;exact dq {} 40 ab ab rfl ⟨rfl,f.setC j 21 (Uz.wrap (a.cs.getD 21 0+1))⟩);refine bO (Tq B g w0 a A t) ?_;generalize m:t.fm=Q at s;cases s;case r =>refine ak (Tq.eng (dr:=false)) {eq:=[(37,⟨_,_,0,m⟩)]} 10 f λi o=>?_;refine eH 2 (dV (T:=275) (z:=.agg #[]) ab i) ?_;refine cP (aF (g:=i.heap.size) (t:=275) (ty:=275) (old:=#[]) (cells:=#[]) (H1 _ _) ab rfl ab) ?_;have D:=o.below (aN ((L6 i.heap.size i).alloc (A0 _) (.cells (P2 #[]).cells 275)) (A0 _) #[]);exact dq {} 40 ab ab rfl ⟨rfl,D⟩
  all_goals
   refine ak (Tq.eng (dr:=false)) {eq:=[(37,⟨_,_,0,m⟩)]} 10 f λi o=>?_
   refine eH 2 (dV (T:=275) (z:=.agg #[]) ab i) ?_
   refine cP (aF (g:=i.heap.size) (t:=275) (ty:=275) (old:=#[]) (cells:=#[]) (H1 _ _) ab rfl ab) ?_
   have D:=o.below (aN ((L6 i.heap.size i).alloc (A0 _) (.cells (P2 #[]).cells 275)) (A0 _) #[])
   refine aO (R:=[]) trivial {} 2 ?_
   exact aH _ _ (cnt _ _ D)
 refine bE (args:=[.p g 0]) (Tq B g w0 M A t) func155 ?_;refine aY 0 1 ?_;by_cases e:t.rd=0;·have q:(t.rd != 0)=false:=(by simpa using e);refine ak (Tq.eng (dr:=false)) {eq:=[(9,aD q)]} 12 h λW1 l=>?_;refine aH _ _ (fin _ M W1 l n ?_);unfold sR;rw [u,JZ8 e];rfl
 ·have q:(t.rd != 0):=(by simpa using e);obtain ⟨b,j,F,_⟩:=h.atX p;have x:∀ W,Tq B g w0 M A t W->W.cell? ⟨b,0+t.rd.toNat,none⟩=some (.u (M.x.getD (0+t.rd.toNat) 0))/\W.frozen? ⟨b,0+t.rd.toNat,none⟩=false:=λW k=>by obtain ⟨K,d,_,c⟩:=k.atX p;rw [j] at d;cases d;exact c (0+t.rd.toNat) aa
  refine ak (Tq.eng (dr:=false)) {eq:=[(9,aD q)]} 12 h λW1 l=>?_;refine En ?_;refine ak (Tq.eng (dr:=true)) {ov:=[(24,pA M.x.length A.cx .i64 t.rd j ⟨aa,aa⟩ underlying31 ab)]} 40 (l.below (L6 _ _).drew) λC f=>?_;refine cP (oq (T:=32) (v:=.u t.rs) (x C f) ab rfl) ?_;have o:=f.setX j (0+t.rd.toNat) t.rs;refine aO (R:=[]) trivial {} 1 ?_;refine aH _ _ (fin _ _ _ o n ?_);unfold sR;rw [u,JZ9 e,A5];rfl
def tS:TV:=⟨.func (.func 142) #[] #[],0,0,0,0,0,0,.nilIface,0,0,false,false,0,0⟩
def QE (M:MV) (q:Int × MV × Int):TV :=
 if (q.2.2 != 0)=true then mV tS q M.pc else match py q.1 with
  | none=>{tS with wd:=q.1,up:=true,cz:=2,vl:=q.1}
  | some i=>t0 q.2.1 i q.1
theorem N7 (h:Tq B g w0 M A tS w) (z:Gd M) (hd:Ud M.d):K0 prog 153 #[.p g 0] w λe w'=>e=.returned (.tuple #[])/\∃ C,Tq B g w0 (aT M M.pc 4 1 0).2.1 C (QE M (aT M M.pc 4 1 0)) w':=by
 have J:=λW (h:Tq B g w0 M A tS W)=>Lj h z rfl M.pc 4 1 0 ba ba ba (λ_=>rfl) z.pc kT;have Q:=Bu z hd M.pc 4 aa 1 0;have ga:=z.acc M.pc 4 1 0;rw [show ((4:Nat):Int)=4 from rfl] at Q;unfold QE;generalize aT M M.pc 4 1 0=X at *;obtain ⟨y,N,c⟩:=X;dsimp only at *;refine bE (args:=[.p g 0]) (Tq B g w0 M A tS) func153 ?_;refine aY 0 1 ?_;refine bF (Tq.eng (dr:=true)) {} 60 h J ?_;rintro W1 e W2 h1 ⟨C,rfl,l⟩;refine ⟨_,0,rfl,jw ab,?_⟩;cases hc:(c != 0) with
 | true =>rw [JZ8 rfl];exact jM (R:=[]) trivial {} 40 λa _=>⟨_,L4 rfl _ _ _,rfl,C,l⟩
 | false =>
   rw [JZ9 ba];unfold mV at l;dsimp only at l;rw [hc,JZ9 ba] at l;refine bO (λ_=>True) ?_;have d:=λW=>ny y Q.1 Q.2 W;unfold oZ at d;cases K:py y with
   | none =>simp only [K] at d;refine fQ (R1:=[⟨g,aW N C {tS with wd:=y},[]⟩]) (Iv.one l.row) {} 60 (λW _=>d W) ?_;rintro W3 e W4 G ⟨rfl,L⟩;refine ⟨_,0,rfl,?_⟩;have s:=(l.iv G rfl).below L;refine fQ (R1:=[⟨g,aW N C {tS with wd:=y},[]⟩]) (Iv.one s.row) {} 60 (λW I=>oA I.row1) ?_;rintro W5 e W6 H ⟨rfl,O⟩;refine ⟨_,0,rfl,?_⟩;have x:=(s.iv H rfl).iv O rfl;exact jM (R:=[]) trivial {} 40 λa _=>⟨_,L4 rfl _ _ _,rfl,C,x⟩
   | some i =>
     simp only [K] at d;have p:=Ct K;have u:=λW=>DJ i.op p.op1 p.op98 W;obtain ⟨D,E,U⟩:∃ D E,dz i.op=.iface D E:=(by obtain ⟨S,q⟩:∃ S,Fo S (dz i.op):=⟨_,BX i.op⟩;generalize dz i.op=f at q;cases q<;>exact ⟨_,_,rfl⟩);rw [U] at u;refine fQ (R1:=[⟨g,aW N C {tS with wd:=y},[]⟩]) (Iv.one l.row) {} 60 (λW _=>d W) ?_;rintro W3 e W4 G ⟨rfl,L⟩;refine ⟨_,0,rfl,?_⟩;have s:=(l.iv G rfl).below L;refine fQ (R1:=[⟨g,aW N C {tS with wd:=y,op:=i.op,rd:=i.rd,ra:=i.a,rb:=i.b,im:=i.imm},[]⟩]) (Iv.one s.row) {} 60 (λW _=>u W) ?_;rintro W5 e W6 H ⟨rfl,O⟩;refine ⟨_,0,rfl,?_⟩;have x:=(s.iv H rfl).below O;obtain ⟨o,m⟩:∃ o:TV,o={tS with wd:=y,op:=i.op,rd:=i.rd,ra:=i.a,rb:=i.b,im:=i.imm,fm:=.iface D E}:=⟨_,rfl⟩;have F:o.rd=i.rd:=(by rw [m]);have n32:=ga.x32;refine pi (R1:=[⟨g,aW N C {tS with wd:=y,op:=i.op,rd:=i.rd,ra:=i.a,rb:=i.b,im:=i.imm,fm:=.iface D E},[]⟩]) (Iv.one x.row) {} 4 λW7 V=>?_;rw [<- m] at V;have Y:=x.iv V rfl;refine aH [.code (cQ 6 (bI Tryz.f153))] [(0,.p g 0,1)] ?_;obtain ⟨b,Z,hne,_⟩:=Y.atX n32;have cc:∀ W,Tq B g w0 N C o W->W.cell? ⟨b,0+i.rd.toNat,none⟩=some (.u (N.x.getD (0+i.rd.toNat) 0)):=λW I=>by obtain ⟨b',t,_,k⟩:=I.atX n32;rw [Z] at t;cases t;have:=p.rd0;have:=p.rd31;exact (k (0+i.rd.toNat) aa).1
     refine bO (Tq B g w0 N C o) ?_;refine ak (Tq.eng (dr:=false)) {} 1 Y λW9 h9=>?_;refine CX 15 ?_;refine ak (Tq.eng (dr:=true)) {eq:=[(51,ed .i64 F)],ov:=[(52,pA N.x.length C.cx .i64 i.rd Z ⟨p.rd0,by have:=p.rd31;omega⟩ underlying31 ab),(53,lw ⟨b,0+i.rd.toNat,none⟩ (.u (N.x.getD (0+i.rd.toNat) 0)) underlying32 rfl cc)]} 40 (h9.below (L6 _ _).drew) λW10 n=>?_;obtain ⟨T10,P⟩:=n.row;refine cP (jk (i:=22) (T:=32) (v:=.u (N.x.getD (0+i.rd.toNat) 0)) P (show 22<28 by decide) ab rfl) ?_;have r:Tq B g w0 N C {o with rs:=N.x.getD (0+i.rd.toNat) 0} _:=n.iv ((Iv.one n.row).cell 22 (.u (N.x.getD (0+i.rd.toNat) 0))) rfl;refine bO (λ_=>True) ?_;refine aO (R:=[]) trivial {} 1 ?_;refine aH [.code (cQ 7 (bI Tryz.f153))] [(0,.p g 0,1)] ?_;refine eZ (R1:=[⟨g,aW N C {o with rs:=N.x.getD (0+i.rd.toNat) 0,nx:=Uz.wrap (N.pc+4)},[]⟩]) (Iv.one r.row) {} 60 λW11 j=>⟨rfl,C,?_⟩;have j:=r.iv j rfl;rw [m,A5,<- U] at j;exact j
end
theorem xD {x:Int} (h:U x):(aG x 1 1==1)=(K1 .and .u64 x 2 != 0):=by
 rw [Nc x 1 h];cases a:bt x 1 with
 | true =>
   rw [JZ8 rfl];have:K1 .and .u64 x 2≠0:=λe=>by have q:=aq x 2 1;rw [e,a] at q;exact absurd q ba
   simp [this]
 | false =>
   rw [JZ9 ba];have:K1 .and .u64 x 2=0:=by refine aS _ _ (af _ _ _) kT λi b=>?_;rw [aq];have key:∀ j,j<64->∀ c:Bool,(j=1->c=false)->(c&&bt 2 j)=bt 0 j:=bv;exact key i b _ (λe=>by rw [e];exact a)
   simp [this]
theorem zx {M:MV} {i:Ins} {tO x:Int} (d:U tO) (f:Gd M) (c:n.up=false) (b:n.rd=i.rd) (a:n.fm=dz i.op) {rd:Int} (hx:bW M n.rd n.rs tO=bW M rd x tO):Pf false (if (K1 .and .u64 tO 2 != 0)=true then (cu M 0 false tO,2) else (bW M rd x tO,1)) i M (qB n tO):=by
 unfold qB;rw [xD d];cases g:(K1 .and .u64 tO 2 != 0) with
 | true =>rw [JZ8 rfl,JZ8 rfl];exact ⟨gA (k:=0) rfl rfl,f,b,a,λ_=>⟨0,ba,rfl⟩⟩
 | false =>rw [JZ9 ba,JZ9 ba];refine ⟨?_,f,b,a,λe=>by rw [show TV.up {n with nx:=tO}=n.up from rfl,c] at e;cases e⟩;rw [gZ (t:={n with nx:=tO}) c,<- hx]
theorem QF (o:jv D) (E:3<=D.op) (p:D.op<=10) (h:Tq B A M g C (t0 g D F) w) (d:Gd g): K0 prog 172 #[.p A 0] w (TR B A M (Pf false (xw g D (g.x.getD D.a.toNat 0) (g.x.getD D.b.toNat 0) (Uz.wrap D.imm)) D)):=by
 have a:=d.x32;obtain ⟨b,s,l,t⟩:=h.atX a;have m:=o.a0;have w0:=o.a31;have q:=o.b0;have i:=o.b31;have r:=(t (0+D.a.toNat) aa).1;have v:=(t (0+D.b.toNat) aa).1;unfold xw;by_cases u:D.op=3;·refine (Hf h.row u).mono λe w' ⟨f,k⟩=>⟨f,g,C,_,?_,h.iv k rfl⟩;have c:iH g D (g.x.getD D.a.toNat 0) (g.x.getD D.b.toNat 0) (Uz.wrap D.imm)=Uz.wrap (g.pc+Uz.wrap D.imm):=(by unfold iH;rw [JZ9 aa,decide_eq_false aa];rfl);rw [c,JZ9 (show ¬ 4<D.op by omega)];exact zx (bq _) d rfl rfl rfl rfl
 by_cases n:D.op=4;·have:=KF h.row n s ⟨m,show D.a<(g.x.length:Int) by rw [a];omega⟩ l r;rw [A5] at this;refine this.mono λe w' ⟨f,k⟩=>⟨f,g,C,_,?_,h.iv k rfl⟩;have c:iH g D (g.x.getD D.a.toNat 0) (g.x.getD D.b.toNat 0) (Uz.wrap D.imm)=K1 .andNot .u64 (Uz.wrap (g.x.getD D.a.toNat 0+Uz.wrap D.imm)) 1:=(by unfold iH;rw [JZ8 n]);rw [c,JZ9 (show ¬ 4<D.op by omega)];exact zx (af _ _ _) d rfl rfl rfl rfl
 ·have:=Bq h.row (show 5<=D.op by omega) p s ⟨m,show D.a<(g.x.length:Int) by rw [a];omega⟩ ⟨q,show D.b<(g.x.length:Int) by rw [a];omega⟩ l r v;rw [A5,A5] at this;refine this.mono λe w' ⟨f,k⟩=>⟨f,g,C,_,?_,h.iv k rfl⟩;rw [JZ8 (show 4<D.op by omega)];show Pf _ _ _ _ (if Qj D.op (g.x.getD D.a.toNat 0) (g.x.getD D.b.toNat 0)=true then qB (t0 g D F) (Uz.wrap (g.pc+Uz.wrap D.imm)) else t0 g D F);cases j:Qj D.op (g.x.getD D.a.toNat 0) (g.x.getD D.b.toNat 0) with
  | true =>have c:iH g D (g.x.getD D.a.toNat 0) (g.x.getD D.b.toNat 0) (Uz.wrap D.imm)=Uz.wrap (g.pc+Uz.wrap D.imm):=(by unfold iH;rw [JZ9 n,decide_eq_true (show 4<D.op by omega),j];rfl);rw [c,JZ8 rfl];exact zx (x:=Uz.wrap (g.pc+4)) (rd:=0) (bq _) d rfl rfl rfl kt
  | false =>have c:iH g D (g.x.getD D.a.toNat 0) (g.x.getD D.b.toNat 0) (Uz.wrap D.imm)=Uz.wrap (g.pc+4):=(by unfold iH;rw [JZ9 n,decide_eq_true (show 4<D.op by omega),j];rfl);have y:(K1 .and .u64 (Uz.wrap (g.pc+4)) 2 != 0)=false:=(by rw [<- xD (bq _)];have:=d.al4;rw [IntKind.wrap_u64];simp [aG];omega);rw [c,y,JZ9 ba,JZ9 ba];refine ⟨?_,d,rfl,rfl,λe=>ki⟩;rw [gZ rfl];exact congrArg (λz=>(z,(1:Int))) (kt (M:=g) (rd:=D.rd) (tO:=Uz.wrap (g.pc+4)))
theorem N8 (d:Gd g) (n:Nat) (s:Bool) (a:Int) (hn:n=kO D.op) (h:s=decide (D.op-11<4)):Pf false (ve g D a) D (aT g a n 2 0).2.1 (sy (t0 g D F) (aT g a n 2 0) a n s):=by
 have f:ve g D a=if ((aT g a n 2 0).2.2 != 0)=true then dZ (aT g a n 2 0) 0 a else (bW (aT g a n 2 0).2.1 D.rd (if s=true then aX (8*n) (aT g a n 2 0).1 else (aT g a n 2 0).1) (Uz.wrap ((aT g a n 2 0).2.1.pc+4)),1):=by
  subst hn h;unfold ve;dsimp only;by_cases q:D.op-11<4;·rw [JZ8 q,decide_eq_true q,JZ8 rfl]
  ·rw [JZ9 q,decide_eq_false q];rfl
 rw [f,(gO g a n 2 0).1];have M:=d.acc a n 2 0;have c:=λb=>mh (cf:=false) (i:=D) (t:=t0 g D F) (M:=g) (a:=a) (n:=n) (kind:=2) (x:=0) rfl d b rfl rfl;unfold sy;generalize aT g a n 2 0=X at *;cases b:(X.2.2 != 0) with
 | true=>rw [JZ8 rfl,JZ8 rfl];exact c b
 | false =>rw [JZ9 (show ¬ (false) by decide),JZ9 (show ¬ (false) by decide)];refine ⟨?_,M,rfl,rfl,λe=>ki⟩;rw [gZ rfl];rfl
theorem Lo (d:Gd g) (n:Nat) (a x:Int) (hn:n=2^(D.op-18).toNat):Pf false (rx g D a x) D (aT g a n 3 x).2.1 (mV (t0 g D F) (aT g a n 3 x) a):=by
 have h:rx g D a x=if ((aT g a n 3 x).2.2 != 0)=true then dZ (aT g a n 3 x) 0 a else (bW (aT g a n 3 x).2.1 0 0 (Uz.wrap ((aT g a n 3 x).2.1.pc+4)),1):=by subst hn;rfl
 obtain ⟨f,M,_,_⟩:=gO g a n 3 x;rw [h,f];have j:=d.acc a n 3 x;have c:=λb=>mh (cf:=false) (i:=D) (t:=t0 g D F) (M:=g) (a:=a) (n:=n) (kind:=3) (x:=x) rfl d b rfl rfl;generalize aT g a n 3 x=X at *;cases b:(X.2.2 != 0) with
 | true=>rw [JZ8 rfl];exact c b
 | false =>rw [JZ9 ba];unfold mV;rw [b,JZ9 ba];refine ⟨?_,j,rfl,rfl,λe=>ki⟩;rw [gZ rfl];have:=kt (M:=X.2.1) (rd:=D.rd) (tO:=Uz.wrap (g.pc+4));rw [M] at this;exact congrArg (λz=>(z,(1:Int))) this
theorem oG {Q:MV->TV->Prop} {S:H2->Prop} {k:List KI} {F:Fr} {f:Nat} (h:Tq B A M g C n w) (H:Hn prog (Tq B A M g C n) (Tq B A M g C n)) (c:∀ w0,Tq B A M g C n w0->K0 prog f t w0 (TR B A M Q)) (hn:gM k) (hx:((aP prog [⟨A,aW g C n,[]⟩] H W true 90 k F).1.1,IT prog W (aP prog [⟨A,aW g C n,[]⟩] H W true 90 k F).1.2.2 (aP prog [⟨A,aW g C n,[]⟩] H W true 90 k F).1.2.1)=(false,some (f,t))) (he:(aP prog [⟨A,aW g C n,[]⟩] H W true 90 k F).2.map Prod.fst=(aP prog [⟨A,aW g C n,[]⟩] H W true 90 k F).2.map Prod.snd) (hb:(wQ (aP prog [⟨A,aW g C n,[]⟩] H W true 90 k F).1.2.2 (aP prog [⟨A,aW g C n,[]⟩] H W true 90 k F).1.2.1,gM (oS (aP prog [⟨A,aW g C n,[]⟩] H W true 90 k F).1.2.2 (aP prog [⟨A,aW g C n,[]⟩] H W true 90 k F).1.2.1))=(false,true)) (j:∀ J:H2->Prop,(λ(y:(Bool × List KI × Fr) × List (Oe × Oe))=>(y.1.1,gM y.1.2.1,y.1.2.1.isEmpty,y.2.map Prod.fst)) (aP prog [] ({}:Hn prog J J) W false 20 (oS (aP prog [⟨A,aW g C n,[]⟩] H W true 90 k F).1.2.2 (aP prog [⟨A,aW g C n,[]⟩] H W true 90 k F).1.2.1) (qG (aP prog [⟨A,aW g C n,[]⟩] H W true 90 k F).1.2.2 (aP prog [⟨A,aW g C n,[]⟩] H W true 90 k F).1.2.1 (.tuple #[]) 0))=(false,true,true,[])) (i:P.results=#[]):Wg prog S (H5 prog P (TR B A M Q)) W k F w:=by simp only [Prod.mk.injEq] at hb;refine bO (Tq B A M g C n) (hn:=hn) ?_;refine bF (Tq.eng (dr:=true)) H 90 h c (hx:=hx) (he:=he) ?_;rintro W1 e l m ⟨rfl,M',A',t',d,b⟩;refine ⟨_,0,rfl,jw hb.1,?_⟩;have a:=j (λx=>x=l);simp only [Prod.mk.injEq] at a;refine dq {} 20 (by rw [hb.2,a.1,a.2.1,a.2.2.1]) ?_ i ⟨rfl,M',A',t',d,b⟩;rw [List.map_eq_nil_iff.1 a.2.2.2];rfl
theorem Hu (f:jv D) (h:Tq B A M g C (t0 g D F) w) (c:Gd g) (hd:Ud g.d) (H:g.wt=false): K0 prog 154 #[.p A 0] w (TR B A M (Pf (decide (87<=D.op/\D.op<=92)) (fR g D F) D)):=by
 have V:=f.op1;have I:=f.op98;have x:=c.x32;have ua:=c.ux D.a.toNat;have X:=c.ux D.b.toNat;obtain ⟨_,_,Z,J,Y⟩:=Fi V I;have l:dz D.op=(if D.op<3 then .iface 262 (.agg #[]) else if D.op<11 then .iface 263 (.agg #[]) else if D.op<18 then mm .ld (wN D.op) (wS D.op) else if D.op<22 then mm .st (wN D.op) (wS D.op) else if D.op<63 then .iface 262 (.agg #[]) else if D.op<85 then (if D.op=63\/D.op=74 then mm .hd (wN D.op) (wS D.op) else if D.op=64\/D.op=75 then mm .sc (wN D.op) (wS D.op) else mm .am (wN D.op) (wS D.op)) else if D.op<87 then .iface 274 (.agg #[]) else if D.op<93 then .iface 275 (.agg #[]) else .iface 276 (.agg #[])):=rfl;have O:=λW (h:Tq B A M g C (t0 g D F) W)=>Qz h x f.a0 f.a31;have S:=λW (h:Tq B A M g C (t0 g D F) W)=>SP h x f.b0 f.b31;have P:=λW (h:Tq B A M g C (t0 g D F) W)=>sa h.row;have a:(t0 g D F).fm=dz D.op:=rfl;refine bE (args:=[.p A 0]) (Tq B A M g C (t0 g D F)) func154 ?_;refine aY 0 1 ?_;have k:dz D.op=.iface 262 (.agg #[])->fR g D F=(bW g D.rd (vy g D) (Uz.wrap (g.pc+4)),1)->Wg prog (Tq B A M g C (t0 g D F)) (H5 prog Tryz.f154 (TR B A M (Pf false (fR g D F) D))) Tryz.f154.ntmps [.code (bI Tryz.f154)] [(0,.p A 0,1)] w:=by intro b d;have T:=λW (h:Tq B A M g C (t0 g D F) W)=>DQ D F f h c;rw [d];generalize vy g D=v at *;refine bF (Tq.eng (dr:=true)) {eq:=[(5,⟨_,_,0,a.trans b⟩)]} 90 h T ?_;rintro W1 e N u ⟨rfl,p⟩;refine ⟨_,0,rfl,jw ab,?_⟩;refine bO (λ_=>True) ?_;refine aY 9 1 ?_;refine eZ (R1:=[⟨A,aW g C {t0 g D F with rs:=v},[]⟩]) (Iv.one p.row) {} 40 λQ i=>⟨rfl,g,C,{t0 g D F with rs:=v},⟨?_,c,rfl,rfl,λe=>ki⟩,p.iv i rfl⟩;rw [gZ rfl];rfl
 by_cases R:D.op<3
 ·have b:dz D.op=.iface 262 (.agg #[]):=(by rw [l,JZ8 R]);rw [decide_eq_false aa];refine k b ?_;unfold fR vy;dsimp only;by_cases q:D.op=1;·rw [JZ8 q,JZ8 q]
  ·rw [JZ9 q,JZ8 aa,JZ9 q,JZ8 aa]
 by_cases c2:D.op<11;·have b:dz D.op=.iface 263 (.agg #[]):=(by rw [l,JZ9 aa,JZ8 aa]);have d:fR g D F=xw g D (g.x.getD D.a.toNat 0) (g.x.getD D.b.toNat 0) (Uz.wrap D.imm):=(by unfold fR;dsimp only;rw [JZ9 aa,JZ9 aa,JZ8 aa]);rw [decide_eq_false aa,d];exact oG h {eq:=[(5,⟨_,_,0,a.trans b⟩)]} (λW j=>QF D F f aa aa j c) ab ab ab ab (λ_=>ab) rfl
 by_cases c3:D.op<18;·have b:dz D.op=mm .ld (wN D.op) (wS D.op):=(by rw [l,JZ9 aa,JZ9 aa,JZ8 aa]);have d:fR g D F=ve g D (Uz.wrap (g.x.getD D.a.toNat 0+Uz.wrap D.imm)):=(by unfold fR;dsimp only;rw [JZ9 aa,JZ9 aa,JZ9 aa,JZ8 aa]);rw [decide_eq_false aa,d];obtain ⟨m,t⟩:=Z aa;have wd:wN D.op=1\/wN D.op=2\/wN D.op=4\/wN D.op=8:=(by have q:D.op=11\/D.op=12\/D.op=13\/D.op=14\/D.op=15\/D.op=16\/D.op=17:=aa;rw [m];rcases q with q | q | q | q | q | q | q<;>rw [q]<;>decide);have E:=λW (h:Tq B A M g C (t0 g D F) W)=>(DS h c rfl .ld (wN D.op) (wS D.op) wd (a.trans b) (Uz.wrap (g.x.getD D.a.toNat 0+Uz.wrap D.imm)) (bq _)).mono λe w' ⟨w0,K,L⟩=>And.intro K (Exists.intro w0 L);have G:=N8 D F c (wN D.op) (wS D.op) (Uz.wrap (g.x.getD D.a.toNat 0+Uz.wrap D.imm)) m t;generalize wN D.op=n at *;generalize wS D.op=s at *;refine bF (Tq.eng (dr:=true)) {eq:=[(5,⟨_,_,0,a.trans b⟩)],cv:=[(24,sE O),(26,sE P)]} 90 h E ?_;rintro W1 e N u ⟨rfl,w0,p⟩;refine ⟨_,0,rfl,jw ab,?_⟩;exact dq {} 40 ab ab rfl ⟨rfl,_,w0,_,G,p⟩
 by_cases c4:D.op<22;·have b:dz D.op=mm .st (wN D.op) (wS D.op):=(by rw [l,JZ9 aa,JZ9 aa,JZ9 aa,JZ8 aa]);have d:fR g D F=rx g D (Uz.wrap (g.x.getD D.a.toNat 0+Uz.wrap D.imm)) (g.x.getD D.b.toNat 0):=(by unfold fR;dsimp only;rw [JZ9 aa,JZ9 aa,JZ9 aa,JZ9 aa,JZ8 aa]);rw [decide_eq_false aa,d];have m:=J aa;have wd:wN D.op=1\/wN D.op=2\/wN D.op=4\/wN D.op=8:=(by have q:D.op=18\/D.op=19\/D.op=20\/D.op=21:=aa;rw [m];rcases q with q | q | q | q<;>rw [q]<;>decide);have E:=λW (h:Tq B A M g C (t0 g D F) W)=>(zw h c rfl .st (wN D.op) (wS D.op) wd (a.trans b) (Uz.wrap (g.x.getD D.a.toNat 0+Uz.wrap D.imm)) (g.x.getD D.b.toNat 0) (bq _) X).mono λe w' ⟨w0,K,L⟩=>And.intro K (Exists.intro w0 L);have G:=Lo D F c (wN D.op) (Uz.wrap (g.x.getD D.a.toNat 0+Uz.wrap D.imm)) (g.x.getD D.b.toNat 0) m;generalize wN D.op=n at *;generalize wS D.op=s at *;refine bF (Tq.eng (dr:=true)) {eq:=[(5,⟨_,_,0,a.trans b⟩)],cv:=[(34,sE O),(36,sE P),(39,sE S)]} 90 h E ?_;rintro W1 e N u ⟨rfl,w0,p⟩;refine ⟨_,0,rfl,jw ab,?_⟩;exact dq {} 40 ab ab rfl ⟨rfl,_,w0,_,G,p⟩
 by_cases c5:D.op<63;·have b:dz D.op=.iface 262 (.agg #[]):=(by rw [l,JZ9 aa,JZ9 aa,JZ9 aa,JZ9 aa,JZ8 aa]);rw [decide_eq_false aa];refine k b ?_;have m:fR g D F=(bW g D.rd (rh D.op (g.x.getD D.a.toNat 0) (if (fJ D.op).toList=[82] then g.x.getD D.b.toNat 0 else Uz.wrap D.imm)) (Uz.wrap (g.pc+4)),1):=(by unfold fR;dsimp only;rw [JZ9 aa,JZ9 aa,JZ9 aa,JZ9 aa,JZ9 aa,JZ8 aa]);have t:vy g D=rh D.op (g.x.getD D.a.toNat 0) (if (fJ D.op).toList=[82] then g.x.getD D.b.toNat 0 else Uz.wrap D.imm):=(by unfold vy;rw [JZ9 aa,JZ9 aa]);rw [m,t]
 clear k;by_cases c6:D.op<85
 ·have d:fR g D F=m9 g D (g.x.getD D.a.toNat 0) (g.x.getD D.b.toNat 0):=(by unfold fR;dsimp only;rw [JZ9 aa,JZ9 aa,JZ9 aa,JZ9 aa,JZ9 aa,JZ9 aa,JZ8 aa]);rw [decide_eq_false aa,d];have o:dz D.op=(if D.op=63\/D.op=74 then mm .hd (wN D.op) (wS D.op) else if D.op=64\/D.op=75 then mm .sc (wN D.op) (wS D.op) else mm .am (wN D.op) (wS D.op)):=(by rw [l,JZ9 aa,JZ9 aa,JZ9 aa,JZ9 aa,JZ9 aa,JZ8 aa]);by_cases r:D.op=63\/D.op=74;·have b:=o.trans (JZ8 r);have U:(n8 D.op==0):=(by rcases r with q | q<;>rw [q]<;>decide);have t:m9 g D (g.x.getD D.a.toNat 0) (g.x.getD D.b.toNat 0)=Rz g D (g.x.getD D.a.toNat 0):=(by unfold m9;rw [U,JZ8 rfl]);rw [t];exact oG h {eq:=[(5,⟨_,_,0,a.trans b⟩)]} (λW j=>QB D F f r j c hd) ab ab ab ab (λ_=>ab) rfl
  ·by_cases y:D.op=64\/D.op=75;·have b:=(o.trans (JZ9 r)).trans (JZ8 y);exact oG h {eq:=[(5,⟨_,_,0,a.trans b⟩)]} (λW j=>QD D F f y j c) ab ab ab ab (λ_=>ab) rfl
   ·have b:=(o.trans (JZ9 r)).trans (JZ9 y);exact oG h {eq:=[(5,⟨_,_,0,a.trans b⟩)]} (λW j=>RT D F f aa aa ⟨r,y⟩ j c hd) ab ab ab ab (λ_=>ab) rfl
 by_cases c7:D.op<87;·have b:dz D.op=.iface 274 (.agg #[]):=(by rw [l,JZ9 aa,JZ9 aa,JZ9 aa,JZ9 aa,JZ9 aa,JZ9 aa,JZ8 aa]);have d:fR g D F=(bW g 0 0 (Uz.wrap (g.pc+4)),1):=(by unfold fR;dsimp only;rw [JZ9 aa,JZ9 aa,JZ9 aa,JZ9 aa,JZ9 aa,JZ9 aa,JZ9 aa,JZ8 aa]);rw [decide_eq_false aa,d];refine ak (Tq.eng (dr:=true)) {eq:=[(5,⟨_,_,0,a.trans b⟩)]} 2 h λW1 u=>?_;refine bO (λ_=>True) ?_;refine eZ (R1:=[⟨A,aW g C (t0 g D F),[]⟩]) (Iv.one u.row) {eq:=[(5,⟨_,_,0,a.trans b⟩)]} 90 λQ i=>⟨rfl,g,C,t0 g D F,⟨?_,c,rfl,rfl,λe=>ki⟩,u.iv i rfl⟩;rw [gZ rfl];exact congrArg (λz=>(z,(1:Int))) (kt (M:=g) (rd:=D.rd) (tO:=Uz.wrap (g.pc+4)))
 by_cases c8:D.op<93;·have b:dz D.op=.iface 275 (.agg #[]):=(by rw [l,JZ9 aa,JZ9 aa,JZ9 aa,JZ9 aa,JZ9 aa,JZ9 aa,JZ9 aa,JZ8 aa]);have d:fR g D F=Bj g D (g.x.getD D.a.toNat 0) F:=(by unfold fR;dsimp only;rw [JZ9 aa,JZ9 aa,JZ9 aa,JZ9 aa,JZ9 aa,JZ9 aa,JZ9 aa,JZ9 aa,JZ8 aa]);rw [decide_eq_true aa,d];exact oG h {eq:=[(5,⟨_,_,0,a.trans b⟩)]} (λW j=>RU D F f aa aa j c) ab ab ab ab (λ_=>ab) rfl
 have b:dz D.op=.iface 276 (.agg #[]):=by rw [l,JZ9 aa,JZ9 aa,JZ9 aa,JZ9 aa,JZ9 aa,JZ9 aa,JZ9 aa,JZ9 aa]
 have d:fR g D F=vf g D F:=by unfold fR;dsimp only;rw [JZ9 aa,JZ9 aa,JZ9 aa,JZ9 aa,JZ9 aa,JZ9 aa,JZ9 aa,JZ9 aa,JZ9 aa]
 rw [decide_eq_false aa,d];exact oG h {eq:=[(5,⟨_,_,0,a.trans b⟩)]} (λW j=>Ll D F f aa j c H) ab ab ab ab (λ_=>ab) rfl
def SR (B g:Nat) (w0:H2) (V:MV × Int) (e:Ending) (w':H2):Prop:=e=.returned (.i V.2)/\∃ A' t',Tq B g w0 V.1 A' t' w'
theorem QG (h:Tq B A M g C tS w) (hg:Gd g) (hd:Ud g.d):K0 prog 143 #[.p A 0] w (SR B A M (cj g)):=by
 obtain ⟨I,hcs,hpr,_,_,_⟩:=dE hg.ok; -- what is raised is entered
 have up:∀ (S:H2->Prop) (N:MV) (w0:MA) (f:TV) (k:Nat) (W:H2),Tq B A M N w0 f W->Gd N->f.up->f.cz=k->k<16->Wg prog S (H5 prog Tryz.f143 (SR B A M (cu N k false f.vl,2))) Tryz.f143.ntmps [.code (cQ 6 (bI Tryz.f143))] [(0,.p A 0,1)] W:=by intro S N w0 f k W d gN l m u;refine bO (Tq B A M N w0 f) ?_;refine ak (Tq.eng (dr:=false)) {eq:=[(61,aD l)]} 40 d λW1 h1=>?_;refine CX 11 ?_;refine bF (Tq.eng (dr:=true)) {eq:=[(68,ed .i64 m)]} 60 (h1.below (L6 _ _).drew) (λW d=>Fs d gN k u false f.vl) ?_;rintro W2 e W3 H ⟨rfl,C2,J⟩;refine ⟨_,0,rfl,jw ab,?_⟩;exact dD (R:=[]) (t:=2) (v:=.i 2) trivial {} 40 ⟨rfl,C2,f,J⟩
 -- dW a performance
 have tail:∀ (S:H2->Prop) (cf:Bool) (i:Ins) (V:MV × Int) (N:MV) (w0:MA) (f:TV) (W:H2),jv i->cf=decide (87<=i.op/\i.op<=92)->Pf cf V i N f->Tq B A M N w0 f W->Wg prog S (H5 prog Tryz.f143 (SR B A M V)) Tryz.f143.ntmps [.code (cQ 6 (bI Tryz.f143))] [(0,.p A 0,1)] W:=by
  intro S cf i V N w0 f W Q hcf o d;cases l:f.up with
  | true =>obtain ⟨k,u,m⟩:=o.c l;have e:=o.e;rw [gA l m] at e;rw [<- e];exact up S N w0 f k W d o.g l m u
  | false =>have hfo:Fo cf f.fm:=(by rw [o.fm,hcf];exact BX i.op);have s:=λW (d:Tq B A M N w0 f W)=>Lm hfo d o.g (by rw [o.rd];exact Q.rd0) (by rw [o.rd];exact Q.rd31) l;have e2:V.2=1:=(by rw [<- o.e];unfold sR;rw [l];rfl);rw [o.e] at s;unfold SR;rw [e2];generalize V.1=V1 at *;refine bO (Tq B A M N w0 f) ?_;refine bF (Tq.eng (dr:=true)) {eq:=[(61,aD l)]} 60 d s ?_;rintro W2 e W3 H ⟨rfl,J⟩;refine ⟨_,0,rfl,jw ab,?_⟩;exact dD (R:=[]) (t:=2) (v:=.i 1) trivial {} 40 ⟨rfl,w0,f,J⟩
 have fin:∀ (S:H2->Prop) (W:H2),Tq B A M g C tS W->(g.wt&&(kV g.cs==0))=false->Wg prog S (H5 prog Tryz.f143 (SR B A M (cj g))) Tryz.f143.ntmps [.code (cQ 2 (bI Tryz.f143))] [(0,.p A 0,1)] W:=by
  intro S W d hn;have eV:cj g=if 0<=iN g.cs g.pr then (cu (j5 g false) (iN g.cs g.pr).toNat true 0,3) else (let q:=aT (j5 g false) g.pc 4 1 0;if (q.2.2 != 0)=true then dZ q 0 q.2.1.pc else match py q.1 with | none=>(cu q.2.1 2 false q.1,2) | some i=>fR q.2.1 i q.1):=by unfold cj;rw [hn,JZ9 ba];rfl
  rw [eV];clear eV;have F:=hg.wait false;have Y:iN g.cs g.pr=iN (j5 g false).cs (j5 g false).pr:=rfl;have U:g.pc=(j5 g false).pc:=rfl;have z:Ud (j5 g false).d:=hd;have Z:(j5 g false).wt=false:=rfl;refine bO (λ_=>True) ?_;refine pi (R1:=[⟨A,aW (j5 g false) C tS,[]⟩]) (Iv.one d.row) {} 8 λW1 h1=>?_;have H:=d.iv h1 rfl;refine aH [.code (cQ 3 (bI Tryz.f143))] [(0,.p A 0,1)] ?_;rw [Y,U];generalize j5 g false=N at F H z Z ⊢;clear Y U h1;have r:=λW (d:Tq B A M N C tS W)=>sS C.ac N.cs.length C.cc N.cs N.pr W rfl d.sl.cs F.mw.cs;have T:tK N.cs.length N.cs N.pr=iN N.cs N.pr:=(by unfold tK;rw [(cI F.ok).2.2.1]);rw [T] at r;clear T;refine bO (Tq B A M N C tS) ?_;by_cases e:0<=iN N.cs N.pr;·obtain ⟨k,k16,u⟩:=Fb _ _ e;have q:decide (0<=((k:Nat):Int)):=ib;rw [JZ8 e,u,M5];rw [u] at r;refine bF (Tq.eng (dr:=true)) {eq:=[(43,aD q)],cv:=[(41,LW r)]} 60 H (λW d=>Fs d F k k16 true 0) ?_;rintro W3 e W4 J ⟨rfl,C2,n⟩;refine ⟨_,0,rfl,jw ab,?_⟩;exact dD (R:=[]) (t:=2) (v:=.i 3) trivial {} 40 ⟨rfl,C2,tS,n⟩
  ·have q:decide (0<=iN N.cs N.pr)=false:=(by rw [JZ7];exact e);rw [JZ9 e];generalize iN N.cs N.pr=pv at *;have P:=λW (d:Tq B A M N C tS W)=>N7 d F z;have ga:=F.acc N.pc 4 1 0;have da:=DC z N.pc 4 1 kT;have wa:=(gO N N.pc 4 1 0).2.2.2;have pa:=(gO N N.pc 4 1 0).1;have ec:=λc=>zg (M:=N) (addr:=N.pc) (size:=4) (kind:=1) (x:=0) (c:=c);rw [Z] at wa;unfold QE at P;generalize aT N N.pc 4 1 0=X at *;obtain ⟨y,E,c⟩:=X;dsimp only at *;rw [pa];refine bF (Tq.eng (dr:=true)) {eq:=[(43,aD q)],cv:=[(41,LW r)]} 60 H P ?_;rintro W3 e W4 J ⟨rfl,w0,n⟩;refine ⟨_,0,rfl,jw ab,?_⟩;refine aO (R:=[]) trivial {} 1 ?_;refine aH [.code (cQ 5 (bI Tryz.f143))] [(0,.p A 0,1)] ?_;have skip:∀ (S:H2->Prop) (f:TV) (k:Nat),Tq B A M E w0 f W4->f.up->f.cz=k->k<16->Wg prog S (H5 prog Tryz.f143 (SR B A M (cu E k false f.vl,2))) Tryz.f143.ntmps [.code (cQ 5 (bI Tryz.f143))] [(0,.p A 0,1)] W4:=(by intro S f k d l m u;refine bO (Tq B A M E w0 f) ?_;refine ak (Tq.eng (dr:=false)) {eq:=[(54,aD l)]} 11 d λW5 h5=>?_;exact aH _ _ (up _ E w0 f k W5 h5 ga l m u));cases O:(c != 0) with
   | true =>rw [O,JZ8 rfl] at n;rw [JZ8 rfl];unfold mV at n;dsimp only at n;rw [O,JZ8 rfl,(ec c rfl O).1] at n;exact skip _ _ (c-16).toNat n rfl rfl (ec c rfl O).2
   | false =>
     rw [O,JZ9 ba] at n;rw [JZ9 ba];cases he:py y with
     | none =>simp only [he] at n ⊢;exact skip _ _ 2 n rfl rfl ba
     | some i =>simp only [he] at n ⊢;have Q:=Ct he;refine bO (Tq B A M E w0 (t0 E i y)) ?_;refine bF (Tq.eng (dr:=true)) {} 60 n (λW d=>Hu i y Q d ga da wa) ?_;rintro W5 e W6 h5 ⟨rfl,N3,D,t3,o,h6⟩;refine ⟨_,0,rfl,jw ab,?_⟩;refine aO (R:=[]) trivial {} 1 ?_;exact aH _ _ (tail _ _ i _ N3 D t3 W6 Q rfl o h6)
 obtain ⟨b,K,hne,_⟩:=h.atC I;have cc:∀ (j:Nat),j<22->∀ W,Tq B A M g C tS W->W.cell? ⟨b,j,none⟩=some (.u (g.cs.getD j 0)):=λj hj W d=>by obtain ⟨b',L,_,p⟩:=d.atC I;rw [K] at L;cases L;exact (p j hj).1
 refine cF (S:=Tq B A M g C tS) (args:=[.p A 0]) [] func143 ?_;refine aY 0 1 ?_;cases G:g.wt with
 | true =>
   cases hz:(kV g.cs==0) with
   | true =>have eV:cj g=(g,4):=(by unfold cj;rw [G,hz,JZ8 ba]);rw [eV];exact bg (t:=2) (v:=.i 4) (Tq.eng (dr:=true)) {eq:=[(8,aD G),(25,aD hz)],ov:=[(15,pA g.cs.length C.cc .i64 9 K ⟨aa,aa⟩ underlying31 ab),(16,lw ⟨b,0+(9:Int).toNat,none⟩ (.u (g.cs.getD 9 0)) underlying32 rfl (cc 9 aa)),(22,pA g.cs.length C.cc .i64 3 K ⟨aa,aa⟩ underlying31 ab),(23,lw ⟨b,0+(3:Int).toNat,none⟩ (.u (g.cs.getD 3 0)) underlying32 rfl (cc 3 aa))]} 60 h λW d=>⟨rfl,C,tS,d⟩
   | false =>refine ak (Tq.eng (dr:=true)) {eq:=[(8,aD G),(25,aD hz)],ov:=[(15,pA g.cs.length C.cc .i64 9 K ⟨aa,aa⟩ underlying31 ab),(16,lw ⟨b,0+(9:Int).toNat,none⟩ (.u (g.cs.getD 9 0)) underlying32 rfl (cc 9 aa)),(22,pA g.cs.length C.cc .i64 3 K ⟨aa,aa⟩ underlying31 ab),(23,lw ⟨b,0+(3:Int).toNat,none⟩ (.u (g.cs.getD 3 0)) underlying32 rfl (cc 3 aa))]} 29 h λW d=>?_;exact aH _ _ (fin _ W d (by rw [G,hz];rfl))
 | false =>refine ak (Tq.eng (dr:=true)) {eq:=[(8,aD G)]} 29 h λW d=>?_;exact aH _ _ (fin _ W d (by rw [G];rfl))
structure Pr (w:H2) (cs:Array I4) (g:Nat) (M:MV) (C:MA) (W:H2):Prop where
 b:Bs w [(cs,36),(aJ au zeroA,36)] W
 row:W.heap[g]?=some (.cells (aW au zeroA ⟨.nilFunc,0,0,0,0,0,0,.nilIface,0,0,false,false,0,0⟩) 232 (0,0))
 fam:bi (w.heap.size+2) W.heap.size W (aU M C)
 ne:∀ q ∈ aU M C,q.v.ownBlock≠some g
 lo:w.heap.size+2<=g
theorem tz:(aW p x tS).all (·.oneCell'):=by unfold aW;kernel_rfl
theorem Bs.two (h:Bs w [(t,36),(aJ au zeroA,36)] M):w.heap.size+2<=M.heap.size:=by have:=(L5.1 (h.1 1 _ rfl)).1;omega
theorem iJ {bs:List (Array I4 × TypeId)} (h:Bs w bs M):oR k (Bs w bs) (λx=>x=M) (kD w.heap.size bs) false (H5 k P l):=
 ⟨λ_ e=>e ▸ h,(Bs.eng (P:=k) (fn:=P) (Rs:=l)).rows,(λh=>hh),cG⟩
theorem Lr:(do pure (.value (<- Instr.build 232 #[(0,.agg (aJ (sO p p.ram) x)),(1,.func (.func 142) #[] #[])])):Sem Next).run prog K=.ok (.value (.agg (aW p x tS))) K:=by kernel_rfl
theorem oH (o:w.ownsRow B 5 1 (.slice a A W) A (c.map (N1 .u8))) (a':B<=w.heap.size):bi B w.heap.size w [aI a A W c]:=(bi.nil B B w).cons (aI a A W c) B w.heap.size o (A0 _) (A0 _) (A0 _) a'
theorem zy (hl:iW p) (Z:D7 K p x) (Y:DD p) (hT:lY K):K0 prog 140 #[.agg (aJ p x)] K (mQ K (KN p)):=by
 have O:=λW (hb:Bw K W)=>dN p x W hl (Z.below hb) Y.mw.cs;unfold KN;refine cF (S:=Bs K [(aJ p x,36),(aJ au zeroA,36)]) (args:=[.agg (aJ p x)]) [(aJ p x,36),(aJ au zeroA,36)] func140 ?_;cases ok:eW p with
 | false =>rw [ok] at O;rw [JZ9 ba];refine ak Bs.eng {cv:=[(7,fu O)]} 40 (Bs.start _ _) λW1 u=>?_;refine cP (aF (g:=K.heap.size+1) (old:=aJ au zeroA) (cells:=aJ au zeroA) (t:=36) (ty:=36) (u.1 1 _ rfl) ab rfl (cw _ _)) ?_;refine jM (R:=[]) trivial {} 40 λa F=>⟨.tuple #[.agg (aJ au zeroA),.i 0],yv F rfl ab ab (H8 _ _ _ _ _ _ (u.1 1 _ rfl)) underlying36 rfl ab,zeroA,rfl,fH _ _ _,aN u.2 aa _⟩
 | true =>
   rw [ok] at O;rw [JZ8 rfl];have hg:=Y.gd ok;have L:=λ(B g:Nat) (w0 W:H2) (C:MA) (h:Tq B g w0 p C tS W)=>QG h hg Y.ud;generalize cj p=V at L ⊢;have hGw:=hT.lt;have fin:∀ (S:H2->Prop) (g:Nat) (C:MA) (W:H2),Pr K (aJ p x) g p C W->Wg prog S (H5 prog Tryz.f140 (mQ K V)) Tryz.f140.ntmps [.code (cQ 3 (bI Tryz.f140))] [(2,.p (K.heap.size+1) 0,0),(4,.p g 0,1)] (W.setRow g (aW p C tS)):=by
    intro S g C W v;have hlo:=v.lo;have A:Bw K (W.setRow g (aW p C tS)):=aN v.b.2 aa _;have r1:(W.setRow g (aW p C tS)).heap[K.heap.size+1]?=some (.cells (aJ au zeroA) 36 (0,0)):=(H3 _ _ _ _ aa).trans (v.b.1 1 _ rfl);have q0:Tq (K.heap.size+2) g (W.setRow g (aW p C tS)) p C tS (W.setRow g (aW p C tS)):=by
     refine ⟨⟨_,H8 _ _ _ _ _ _ v.row⟩,?_,v.ne,?_,rfl,rfl,rfl,A0 _,λ_ _ _=>rfl,hT.below A,aa,aa⟩;·rw [I5];exact v.fam.other λq G k e=>H3 _ _ _ _ (λe2=>v.ne q G (by rw [e,e2]))
     ·rw [I5];exact v.b.two
    generalize W.setRow g (aW p C tS)=W1 at A r1 q0 ⊢;refine aE (R:=[]) trivial {} 40 (L _ _ _ _ C q0) ?_;rintro e c ⟨rfl,D,tx,H⟩;refine ⟨_,0,rfl,?_⟩;have s:∀ k,k<K.heap.size+2->c.heap[k]?=W1.heap[k]?:=λk F=>H.block k F aa;have b2:Bw K c:=⟨H.os.trans A.os,H.tape.trans A.tape,H.output.trans A.output,G3 A.size H.size,λk F=>(s k aa).trans (A.block k F)⟩;have r2:c.heap[K.heap.size+1]?=some (.cells (aJ au zeroA) 36 (0,0)):=(s _ aa).trans r1;refine aY 4 1 ?_;refine du (R:=[⟨g,aW V.1 D tx,[]⟩]) ⟨H.row.in_,trivial⟩ {} 40 (aF (g:=K.heap.size+1) (t:=36) (ty:=36) (old:=aJ au zeroA) (cells:=aJ V.1 D) r2 ab rfl (cw _ _)) ?_;refine jM (R:=[]) trivial {} 40 λa F=>⟨.tuple #[.agg (aJ V.1 D),.i V.2],yv F rfl ab ab (H8 _ _ _ _ _ _ r2) underlying36 rfl ab,D,rfl,?_,aN b2 aa _⟩;refine bi.low (B:=K.heap.size+2) ?_ aa (A0 _);rw [I5];exact H.fam.mono λk u M f=>H3 _ _ _ _ aa
   refine ak Bs.eng {cv:=[(7,fu O)]} 9 (Bs.start _ _) λX h0=>?_;refine aH [.code (cQ 2 (bI Tryz.f140))] [(1,.p K.heap.size 0,1),(2,.p (K.heap.size+1) 0,2)] ?_;refine aO (R:=[]) trivial {} 1 ?_;refine nK 1 ?_;have w:=λW (h:Bs K [(aJ p x,36),(aJ au zeroA,36)] W)=>ik x.ar p.ram.length x.cr p.ram W rfl hl.ram (Z.below h.2).ram;have E:=λ(a':Option K4) (c' B:Nat) W (h:Bs K [(aJ p x,36),(aJ au zeroA,36)] W) (hR:bi B W.heap.size W [aI a' p.ram.length c' p.ram]) (hB:B<=W.heap.size)=>l6 p x p.ram a' p.ram.length c' B W hl (Z.below h.2) hR hB rfl;have d:=h0.below (L6 X.heap.size X).drew;have s0:=d.two;have J:∀ W:H2,Bw W (W.alloc (.cells (aW au zeroA ⟨.nilFunc,0,0,0,0,0,0,.nilIface,0,0,false,false,0,0⟩) 232)):=λW=>bal _ _;have b:∀ W:H2,(W.alloc (.cells (aW au zeroA ⟨.nilFunc,0,0,0,0,0,0,.nilIface,0,0,false,false,0,0⟩) 232)).heap.size=W.heap.size+1:=λW=>World.size_alloc _ _;have m:=λ(W:H2)=>dV (P:=prog) (T:=232) (z:=.agg (aW au zeroA ⟨.nilFunc,0,0,0,0,0,0,.nilIface,0,0,false,false,0,0⟩)) ab W;have zc:(P2 (aW au zeroA ⟨.nilFunc,0,0,0,0,0,0,.nilIface,0,0,false,false,0,0⟩)).cells=(aW au zeroA ⟨.nilFunc,0,0,0,0,0,0,.nilIface,0,0,false,false,0,0⟩):=rfl;rw [zc] at m;generalize X.drew=W1 at d s0 ⊢;refine ak (iJ d) {} 3 rfl ?_;rintro _ rfl;rename_i W1;refine mM (i:=3) (j:=6) ?_ ?_
   ·refine mN (w _ d) ?_;rintro e c ⟨a',c',rfl,U,s⟩;have M:=d.below s;have I:=s.size;have Q:=oH U I;refine ⟨_,0,rfl,M,?_⟩;refine mM (i:=4) (j:=6) ?_ ?_
    ·refine mN (E a' c' _ c M Q I) ?_;rintro e l ⟨C,_,_,rfl,y,n3,N⟩;have f:=M.below N;have z3:=N.size;have r:=f.below (J l);have o:Pr K (aJ p x) l.heap.size p C (l.alloc (.cells (aW au zeroA ⟨.nilFunc,0,0,0,0,0,0,.nilIface,0,0,false,false,0,0⟩) 232)):=⟨r,H1 _ _,(y.below (J l)).low s0 (by rw [b];omega),λq G e=>by have:=y.hi q G _ e;omega,aa⟩;refine ⟨_,0,rfl,f,?_⟩;refine mM (i:=5) (j:=6) ?_ ?_;·refine nU 0 (Lr p C l) f ?_;refine eH 0 (m l) (hS:=λ_=>r) ?_;refine ak (iJ r) {} 1 rfl ?_;rintro _ rfl;refine cP (aF (g:=l.heap.size) (t:=232) (ty:=232) (old:=(aW au zeroA ⟨.nilFunc,0,0,0,0,0,0,.nilIface,0,0,false,false,0,0⟩)) (cells:=aW p C tS) o.row ab rfl (tz _ _)) ?_;refine aO (R:=[]) trivial {} 1 ?_;exact aH _ _ (fin _ _ C _ o)
     ·refine nU 0 (m l) r ?_;refine ak (iJ r) {} 2 rfl ?_;rintro _ rfl;refine cP (aF (g:=l.heap.size) (t:=232) (ty:=232) (old:=(aW au zeroA ⟨.nilFunc,0,0,0,0,0,0,.nilIface,0,0,false,false,0,0⟩)) (cells:=aW p C tS) o.row ab rfl (tz _ _)) ?_;refine aO (R:=[]) trivial {} 1 ?_;exact aH _ _ (fin _ _ C _ o)
    ·have f:=M.below (J c);refine nU 0 (m c) f ?_;have y:=(Q.below (J c)).low (A0 _) (show c.heap.size<=(c.alloc (.cells (aW au zeroA ⟨.nilFunc,0,0,0,0,0,0,.nilIface,0,0,false,false,0,0⟩) 232)).heap.size by rw [b];omega);refine eI (E a' c' _ _ f y (by rw [b];omega)) ?_;rintro e W4 ⟨C,_,_,rfl,f4,n4,k4⟩;have r:=f.below k4;have o:Pr K (aJ p x) c.heap.size p C W4:=by
      refine ⟨r,aA k4 (H1 _ _),f4.low s0 (A0 _),λq G e=>?_,aa⟩;rcases n4 q G _ e with n | n;·rw [b] at n;omega
      ·have:=(U.lt _ n).2;omega
     refine ⟨_,0,rfl,λ_=>r,?_⟩;refine ak (iJ r) {} 2 rfl ?_;rintro _ rfl;refine cP (aF (g:=c.heap.size) (t:=232) (ty:=232) (old:=(aW au zeroA ⟨.nilFunc,0,0,0,0,0,0,.nilIface,0,0,false,false,0,0⟩)) (cells:=aW p C tS) o.row ab rfl (tz _ _)) ?_;refine aO (R:=[]) trivial {} 1 ?_;exact aH _ _ (fin _ _ C _ o)
   ·have u:=d.below (J W1);refine nU 0 (m W1) u ?_;refine eI (w _ u) ?_;rintro e c ⟨a',c',rfl,U,s⟩;have M:=u.below s;have I:=s.size;have Q:=oH U I;refine ⟨_,0,rfl,λ_=>M,?_⟩;refine eI (E a' c' _ c M Q I) ?_;rintro e l ⟨C,_,_,rfl,y,n3,N⟩;have f:=M.below N;rw [b] at I;have o:Pr K (aJ p x) W1.heap.size p C l:=(by refine ⟨f,aA N (aA s (H1 _ _)),y.low (by rw [b];omega) (A0 _),λq G e=>?_,aa⟩;have:=((y.own q G).lt _ e).1;rw [b] at this;omega);refine ⟨_,0,rfl,λ_=>f,?_⟩;refine ak (iJ f) {} 2 rfl ?_;rintro _ rfl;refine cP (aF (g:=W1.heap.size) (t:=232) (ty:=232) (old:=(aW au zeroA ⟨.nilFunc,0,0,0,0,0,0,.nilIface,0,0,false,false,0,0⟩)) (cells:=aW p C tS) o.row ab rfl (tz _ _)) ?_;refine aO (R:=[]) trivial {} 1 ?_;exact aH _ _ (fin _ _ C _ o)
def DW (M:MV) (n:Int):MV × List Int:=if (eW M&&decide (0<=n/\n<=300))=true then bJ n.toNat M else (au,[])
def ST (w:H2) (V:MV × List Int) (e:Ending) (w':H2):Prop:=∃ (C:MA) (a:Option K4) (c:Nat),e=.returned (.tuple #[.agg (aJ V.1 C),.slice a V.2.length c])/\bi w.heap.size w'.heap.size w' (aU V.1 C)/\w'.ownsRow w.heap.size 2 1 (.slice a V.2.length c) V.2.length (V.2.map (N1 .i64))/\Bw w w'
structure Pm (w:H2) (g:Nat) (cs:Array I4) (M:MV) (C:MA) (W:H2):Prop where
 out:W.heap[w.heap.size+1]?=some (.cells (aJ au zeroA) 36 (0,0))
 row:W.heap[g]?=some (.cells cs 36 (0,0))
 fam:bi (w.heap.size+2) W.heap.size W (aU M C)
 ne:∀ q ∈ aU M C,q.v.ownBlock≠some g
 lo:w.heap.size+2<=g
 bl:Bw w W
structure Pl (w:H2) (g:Nat) (M:MV) (C:MA) (xs:List Int) (a:Option K4) (c:Nat) (W:H2):Prop where
 pm:Pm w g (aJ M C) M C W
 own:W.ownsRow (w.heap.size+2) 2 1 (.slice a xs.length c) xs.length (xs.map (N1 .i64))
theorem Pm.put (h:Pm w A t g C M) (d:Array I4):Pm w A d g C (M.setRow A d):=by have:=h.lo;refine ⟨(H3 _ _ _ _ aa).trans h.out,H8 _ _ _ _ _ _ h.row,?_,h.ne,h.lo,aN h.bl aa _⟩;rw [I5];exact h.fam.other λq b k e=>H3 _ _ _ _ (λa=>h.ne q b (by rw [e,a]))
theorem Pl.far (h:Pl w A g C c a B M) {k:Nat} (e:(R4 a c.length B).ownBlock=some k):k≠A:=by
 rintro rfl;rcases h.own.2 with ⟨f,_⟩|⟨b,cap,i,f,_,d,_⟩;·rw [f] at e;cases e
 ·rw [f] at e;cases e;rw [h.pm.row] at d;injection d with d
  injection d with _ e4
  exact absurd e4 ba
theorem Pl.step {W1:H2} {N:MV} {D:MA} (h:Pl w A g C c a B M) (f:bi M.heap.size W1.heap.size W1 (aU N D)) (k:Bw M W1):Pl w A N D c a B (((W1.alloc (.cells (aJ au zeroA) 36)).setRow W1.heap.size (aJ N D)).setRow A (aJ N D)):=by have d:Bw W1 ((W1.alloc (.cells (aJ au zeroA) 36)).setRow W1.heap.size (aJ N D)):=aN (bal _ _) (A0 _) _;have b:=ae k d;have l:=(L5.1 h.pm.row).1;have p:Pm w A (aJ g C) N D ((W1.alloc (.cells (aJ au zeroA) 36)).setRow W1.heap.size (aJ N D)):=⟨aA b h.pm.out,aA b h.pm.row,(f.below d).low (by have:=h.pm.lo;omega) d.size,λq i e=>by have:=((f.own q i).lt _ e).1;omega,h.pm.lo,ae h.pm.bl b⟩;exact ⟨p.put _,dp h.own λj e=>(H3 _ _ _ _ (h.far e)).trans (b.block j (h.own.lt j e).2)⟩
theorem Pl.push (h:Pl w A g C c a B M) (hn:c.length<=1000000) (x:Int):∃ (a':Option K4) (c':Nat) (d:H2),(Fc 143 (.slice a c.length B) (.slice (some ⟨M.heap.size,0,none⟩) 1 1)).run prog (M.alloc (.cells #[.i x] 2))=.ok (.value (.slice a' (c++[x]).length c')) d/\Pl w A g C (c++[x]) a' c' d:=by
 have t:=(L5.1 h.pm.row).1;have u:=h.pm.lo;obtain ⟨a',c',d,s,o,m,n,i,p,f⟩:=KO h.own aa hn x;refine ⟨a',c',d,s,⟨(f _ aa λj b e=>?_).trans h.pm.out,(f _ t λj b e=>h.far b e).trans h.pm.row,?_,h.pm.ne,u,⟨n.trans h.pm.bl.os,i.trans h.pm.bl.tape,p.trans h.pm.bl.output,G3 h.pm.bl.size m,λk r=>(f k (by have:=h.pm.bl.size;omega) λj b e=>?_).trans (h.pm.bl.block k r)⟩⟩,o⟩;·have:=(h.own.lt j b).1;omega
 ·refine (h.pm.fam.other λq l k e=>f k ((h.pm.fam.own q l).lt k e).2 λj b i=>?_).low (A0 _) m;exact DE h.own h.pm.fam b q l (by rw [i];exact e)
 ·have:=(h.own.lt j b).1;omega
structure Lp (w:H2) (g:Nat) (M:MV) (n j:Nat) (x:MV × MA × List Int × Option K4 × Nat × Nat) (W:H2):Prop where
 ej:x.2.2.2.2.2+j=n
 pl:Pl w g x.1 x.2.1 x.2.2.1 x.2.2.2.1 x.2.2.2.2.1 W
 gw:Gw x.1
 ln:x.2.2.1.length=x.2.2.2.2.2
 st:bJ n M=((bJ j x.1).1,x.2.2.1++(bJ j x.1).2)
theorem wE (A:MA) (n:Int) (w:H2) (hl:iW p) (hs:D7 w p A) (hf:DD p) (hT:lY w):K0 prog 136 #[.agg (aJ p A),.i n] w (ST w (DW p n)):=by
 have X:=λW (hb:Bw w W)=>dN p A W hl (hs.below hb) hf.mw.cs;unfold DW;refine cF (S:=Bs w [(aJ p A,36),(aJ au zeroA,36)]) (args:=[.agg (aJ p A),.i n]) [(aJ p A,36),(aJ au zeroA,36)] func136 ?_;cases ok:eW p with
 | false =>rw [ok] at X;rw [JZ9 bh];refine ak Bs.eng {cv:=[(11,fu X)]} 40 (Bs.start _ _) λW1 u=>?_;exact t6
 | true =>
   rw [ok] at X;cases d1:decide (n<0) with
   | true =>have:=of_decide_eq_true d1;rw [JZ9 bb];refine ak Bs.eng {cv:=[(11,fu X)],eq:=[(15,aD d1)]} 40 (Bs.start _ _) λW1 u=>?_;exact t6
   | false =>
     have n0:=of_decide_eq_false d1;cases d2:decide (300<n) with
     | true =>have:=of_decide_eq_true d2;rw [JZ9 bb];refine ak Bs.eng {cv:=[(11,fu X)],eq:=[(15,aD d1),(19,aD d2)]} 40 (Bs.start _ _) λW1 u=>?_;exact t6
     | false =>
       have n1:=of_decide_eq_false d2;rw [JZ8 bb];have hg:Gw p:=⟨hf.gd ok,hf.ud⟩;obtain ⟨m,rfl⟩:=M7 (show 0<=n by omega);rw [M5];have fin:∀ (S:H2->Prop) (g:Nat) (C:MA) (W:H2),Pm w g (aJ au zeroA) p C W->Wg prog S (H5 prog Tryz.f136 (ST w (bJ m p))) Tryz.f136.ntmps [.code (cQ 3 (bI Tryz.f136))] [(1,.i (m:Nat),0),(4,.p (w.heap.size+1) 0,0),(6,.p g 0,1)] (W.setRow g (aJ p C)):=by
        intro S g C W hp;have h0:Lp w g p m m (p,C,[],none,0,0) (W.setRow g (aJ p C)):=⟨bh,⟨hp.put _,⟨rfl,.inl ⟨rfl,rfl⟩⟩⟩,hg,rfl,bh⟩;generalize W.setRow g (aJ p C)=W0 at h0 ⊢;refine aO (R:=[]) trivial {} 20 ?_;refine kf (λx:MV × MA × List Int × Option K4 × Nat × Nat=>[(4,.p (w.heap.size+1) 0,0),(6,.p g 0,1),(7,.slice x.2.2.2.1 x.2.2.1.length x.2.2.2.2.1,0),(27,.i (m:Nat),0),(28,.i (x.2.2.2.2.2:Nat),0)]) (Lp w g p m) m (p,C,[],none,0,0) ab ab h0 ?_;clear h0 hp;rintro j ⟨f,N,xs,a,c,i⟩ W ⟨ej,pl,F,ln,K⟩ R hR;dsimp only at ej pl F ln K ⊢;have L:∀ (o:MV) (l:MA) (ys:List Int) (b:Option K4) (d:Nat) (V:H2),bJ m p=(o,ys)->Pl w g o l ys b d V->ST w (bJ m p) (.returned (.tuple #[.agg (aJ o l),.slice b ys.length d])) (V.setRow (w.heap.size+1) (aJ o l)):=(by intro o l ys b d V e M;rw [e];have lo:=M.pm.lo;refine ⟨l,b,d,rfl,?_,dp (cS M.own aa) λk e=>H3 _ _ _ _ (by have:=(M.own.lt k e).1;omega),aN M.pm.bl aa _⟩;rw [I5];exact (M.pm.fam.mono λk u G v=>H3 _ _ _ _ aa).low aa (A0 _));cases j with
        | zero =>have q:decide ((i:Int)<(m:Int))=false:=i6;have e:bJ m p=(f,xs):=(by rw [K];simp [bJ]);exact g6 (R:=[⟨g,aJ f N,[]⟩]) ⟨⟨_,_,pl.pm.row⟩,trivial⟩ {eq:=[(29,aD q)]} 60 pl.pm.out ko (cw _ _) underlying36 (L f N xs a c W e pl)
        | succ j =>
          have q:decide ((i:Int)<(m:Int)):=ib;have sr:=zy f N W F.1.len pl.pm.fam.msl ⟨F.1.mw,F.1.ux,F.1.pc,F.1.hd,F.2⟩ (hT.below pl.pm.bl);have g1:=F.step;have e1:bJ (j+1) f=if ((cj f).2==4)=true then ((cj f).1,[(cj f).2]) else ((bJ j (cj f).1).1,(cj f).2::(bJ j (cj f).1).2):=rfl
          rw [e1] at K;clear e1;unfold KN at sr;rw [JZ8 F.1.ok] at sr;generalize cj f=V at sr g1 K;obtain ⟨o,k⟩:=V;dsimp only at sr g1 K;refine aE (R:=[⟨g,aJ f N,[]⟩]) ⟨⟨_,_,pl.pm.row⟩,trivial⟩ {eq:=[(29,aD q)]} 60 sr ?_;rintro e W1 ⟨l,rfl,Y,I⟩;refine ⟨_,0,rfl,?_⟩;have l2:=pl.step Y I;have zc:(P2 (aJ au zeroA)).cells=aJ au zeroA:=rfl;refine eU (R:=[]) trivial {} 20 2 (dV (T:=36) (z:=.agg (aJ au zeroA)) ab W1) ?_;rw [zc];refine du (R:=[]) trivial {} 20 (aF (g:=W1.heap.size) (t:=36) (ty:=36) (old:=aJ au zeroA) (cells:=aJ o l) (H1 _ _) ab rfl (cw _ _)) ?_;have rg:((W1.alloc (.cells (aJ au zeroA) 36)).setRow W1.heap.size (aJ o l)).heap[g]?=some (.cells (aJ f N) 36 (0,0)):=aA (ae I (aN (bal _ _) (A0 _) _)) pl.pm.row;refine du (R:=[⟨g,aJ f N,[]⟩,⟨W1.heap.size,aJ o l,[]⟩]) ⟨⟨_,_,rg⟩,⟨_,_,H8 _ _ _ _ _ _ (H1 _ _)⟩,trivial⟩ {} 40 (aF (g:=g) (t:=36) (ty:=36) (old:=aJ f N) (cells:=aJ o l) rg ab rfl (cw _ _)) ?_;generalize ((W1.alloc (.cells (aJ au zeroA) 36)).setRow W1.heap.size (aJ o l)).setRow g (aJ o l)=y at l2 ⊢;refine eU (R:=[]) trivial {} 20 0 (NI y k) ?_;obtain ⟨a',c',D,hr,l3⟩:=l2.push aa k;refine eH 0 hr ?_;have hlen:(xs++[k]).length=xs.length+1:=bh;cases hk:(k==4) with
          | true =>rw [hk,JZ8 rfl] at K;exact g6 (R:=[⟨g,aJ o l,[]⟩]) ⟨⟨_,_,l3.pm.row⟩,trivial⟩ {eq:=[(41,aD hk)]} 60 l3.pm.out ko (cw _ _) underlying36 (L o l (xs++[k]) a' c' D K l3)
          | false =>rw [hk,JZ9 ba] at K;have hw:IntKind.i64.wrap (((i:Nat):Int)+1)=((i+1:Nat):Int):=eg;exact eE (R:=[]) trivial {eq:=[(41,aD hk),(42,ed .i64 hw)]} 60 λb hb=>hR b D j (o,l,xs++[k],a',c',i+1) aa (hb.less ab) ⟨ca,l3,g1,by dsimp only;rw [hlen];omega,by rw [K];simp⟩
       refine ak Bs.eng {cv:=[(11,fu X)],eq:=[(15,aD d1),(19,aD d2)]} 17 (Bs.start _ _) λW0 h0=>?_;refine aH [.code (cQ 2 (bI Tryz.f136))] [(1,.i (m:Nat),0),(2,.p w.heap.size 0,1),(4,.p (w.heap.size+1) 0,2)] ?_;refine aO (R:=[]) trivial {} 1 ?_;refine nK 1 ?_;have hcl:=λW (h:Bs w [(aJ p A,36),(aJ au zeroA,36)] W)=>ik A.ar p.ram.length A.cr p.ram W rfl hl.ram (hs.below h.2).ram;have Q:=λ(a':Option K4) (c' B:Nat) W (h:Bs w [(aJ p A,36),(aJ au zeroA,36)] W) (hR:bi B W.heap.size W [aI a' p.ram.length c' p.ram]) (hB:B<=W.heap.size)=>l6 p A p.ram a' p.ram.length c' B W hl (hs.below h.2) hR hB rfl;have s:=h0.below (L6 W0.heap.size W0).drew;have s0:=s.two;have al:∀ W:H2,Bw W (W.alloc (.cells (aJ au zeroA) 36)):=λW=>bal _ _;have r:∀ W:H2,(W.alloc (.cells (aJ au zeroA) 36)).heap.size=W.heap.size+1:=λW=>World.size_alloc _ _;have J:∀ W:H2,_:=λ(W:H2)=>dV (P:=prog) (T:=36) (z:=.agg (aJ au zeroA)) ab W;have zc:(P2 (aJ au zeroA)).cells=aJ au zeroA:=rfl;rw [zc] at J;have U:∀ (g:Nat) (C:MA) (W:H2),Pm w g (aJ au zeroA) p C W->_:=λg C W E=>aF (P:=prog) (g:=g) (t:=36) (ty:=36) (old:=aJ au zeroA) (cells:=aJ p C) E.row ab rfl (cw _ _);generalize W0.drew=W1 at s s0 ⊢;refine ak (iJ s) {} 3 rfl ?_;rintro _ rfl;rename_i W1;refine mM (i:=3) (j:=5) ?_ ?_
       ·refine mN (hcl _ s) ?_;rintro e y ⟨a',c',rfl,o2,I⟩;have G:=s.below I;have Z:=I.size;have Y:=oH o2 Z;refine ⟨_,0,rfl,G,?_⟩;refine mM (i:=4) (j:=5) ?_ ?_;·refine mN (Q a' c' _ y G Y Z) ?_;rintro e D ⟨C,_,_,rfl,O,n3,k3⟩;have v:=G.below k3;have z3:=k3.size;have H:=v.below (al D);have E:Pm w D.heap.size (aJ au zeroA) p C (D.alloc (.cells (aJ au zeroA) 36)):=⟨H.1 1 _ rfl,H1 _ _,(O.below (al D)).low s0 (by rw [r];omega),λq hq e=>by have:=O.hi q hq _ e;omega,aa,H.2⟩;refine ⟨_,0,rfl,v,?_⟩;refine eH 0 (J D) (hS:=λ_=>H) ?_;refine ak (iJ H) {} 1 rfl ?_;rintro _ rfl;refine cP (U _ C _ E) ?_;refine aO (R:=[]) trivial {} 1 ?_;exact aH _ _ (fin _ _ C _ E)
        ·have v:=G.below (al y);refine nU 0 (J y) v ?_;have O:=(Y.below (al y)).low (A0 _) (show y.heap.size<=(y.alloc (.cells (aJ au zeroA) 36)).heap.size by rw [r];omega);refine eI (Q a' c' _ _ v O (by rw [r];omega)) ?_;rintro e W4 ⟨C,_,_,rfl,f4,n4,k4⟩;have H:=v.below k4;have E:Pm w y.heap.size (aJ au zeroA) p C W4:=by
          refine ⟨H.1 1 _ rfl,aA k4 (H1 _ _),f4.low s0 (A0 _),λq hq e=>?_,aa,H.2⟩;rcases n4 q hq _ e with n | n;·rw [r] at n;omega
          ·have:=(o2.lt _ n).2;omega
         refine ⟨_,0,rfl,λ_=>H,?_⟩;refine ak (iJ H) {} 1 rfl ?_;rintro _ rfl;refine cP (U _ C _ E) ?_;refine aO (R:=[]) trivial {} 1 ?_;exact aH _ _ (fin _ _ C _ E)
       ·have u:=s.below (al W1);refine nU 0 (J W1) u ?_;refine eI (hcl _ u) ?_;rintro e y ⟨a',c',rfl,o2,I⟩;have G:=u.below I;have Z:=I.size;have Y:=oH o2 Z;refine ⟨_,0,rfl,λ_=>G,?_⟩;refine eI (Q a' c' _ y G Y Z) ?_;rintro e D ⟨C,_,_,rfl,O,n3,k3⟩;have v:=G.below k3;rw [r] at Z;have E:Pm w W1.heap.size (aJ au zeroA) p C D:=(by refine ⟨v.1 1 _ rfl,aA k3 (aA I (H1 _ _)),O.low (by rw [r];omega) (A0 _),λq hq e=>?_,aa,v.2⟩;have:=((O.own q hq).lt _ e).1;rw [r] at this;omega);refine ⟨_,0,rfl,λ_=>v,?_⟩;refine ak (iJ v) {} 1 rfl ?_;rintro _ rfl;refine cP (U _ C _ E) ?_;refine aO (R:=[]) trivial {} 1 ?_;exact aH _ _ (fin _ _ C _ E)
def pcs (M:MV) (A:MA) (s:Nat):Array Value:=#[.u M.pc,.slice A.ax M.x.length A.cx,.i M.pr,.slice A.ac M.cs.length A.cc,.slice A.ar M.ram.length A.cr,.u M.d.t,.u M.d.cm,.bool M.d.so,.slice A.ai M.d.xs.length A.ci,.slice A.ao M.d.ys.length A.co,.i M.d.ir,.u M.hd,.bool M.hl,.bool M.wt,.i s]
structure Pp (w:H2) (g:Nat) (M:MV) (A:MA) (s:Nat) (W:H2):Prop where
 row:W.heap[g]?=some (.cells (pcs M A s) 128 (0,0))
 fam:bi (w.heap.size+2) W.heap.size W (aU M A)
 ne:∀ q ∈ aU M A,q.v.ownBlock≠some g
 lo:w.heap.size+2<=g
 out:W.heap[w.heap.size+1]?=some (.cells (aJ au zeroA) 36 (0,0))
 bl:Bw w W
section
variable {w W W1 : H2} {g s : Nat} {M N : MV} {A C : MA}
theorem Pp.lt (h:Pp w g M A s W):g<W.heap.size:=(L5.1 h.row).1
theorem Pp.below (h:Pp w g M A s W) (k:Bw W W1):Pp w g M A s W1:=⟨aA k h.row,(h.fam.below k).low (A0 _) k.size,h.ne,h.lo,aA k h.out,ae h.bl k⟩
theorem Pp.put (h:Pp w g M A s W) (f:bi (w.heap.size+2) W.heap.size W (aU N C)) (hn:∀ q ∈ aU N C,q.v.ownBlock≠some g) (c:Nat):Pp w g N C c (W.setRow g (pcs N C c)):=by have:=h.lo;refine ⟨H8 _ _ _ _ _ _ h.row,?_,hn,h.lo,(H3 _ _ _ _ aa).trans h.out,aN h.bl aa _⟩;rw [I5];exact f.other λq b k e=>H3 _ _ _ _ (λa=>hn q b (by rw [e,a]))
theorem Pp.new (h:Pp w g M A s W) (k:Bw W W1) (f:bi W.heap.size W1.heap.size W1 (aU N C)):Pp w g N C s (W1.setRow g (pcs N C s)):=by have c:=h.lt;have b:=h.lo;exact (h.below k).put (f.low aa (A0 _)) (λq a e=>by have:=((f.own q a).lt g e).1;omega) s
theorem Pp.dev (h:Pp w g M A s W) (k:Bw W W1) (D:DV) {a:Option K4} {c:Nat} {b:Option K4} {d:Nat} (f:bi W.heap.size W1.heap.size W1 (zP D a c b d)):Pp w g (dg M D) (pn A a c b d) s (W1.setRow g (pcs (dg M D) (pn A a c b d) s)):=by have m:=h.lt;have p:=h.lo;have i:Renew W W1 A.ai A.ci M.d.xs A.ao A.co M.d.ys a c D.xs b d D.ys:=.inr (.inr (.inr f));refine (h.below k).put (EJ h.fam aa k D i) (λq n e=>?_) s;obtain ⟨o,l,j⟩:=EK D i q n g e m;exact h.ne o l j
theorem Pp.tab (h:Pp w g M A s W) (t:lY w):lY W:=t.below h.bl
theorem QH (h:Pp w g M A s W):(do R5 36 (.p g 0) (.agg (aJ N C));pure Next.skip:Sem Next).run prog W=.ok .skip (W.setRow g (pcs N C s)):=by have:=jO (P:=prog) W g 0 128 36 (pcs M A s) (aJ N C) h.row ab (A6 rfl) (cw _ _);simp only [R5,S1,Sem.run_bind,Sem.run_pure,Result.andThen_ok,this];rfl
theorem Ls (h:Pp w g M A s W) (D:DV) (a:Option K4) (c:Nat) (b:Option K4) (d:Nat):(do R5 34 (.p g 5) (.agg (iU D a c b d));pure Next.skip:Sem Next).run prog W=.ok .skip (W.setRow g (pcs (dg M D) (pn A a c b d) s)):=by have:=jO (P:=prog) W g 5 128 34 (pcs M A s) (iU D a c b d) h.row ab (A6 rfl) (fp _ _ _ _ _);simp only [R5,S1,Sem.run_bind,Sem.run_pure,Result.andThen_ok,this];rfl
theorem Pp.cnt (h:Pp w g M A s W) (c:Nat):Pp w g M A c (W.setCell ⟨g,14,none⟩ (.i c)):=by have:=h.lo;refine ⟨gn h.row _,?_,h.ne,h.lo,(L7 W _ _ _ ca).trans h.out,⟨h.bl.os,h.bl.tape,h.bl.output,by rw [cy];exact h.bl.size,λk b=>(L7 W _ _ k ca).trans (h.bl.block k b)⟩⟩;rw [cy];exact h.fam.other λq d k e=>L7 W _ _ k (λa=>h.ne q d (by rw [e];exact congrArg some a))
theorem bi.setC {B E b:Nat} (h:bi B E W (aU M A)) (hb:A.ac=some ⟨b,0,none⟩) (i:Nat) (v:Int):bi B E (W.setCell ⟨b,i,none⟩ (.u v)) (aU (cM M (M.cs.set i v)) A):=by
 have c:W.ownsRow B 32 1 (.slice A.ac M.cs.length A.cc) M.cs.length (M.cs.map (N1 .u64)):=h.own (aK A.ac M.cs.length A.cc M.cs) d5;rw [hb] at c;have a:=c.stored i (.u v);rw [oB] at a;have e:W.grownBy (W.setCell ⟨b,i,none⟩ (.u v)) (aK A.ac M.cs.length A.cc M.cs).v.ownBlock:=by simp only [aK];rw [hb];exact a.2
 have f:=bi.mark (L1:=[aK A.ax M.x.length A.cx M.x]) (r:=aK A.ac M.cs.length A.cc M.cs) (L2:=[aI A.ar M.ram.length A.cr M.ram,aI A.ai M.d.xs.length A.ci M.d.xs,aI A.ao M.d.ys.length A.co M.d.ys]) h e ((M.cs.set i v).map (N1 .u64)) (by simp only [aK];rw [hb];exact a.1);have d:aU (cM M (M.cs.set i v)) A=[aK A.ax M.x.length A.cx M.x]++⟨(aK A.ac M.cs.length A.cc M.cs).t,(aK A.ac M.cs.length A.cc M.cs).v,(aK A.ac M.cs.length A.cc M.cs).n,(M.cs.set i v).map (N1 .u64)⟩::[aI A.ar M.ram.length A.cr M.ram,aI A.ai M.d.xs.length A.ci M.d.xs,aI A.ao M.d.ys.length A.co M.d.ys]:=by simp [aU,cM,aK]
 rw [d];exact f.1
theorem Pp.setC {b:Nat} (h:Pp w g M A s W) (hb:A.ac=some ⟨b,0,none⟩) (m:M.cs.length=22) (i:Nat) (v:Int):Pp w g (cM M (M.cs.set i v)) A s (W.setCell ⟨b,i,none⟩ (.u v)):=by
 have c:aK A.ac M.cs.length A.cc M.cs ∈ aU M A:=d5
 have a:(aK A.ac M.cs.length A.cc M.cs).v.ownBlock=some b:=by show (R4 A.ac M.cs.length A.cc).ownBlock=_;rw [hb];rfl
 have o:=((h.fam.own _ c).lt b a).1;have l:g≠b:=λe=>h.ne _ c (by rw [a,e]);have d:∀ k,k≠b->(W.setCell ⟨b,i,none⟩ (.u v)).heap[k]?=W.heap[k]?:=λk a=>L7 W _ _ k a;refine ⟨(d g l).trans (h.row.trans ?_),by rw [cy];exact h.fam.setC hb i v,λq c=>?_,h.lo,(d _ aa).trans h.out,⟨h.bl.os,h.bl.tape,h.bl.output,by rw [cy];exact h.bl.size,λk a=>(d k aa).trans (h.bl.block k a)⟩⟩;·simp [pcs,cM]
 ·obtain ⟨n,j,f⟩:=qb (M:=M) (M':=cM M (M.cs.set i v)) (A:=A) rfl (show (M.cs.set i v).length=M.cs.length by simp) rfl rfl rfl q c;rw [<- f];exact h.ne n j
theorem QI (h:Pp w g M A s W) (hl:iW M) (a:M.cs.length=22) (hk:lm M.d.xs.length M.d.ys.length M.d.ir):K0 prog 47 #[.p g 0] W λe l=>e=.returned (.tuple #[])/\Pp w g (dU M) A s l:=by
 have d:=λW=>rl M.d A.ai A.ci A.ao A.co W hl.xs hl.ys;obtain ⟨b,i,-,c⟩:=oE (h.fam.own (aK A.ac M.cs.length A.cc M.cs) d5) a aa;obtain ⟨c,m⟩:=c 9 aa;have bZ:b<W.heap.size:=World.block_lt_of_cell? _ _ c;have e:dU M=cM M (M.cs.set 9 (K1 .or .u64 (K1 .andNot .u64 (M.cs.getD 9 0) 2184) (fL M.d))):=by rw [<- lZ hk];rfl
 rw [e];have fin:=λV (k:Bw W V)=>(h.below k).setC i a 9 (K1 .or .u64 (K1 .andNot .u64 (M.cs.getD 9 0) 2184) (fL M.d));generalize fL M.d=y at d fin ⊢;generalize M.cs.getD 9 0=z at c fin ⊢;refine bE (args:=[.p g 0]) (R1 W g (pcs M A s) 128) func47 ?_;refine aY 0 1 ?_;refine nK 1 ?_;have ev:(pcs M A s)=#[.u M.pc,.slice A.ax M.x.length A.cx,.i M.pr,.slice (some ⟨b,0,none⟩) 22 A.cc,.slice A.ar M.ram.length A.cr,.u M.d.t,.u M.d.cm,.bool M.d.so,.slice A.ai M.d.xs.length A.ci,.slice A.ao M.d.ys.length A.co,.i M.d.ir,.u M.hd,.bool M.hl,.bool M.wt,.i s]:=by unfold pcs;rw [i,a]
 rw [ev];have j:=h.row;rw [ev] at j;refine ak R1.eng {ov:=[(11,lw ⟨b,9,none⟩ (.u z) underlying32 rfl λV f=>(f.2.cell (p:=⟨b,9,none⟩) bZ).trans c)],cv:=[(17,jF R1.below λV _=>d V)]} 60 ⟨j,(L6 _ _).drew⟩ λV f=>?_;refine cP (oq (T:=32) (v:=.u (K1 .or .u64 (K1 .andNot .u64 z 2184) y)) ⟨(f.2.cell (p:=⟨b,9,none⟩) bZ).trans c,(f.2.frozen (p:=⟨b,9,none⟩) bZ).trans m⟩ ab rfl) ?_;exact dq {} 20 ab ab rfl ⟨rfl,fin V f.2⟩
theorem QJ (h:Pp w g M A s W) (hl:iW M) (hb:cT M.d) (n:Int):K0 prog 129 #[.p g 0,.i n] W λe a=>e=.returned (.tuple #[])/\∃ C,Pp w g (dg M (ky M.d n)) C s a/\∀ k,k<W.heap.size->k≠g->a.heap[k]?=W.heap[k]?:=by have b:=h.fam.msl;refine bE (args:=[.p g 0,.i n]) (λ_=>True) func129 ?_;refine aY 0 1 ?_;refine aE (R:=[⟨g,pcs M A s,[]⟩]) ⟨⟨_,_,h.row⟩,trivial⟩ {} 60 (yR M.d A.ai A.ci A.ao A.co n W hl.xs hl.ys hb b.xs b.ys) ?_;rintro e W1 ⟨c,j,d,l,rfl,f,k⟩;refine ⟨_,0,rfl,?_⟩;refine du (R:=[]) trivial {} 20 (Ls (h.below k) (ky M.d n) c j d l) ?_;exact dq {} 20 ab ab rfl ⟨rfl,_,h.dev k _ f,λi m o=>(H3 _ _ _ _ o).trans (k.block i m)⟩
theorem QK (h:Pp w g M A s W) (hl:iW M) (hb:cT M.d) (n:Int):K0 prog 130 #[.p g 0,.i n] W λe a=>e=.returned (.tuple #[])/\∃ C,Pp w g (dg M (lP M.d (IntKind.u8.wrap n))) C s a/\∀ k,k<W.heap.size->k≠g->a.heap[k]?=W.heap[k]?:=by have b:=h.fam.msl;refine bE (args:=[.p g 0,.i n]) (λ_=>True) func130 ?_;refine aY 0 1 ?_;refine aE (R:=[⟨g,pcs M A s,[]⟩]) ⟨⟨_,_,h.row⟩,trivial⟩ {} 60 (yS M.d A.ai A.ci A.ao A.co (IntKind.u8.wrap n) W hl.xs hl.ys hb b.xs b.ys) ?_;rintro e W1 ⟨c,j,d,l,rfl,f,k⟩;refine ⟨_,0,rfl,?_⟩;refine du (R:=[]) trivial {} 20 (Ls (h.below k) (lP M.d (IntKind.u8.wrap n)) c j d l) ?_;exact dq {} 20 ab ab rfl ⟨rfl,_,h.dev k _ f,λi m o=>(H3 _ _ _ _ o).trans (k.block i m)⟩
theorem RV (h:Pp w g M A s W) (D:Gw M) (J:lY w) (n:Nat) (hn:n<=300) (hs:s<=30000):K0 prog 128 #[.p g 0,.i n] W λe W'=>e=.returned (.tuple #[])/\∃ C,Pp w g (bJ n M).1 C (s+oL (bJ n M).2) W'/\∀ k,k<W.heap.size->k≠g->W'.heap[k]?=W.heap[k]?:=by
 have G:=wE M A n W D.1.len h.fam.msl ⟨D.1.mw,D.1.ux,D.1.pc,D.1.hd,D.2⟩ (h.tab J);have r:=rz n M;unfold DW at G;rw [JZ8 (by rw [D.1.ok];simp;omega),M5] at G;generalize bJ n M=V at G r ⊢;obtain ⟨N,f⟩:=V;dsimp only at G r ⊢;refine bE (args:=[.p g 0,.i n]) (λ_=>True) func128 ?_;refine aY 0 1 ?_;refine aE (R:=[⟨g,pcs M A s,[]⟩]) ⟨⟨_,_,h.row⟩,trivial⟩ {} 60 G ?_;rintro e W1 ⟨C,a,c,rfl,f1,o1,k1⟩;refine ⟨_,0,rfl,?_⟩;dsimp only at f1 o1;have zc:(P2 (aJ au zeroA)).cells=aJ au zeroA:=rfl;refine eU (R:=[]) trivial {} 20 2 (dV (T:=36) (z:=.agg (aJ au zeroA)) ab W1) ?_;rw [zc];refine du (R:=[]) trivial {} 20 (aF (g:=W1.heap.size) (t:=36) (ty:=36) (old:=aJ au zeroA) (cells:=aJ N C) (H1 _ _) ab rfl (cw _ _)) ?_;have E:=oF W1 (aJ au zeroA) (aJ N C) 36;have r2:((W1.alloc (.cells (aJ au zeroA) 36)).setRow W1.heap.size (aJ N C)).heap[W1.heap.size]?=some (.cells (aJ N C) 36 (0,0)):=H8 _ _ _ _ _ _ (H1 _ _);have F:=ae k1 E;have f2:=(f1.below E).low (A0 _) E.size;have Y:=aZ o1 E;generalize (W1.alloc (.cells (aJ au zeroA) 36)).setRow W1.heap.size (aJ N C)=L at E r2 F f2 Y ⊢;refine du (R:=[⟨g,pcs M A s,[]⟩,⟨W1.heap.size,aJ N C,[]⟩]) ⟨⟨_,_,aA F h.row⟩,⟨_,_,r2⟩,trivial⟩ {} 40 (QH (N:=N) (C:=C) (h.below F)) ?_;have p3:=h.new F f2;have bZ:=h.lt;have Z:(L.setRow g (pcs N C s)).ownsRow W.heap.size 2 1 (.slice a f.length c) f.length (f.map (N1 .i64)):=dp Y λk e=>H3 _ _ _ _ (by have:=(Y.lt k e).1;omega);have a3:∀ k,k<W.heap.size->k≠g->(L.setRow g (pcs N C s)).heap[k]?=W.heap[k]?:=λi Q I=>(H3 _ _ _ _ I).trans (F.block i Q);generalize L.setRow g (pcs N C s)=W3 at p3 Z a3 ⊢;have ht:=gj Z;refine aO (R:=[]) trivial {} 20 ?_;refine kf (λx:Nat × Nat=>[(0,.p g 0,1),(21,.slice a f.length c,0),(22,.i f.length,0),(23,.i (x.1:Nat),0)]) (λj x V=>x.1+j=f.length/\x.2=s+oL (f.take x.1)/\Pp w g N C x.2 V/\∀ k,k≠g->V.heap[k]?=W3.heap[k]?) f.length (0,s) ab ab ⟨bh,by simp [oL],p3,λ_ _=>rfl⟩ ?_;rintro j ⟨q,u⟩ V ⟨ej,P,p,m⟩ T J;dsimp only at ej P p ⊢;cases j with
 | zero =>have d:decide ((q:Int)<(f.length:Int))=false:=i6;rw [List.take_of_length_le aa] at P;subst P;exact dq {eq:=[(24,aD d)]} 40 ab ab rfl ⟨rfl,C,p,λi Q I=>(m i I).trans (a3 i Q I)⟩
 | succ j =>
   have d:decide ((q:Int)<(f.length:Int)):=ib;have O:=Hr (l:=f) (q:=q) aa;have hgo:=Fg (f.take (q+1));have hl2:=List.length_take_le (q+1) f;obtain ⟨b,o,S,K,hc⟩:=ht q aa;have U:b≠g:=(by have:=(Z.lt b (by rw [S];rfl)).1;omega);have B:V.cell? ⟨b,o+(q:Int).toNat,none⟩=some (.i (f.getD q 0)):=(by rw [M5,<- hc];simp only [World.cell?,m b U]);generalize f.getD q 0=y at O B;have hw:IntKind.i64.wrap (((q:Nat):Int)+1)=((q+1:Nat):Int):=eg;cases H:(y != 4) with
   | true =>rw [H,JZ8 rfl] at O;have X:IntKind.i64.wrap (((u:Nat):Int)+1)=((u+1:Nat):Int):=eg;refine du (R:=[⟨g,pcs N C u,[]⟩]) ⟨⟨_,_,p.row⟩,trivial⟩ {eq:=[(24,aD d),(28,aD H),(33,ed .i64 X)],ov:=[(25,pA f.length c .i64 q S aa underlying143 ab),(26,lw ⟨b,o+(q:Int).toNat,none⟩ (.i y) underlying2 rfl λV m=>by subst m;exact B)]} 80 (jk (T:=2) (v:=.i ((u+1:Nat):Int)) (i:=14) p.row (A6 rfl) ab rfl) ?_;exact eE (R:=[]) trivial {eq:=[(36,ed .i64 hw)]} 40 λb K=>J b _ j (q+1,u+1) aa (K.less ab) ⟨ca,ca,p.cnt (u+1),λk hk=>(L7 V _ _ k hk).trans (m k hk)⟩
   | false =>rw [H,JZ9 ba] at O;exact eE (R:=[]) trivial {eq:=[(24,aD d),(28,aD H),(36,ed .i64 hw)],ov:=[(25,pA f.length c .i64 q S aa underlying143 ab),(26,lw ⟨b,o+(q:Int).toNat,none⟩ (.i y) underlying2 rfl λV m=>by subst m;exact B)]} 80 λb K=>J b V j (q+1,u) aa (K.less ab) ⟨ca,ca,p,m⟩
def zA:Array Value:=#[.i 1,.i 300,.func (.func 128) #[] #[],.i 2,.i 9223372036854775807,.func (.func 129) #[] #[],.i 3,.i 9223372036854775807,.func (.func 130) #[] #[]]
theorem DX (W:H2):CB 111 #[] W (.agg zA):=by refine cF (S:=Bs W [(#[.i 0,.i 0,.nilFunc,.i 0,.i 0,.nilFunc,.i 0,.i 0,.nilFunc],177)]) (args:=[]) [(#[.i 0,.i 0,.nilFunc,.i 0,.i 0,.nilFunc,.i 0,.i 0,.nilFunc],177)] func111 ?_;exact Rf (Bs.start _ _) {} 40 (i:=0) (cs:=zA) (T:=177) rfl rfl ab (by simp [zA,Value.oneCell']) underlying177 rfl rfl ab ab (by intro _;kernel_rfl) (λV b=>⟨rfl,b⟩)
def zH (i:Nat) (k n:Int) (M:MV):MV × Nat:=if k<=(i:Int) then vu k n M else (M,0)
theorem zB {i:Nat} {k:Int} (h:((((i+1:Nat):Int))==k)=false) (n:Int) (M:MV):zH (i+1) k n M=zH i k n M:=by
 have:¬ ((i+1:Nat):Int)=k:=dd
 unfold zH;by_cases a:k<=(i:Int);·rw [JZ8 a,JZ8 aa]
 ·rw [JZ9 a,JZ9 aa]
theorem DY (i:Nat) {k:Int} (h:((((i+1:Nat):Int))==k)) (n:Int) (M:MV):zH i k n M=(M,0)/\zH (i+1) k n M=vu k n M:=by have:=beq_iff_eq.1 h;unfold zH;rw [JZ9 aa,JZ8 aa];exact ⟨rfl,rfl⟩
theorem zC {n:Int} (h:¬ 0<=n) (k:Int) (M:MV):vu k n M=(M,0):=by unfold vu;rw [JZ9 bb,JZ9 bb,JZ9 bb]
theorem Ft {k:Int} (h:k<=0\/3<k) (n:Int) (M:MV):vu k n M=(M,0):=by unfold vu;rw [JZ9 bb,JZ9 bb,JZ9 bb]
theorem RW (k n:Int) (M:MV):zH 0 k n M=(M,0):=by
 unfold zH;split;·exact Ft (.inl aa) n M
 ·rfl
theorem RX (k n:Int) (M:MV):zH 3 k n M=vu k n M:=by
 unfold zH;split;·rfl
 ·exact (Ft (.inr aa) n M).symm
structure So (w W:H2) (g:Nat) (k n:Int) (M:MV) (s:Nat) (j:Nat) (x:MV × MA × Nat × Nat) (V:H2):Prop where
 ej:x.2.2.2+j=3
 pp:Pp w g x.1 x.2.1 x.2.2.1 V
 box:V.heap[W.heap.size]?=some (.cells #[.i k,.i n] 82 (0,0))
 st:(x.1,x.2.2.1)=((zH x.2.2.2 k n M).1,s+(zH x.2.2.2 k n M).2)
theorem QL (h:Pp w g M A s W) (J:Gw M) (hT:lY w) (k n:Int) (hn:n<=9223372036854775807) (hs:s<=30000):K0 prog 82 #[.p g 0,.agg #[.i k,.i n]] W λe W'=>e=.returned (.tuple #[])/\∃ C,Pp w g (Cc k n M).1 C (s+(Cc k n M).2) W':=by
 have bZ:=h.lt
 have B:=Qw J k n
 rw [Fh J]
 refine cF (S:=λ_=>True) (args:=[.p g 0,.agg #[.i k,.i n]]) [(#[.i k,.i n],82)] func82 ?_
 obtain ⟨b1,b2⟩:=Bs.start W [(#[.i k,.i n],82)]
 have b0:=b1 0 _ rfl
 generalize dC W [(#[.i k,.i n],82)]=W0 at b0 b2 ⊢
 refine aE (R:=[]) trivial {} 60 (DX W0) ?_
 rintro e W1 ⟨rfl,k1⟩
 refine ⟨_,0,rfl,?_⟩
 refine aO (R:=[]) trivial {} 20 ?_
 refine kf (λx:MV × MA × Nat × Nat=>[(0,.p g 0,0),(3,.p W.heap.size 0,1),(6,.agg zA,0),(7,.i (x.2.2.2:Nat),0)]) (So w W g k n M s) 3 (M,A,s,0) ab ab ⟨rfl,(h.below b2).below k1,aA k1 b0,by show (M,s)=_;rw [RW];rfl⟩ ?_
 clear b0 b1 b2 k1
 rintro j ⟨N,C,u,i⟩ V ⟨ej,pp,box,o⟩ T c
 dsimp only at ej pp box o ⊢
 have P:=(L5.1 box).1
 cases j with
 | zero =>
   obtain rfl:i=3:=aa
   rw [RX] at o
   generalize vu k n M=Z at o B ⊢
   obtain ⟨Z1,Z2⟩:=Z
   simp only [Prod.mk.injEq] at o
   obtain ⟨rfl,rfl⟩:=o
   refine aE (R:=[]) trivial {} 60 (QI pp B.1 B.2.1 B.2.2) ?_
   rintro e W2 ⟨rfl,D⟩
   refine ⟨_,0,rfl,?_⟩
   exact dq {} 20 ab ab rfl ⟨rfl,_,D⟩
 | succ j =>
   have new:∀ (x:Int) (y:Int) (f:I4),Bw V ((V.alloc (.cells #[.i 0,.i 0,.nilFunc] 176)).setRow V.heap.size #[.i x,.i y,f])/\((V.alloc (.cells #[.i 0,.i 0,.nilFunc] 176)).setRow V.heap.size #[.i x,.i y,f]).heap[V.heap.size]?=some (.cells #[.i x,.i y,f] 176 (0,0)):=λx y f=>⟨oF V _ _ _,H8 _ _ _ _ _ _ (H1 _ _)⟩
   have zc:(P2 #[.i 0,.i 0,.nilFunc]).cells=#[.i 0,.i 0,.nilFunc]:=rfl
   have c3:i=0\/i=1\/i=2:=aa
   rcases c3 with rfl|rfl|rfl
   ·obtain ⟨l,O⟩:=new 1 300 (.func (.func 128) #[] #[])
    refine eU (R:=[]) trivial {} 60 2 (dV (T:=176) (z:=.agg #[.i 0,.i 0,.nilFunc]) ab V) ?_
    rw [zc]
    refine du (R:=[]) trivial {} 20 (aF (g:=V.heap.size) (t:=176) (ty:=176) (old:=#[.i 0,.i 0,.nilFunc]) (cells:=#[.i 1,.i 300,.func (.func 128) #[] #[]]) (H1 _ _) ab rfl ex) ?_
    generalize (V.alloc (.cells #[.i 0,.i 0,.nilFunc] 176)).setRow V.heap.size #[.i 1,.i 300,.func (.func 128) #[] #[]]=F at l O ⊢
    have R2:fN F [⟨W.heap.size,#[.i k,.i n],[]⟩,⟨V.heap.size,#[.i 1,.i 300,.func (.func 128) #[] #[]],[]⟩]:=⟨⟨_,_,aA l box⟩,⟨_,_,O⟩,trivial⟩
    have D:=pp.below l
    have H:=aA l box
    have G:∀ (v:H2) (r:MV) (I:MA) (E:Nat),Pp w g r I E v->v.heap[W.heap.size]?=some (.cells #[.i k,.i n] 82 (0,0))->(r,E)=((zH 1 k n M).1,s+(zH 1 k n M).2)->So w W g k n M s j (r,I,E,1) v:=λv r I E p b e=>⟨ca,p,b,e⟩
    cases a:((1:Int)==k) with
    | false=>exact eE R2 {eq:=[(14,aD a)]} 60 λb d=>c b F j (N,C,u,1) aa (d.less ab) (G _ _ _ _ D H (by rw [o,zB a]))
    | true =>
      obtain ⟨q1,K⟩:=DY 0 a n M
      have e:=(beq_iff_eq.1 a).symm
      subst e
      rw [q1] at o
      simp only [Prod.mk.injEq,F3] at o
      obtain ⟨rfl,rfl⟩:=o
      cases q:decide (0<=n) with
      | false =>
        have e:=zC (of_decide_eq_false q) 1 N
        exact eE R2 {eq:=[(14,aD a),(18,aD q)]} 60 λb d=>c b F j (N,C,u,1) aa (d.less ab) (G _ _ _ _ D H (by rw [K,e];rfl))
      | true =>
        have Y:=of_decide_eq_true q
        cases L:decide (n<=300) with
        | false =>
          have:=of_decide_eq_false L
          have e:vu 1 n N=(N,0):=by
           unfold vu
           rw [JZ9 bb,JZ9 bh,JZ9 bh]
          exact eE R2 {eq:=[(14,aD a),(18,aD q),(25,aD L)]} 60 λb d=>c b F j (N,C,u,1) aa (d.less ab) (G _ _ _ _ D H (by rw [K,e];rfl))
        | true =>
          have n3:=of_decide_eq_true L
          obtain ⟨m,rfl⟩:=M7 Y
          refine aE R2 {eq:=[(14,aD a),(18,aD q),(25,aD L)]} 80 (RV D J hT m aa hs) ?_
          rintro e U ⟨rfl,Q,p3,X⟩
          refine ⟨_,0,rfl,?_⟩
          exact eE (R:=[]) trivial {} 60 λb d=>c b U j (_,Q,_,1) aa (d.less ab) (G _ _ _ _ p3 ((X _ (F0 P l.size) aa).trans H) (by
           rw [K]
           unfold vu
           rw [JZ8 bb]
           rfl))
   ·obtain ⟨l,O⟩:=new 2 9223372036854775807 (.func (.func 129) #[] #[])
    refine eU (R:=[]) trivial {} 60 2 (dV (T:=176) (z:=.agg #[.i 0,.i 0,.nilFunc]) ab V) ?_
    rw [zc]
    refine du (R:=[]) trivial {} 20 (aF (g:=V.heap.size) (t:=176) (ty:=176) (old:=#[.i 0,.i 0,.nilFunc]) (cells:=#[.i 2,.i 9223372036854775807,.func (.func 129) #[] #[]]) (H1 _ _) ab rfl ex) ?_
    generalize (V.alloc (.cells #[.i 0,.i 0,.nilFunc] 176)).setRow V.heap.size #[.i 2,.i 9223372036854775807,.func (.func 129) #[] #[]]=F at l O ⊢
    have R2:fN F [⟨W.heap.size,#[.i k,.i n],[]⟩,⟨V.heap.size,#[.i 2,.i 9223372036854775807,.func (.func 129) #[] #[]],[]⟩]:=⟨⟨_,_,aA l box⟩,⟨_,_,O⟩,trivial⟩
    have D:=pp.below l
    have H:=aA l box
    have G:∀ (v:H2) (r:MV) (I:MA) (E:Nat),Pp w g r I E v->v.heap[W.heap.size]?=some (.cells #[.i k,.i n] 82 (0,0))->(r,E)=((zH 2 k n M).1,s+(zH 2 k n M).2)->So w W g k n M s j (r,I,E,2) v:=λv r I E p b e=>⟨ca,p,b,e⟩
    cases a:((2:Int)==k) with
    | false=>exact eE R2 {eq:=[(14,aD a)]} 60 λb d=>c b F j (N,C,u,2) aa (d.less ab) (G _ _ _ _ D H (by rw [o,zB a]))
    | true =>
      obtain ⟨q1,K⟩:=DY 1 a n M
      have e:=(beq_iff_eq.1 a).symm
      subst e
      rw [q1] at o
      simp only [Prod.mk.injEq,F3] at o
      obtain ⟨rfl,rfl⟩:=o
      cases q:decide (0<=n) with
      | false =>
        have e:=zC (of_decide_eq_false q) 2 N
        exact eE R2 {eq:=[(14,aD a),(18,aD q)]} 60 λb d=>c b F j (N,C,u,2) aa (d.less ab) (G _ _ _ _ D H (by rw [K,e];rfl))
      | true =>
        have Y:=of_decide_eq_true q
        have L:decide (n<=9223372036854775807):=decide_eq_true hn
        refine aE R2 {eq:=[(14,aD a),(18,aD q),(25,aD L)]} 80 (QJ D J.1.len ⟨J.1.mw.xs,J.1.mw.ys⟩ n) ?_
        rintro e U ⟨rfl,Q,p3,X⟩
        refine ⟨_,0,rfl,?_⟩
        exact eE (R:=[]) trivial {} 60 λb d=>c b U j (_,Q,_,2) aa (d.less ab) (G _ _ _ _ p3 ((X _ (F0 P l.size) aa).trans H) (by
         rw [K]
         unfold vu
         rw [JZ9 bh,JZ8 (by simpa using Y)]
         rfl))
   ·obtain ⟨l,O⟩:=new 3 9223372036854775807 (.func (.func 130) #[] #[])
    refine eU (R:=[]) trivial {} 60 2 (dV (T:=176) (z:=.agg #[.i 0,.i 0,.nilFunc]) ab V) ?_
    rw [zc]
    refine du (R:=[]) trivial {} 20 (aF (g:=V.heap.size) (t:=176) (ty:=176) (old:=#[.i 0,.i 0,.nilFunc]) (cells:=#[.i 3,.i 9223372036854775807,.func (.func 130) #[] #[]]) (H1 _ _) ab rfl ex) ?_
    generalize (V.alloc (.cells #[.i 0,.i 0,.nilFunc] 176)).setRow V.heap.size #[.i 3,.i 9223372036854775807,.func (.func 130) #[] #[]]=F at l O ⊢
    have R2:fN F [⟨W.heap.size,#[.i k,.i n],[]⟩,⟨V.heap.size,#[.i 3,.i 9223372036854775807,.func (.func 130) #[] #[]],[]⟩]:=⟨⟨_,_,aA l box⟩,⟨_,_,O⟩,trivial⟩
    have D:=pp.below l
    have H:=aA l box
    have G:∀ (v:H2) (r:MV) (I:MA) (E:Nat),Pp w g r I E v->v.heap[W.heap.size]?=some (.cells #[.i k,.i n] 82 (0,0))->(r,E)=((zH 3 k n M).1,s+(zH 3 k n M).2)->So w W g k n M s j (r,I,E,3) v:=λv r I E p b e=>⟨ca,p,b,e⟩
    cases a:((3:Int)==k) with
    | false=>exact eE R2 {eq:=[(14,aD a)]} 60 λb d=>c b F j (N,C,u,3) aa (d.less ab) (G _ _ _ _ D H (by rw [o,zB a]))
    | true =>
      obtain ⟨q1,K⟩:=DY 2 a n M
      have e:=(beq_iff_eq.1 a).symm
      subst e
      rw [q1] at o
      simp only [Prod.mk.injEq,F3] at o
      obtain ⟨rfl,rfl⟩:=o
      cases q:decide (0<=n) with
      | false =>
        have e:=zC (of_decide_eq_false q) 3 N
        exact eE R2 {eq:=[(14,aD a),(18,aD q)]} 60 λb d=>c b F j (N,C,u,3) aa (d.less ab) (G _ _ _ _ D H (by rw [K,e];rfl))
      | true =>
        have Y:=of_decide_eq_true q
        have L:decide (n<=9223372036854775807):=decide_eq_true hn
        refine aE R2 {eq:=[(14,aD a),(18,aD q),(25,aD L)]} 80 (QK D J.1.len ⟨J.1.mw.xs,J.1.mw.ys⟩ n) ?_
        rintro e U ⟨rfl,Q,p3,X⟩
        refine ⟨_,0,rfl,?_⟩
        exact eE (R:=[]) trivial {} 60 λb d=>c b U j (_,Q,_,3) aa (d.less ab) (G _ _ _ _ p3 ((X _ (F0 P l.size) aa).trans H) (by
         rw [K]
         unfold vu
         rw [JZ9 bh,JZ9 bh,JZ8 (by simpa using Y)]
         rfl))
end
