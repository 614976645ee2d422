/- Own lemmas. -/
import Derived.Test.YtlidafnochnddaaGreatDoorAut
import Derived.Test.YtlidafnochnddaaGreatDoorK21
set_option maxRecDepth 100000
namespace Go.Proofs.YtlidafnochnddaaGreatDoor
open Go.RowKit Tryz
open IntKind renaming u64->Uz
open Below renaming refl->H5
open Go renaming World->A6,Calls->F0,bodyPost->F3,Value->G3,Program->H1,Ending->H2,results_tmp2->H3
open Int renaming toNat_natCast->H8
open List renaming mem_singleton->A0,length_set->A5
open Nat renaming zero_add->I4,le_trans->I5,le_refl->K0
open Prod renaming fst->K1,snd->K4
set_option linter.unusedVariables false
variable {B g A w:Nat} {l M:MV} {K n a:A6} {b:MA} {c t:TV} {d:List Int} {e:Option Addr} {k P:H1} {x:Func} {dr:Bool} (F:Ins) (Q S:Int)
def sR (cf:Bool) (M:MV) (t:TV):MV × Int :=
 if t.up=true then (cu M t.cz.toNat false t.vl,2)
 else (⟨t.nx,if t.rd=0 then M.x else M.x.set t.rd.toNat t.rs,M.pr,if cf=true then M.cs else M.cs.set 21 (Uz.wrap (M.cs.getD 21 0+1)),M.ram,M.d,M.hd,M.hl,M.wt⟩,1)
def t0 (M:MV) (i:Ins) (wd:Int):TV:=⟨.func (.func 142) #[] #[],wd,i.op,i.rd,i.a,i.b,i.imm,dz i.op,M.x.getD i.rd.toNat 0,Uz.wrap (M.pc+4),false,false,0,0⟩
structure Pf (cf:Bool) (V:MV × Int) (i:Ins) (M':MV) (t':TV):Prop where
 e:sR cf M' t'=V
 g:Gd M'
 rd:t'.rd=i.rd
 fm:t'.fm=dz i.op
 c:t'.up->∃ k:Nat,k<16/\t'.cz=k
def TR (B g:Nat) (w0:A6) (P:MV->TV->Prop) (e:H2) (w':A6):Prop:=e=.returned (.tuple #[])/\∃ M' A' t',P M' t'/\Tq B g w0 M' A' t' w'
theorem Tq.eng {fn:Func} {Rs:H2->A6->Prop}:oR P (Tq B g K l b c) (Tq B g K l b c) [⟨g,aW l b c,[]⟩] dr (F3 P fn Rs):=
 ⟨λ_ h=>h,λW h r a=>by rw [A0] at a;subst a;exact h.row.in_,λ_ W h=>h.below (H5 _ _).drew,cG⟩
def sE {B g:Nat} {w0:A6} {M:MV} {A:MA} {t:TV} {P:H1} {f:Nat} {args:Array G3} {v:G3} (h:∀ W,Tq B g w0 M A t W->F0 P f args W λe w'=>e=.returned v/\Iv [g] W [⟨g,aW M A t,[]⟩] w'):Cv P (Tq B g w0 M A t):=⟨f,args,v,0,λW a=>(h W a).mono λe w' k=>⟨k.1,a.iv k.2 rfl⟩⟩
def LW {B g:Nat} {w0:A6} {M:MV} {A:MA} {t:TV} {P:H1} {f:Nat} {args:Array G3} {v:G3} (h:∀ W,Tq B g w0 M A t W->F0 P f args W λe w'=>e=.returned v/\Bw W w'):Cv P (Tq B g w0 M A t):=⟨f,args,v,0,λW a=>(h W a).mono λe w' k=>⟨k.1,a.below k.2⟩⟩
theorem Qz (h:Tq B g K l b c n) (a:l.x.length=32) (d:0<=c.ra) (f:c.ra<=31):F0 prog 174 #[.p g 0] n λe w'=>e=.returned (.u (l.x.getD c.ra.toNat 0))/\Iv [g] n [⟨g,aW l b c,[]⟩] w':=by obtain ⟨A,i,t,j⟩:=h.atX a;have:=JU (x:=l.x.getD (0+c.ra.toNat) 0) h.row i ⟨d,aa⟩ t (j (0+c.ra.toNat) aa).1;rw [I4] at this;exact this
theorem SP (h:Tq B g K l b c n) (a:l.x.length=32) (d:0<=c.rb) (f:c.rb<=31):F0 prog 177 #[.p g 0] n λe w'=>e=.returned (.u (l.x.getD c.rb.toNat 0))/\Iv [g] n [⟨g,aW l b c,[]⟩] w':=by obtain ⟨A,i,t,j⟩:=h.atX a;have:=Sm (x:=l.x.getD (0+c.rb.toNat) 0) h.row i ⟨d,aa⟩ t (j (0+c.rb.toNat) aa).1;rw [I4] at this;exact this
def vy (M:MV) (i:Ins):Int:=if i.op=1 then Uz.wrap i.imm else if i.op=2 then Uz.wrap (M.pc+Uz.wrap i.imm) else rh i.op (M.x.getD i.a.toNat 0) (if (fJ i.op).toList=[82] then M.x.getD i.b.toNat 0 else Uz.wrap i.imm)
theorem DQ (C:jv F) (h:Tq B g K l b (t0 l F Q) n) (w:Gd l):F0 prog 171 #[.p g 0] n λe w'=>e=.returned (.u (vy l F))/\Tq B g K l b (t0 l F Q) w':=by
 obtain ⟨H,i,G,s,y,M,z,m,D,E,_⟩:=C;have c:=w.x32;have k:=w.ux F.a.toNat;have u:=w.ux F.b.toNat;have x:U (Uz.wrap F.imm):=bq _;have q:=λW (h:Tq B g K l b (t0 l F Q) W)=>Qz h c y M;have r:=λW (h:Tq B g K l b (t0 l F Q) W)=>SP h c z m;have j:=λW (h:Tq B g K l b (t0 l F Q) W)=>sa h.row;unfold vy;refine cF (S:=Tq B g K l b (t0 l F Q)) (args:=[.p g 0]) [] func171 ?_;refine aY 0 1 ?_;by_cases o:F.op=1;·rw [JZ8 o];exact bg (t:=2) (v:=.u (Uz.wrap F.imm)) (Tq.eng (dr:=true)) {eq:=[(12,aD (show (F.op==1)=true by simp;omega))],cv:=[(14,sE j)]} 100 h λw' h=>⟨rfl,h⟩
 rw [JZ9 o];have a:(F.op==1)=false:=by simp;omega
 by_cases p:F.op=2;·rw [JZ8 p];exact bg (t:=2) (v:=.u (Uz.wrap (l.pc+Uz.wrap F.imm))) (Tq.eng (dr:=true)) {eq:=[(12,aD a),(16,aD (show (F.op==2)=true by simp;omega))],cv:=[(23,sE j)]} 100 h λw' h=>⟨rfl,h⟩
 rw [JZ9 p];have A:(F.op==2)=false:=by simp;omega
 have f:=λW (_:Tq B g K l b (t0 l F Q) W)=>iq F.op (Bt aa aa) W;cases d:((fJ F.op).toList==(⟨#[82]⟩:ByteArray).toList) with
 | true =>rw [JZ8 (show (fJ F.op).toList=[82] from (eq_of_beq d).trans bv)];exact bg (t:=2) (v:=.u (rh F.op (l.x.getD F.a.toNat 0) (l.x.getD F.b.toNat 0))) (Tq.eng (dr:=true)) {eq:=[(12,aD a),(16,aD A),(33,aD d)],cv:=[(26,sE j),(32,LW f),(35,sE r),(43,sE q),(45,LW λW _=>sn F.op _ _ (Bt aa aa) k.1 k.2 u.1 u.2 W)]} 200 h λw' h=>⟨rfl,h⟩
 | false =>rw [JZ9 (show ¬ (fJ F.op).toList=[82] from λe=>by rw [e] at d;exact absurd d bv)];exact bg (t:=2) (v:=.u (rh F.op (l.x.getD F.a.toNat 0) (Uz.wrap F.imm))) (Tq.eng (dr:=true)) {eq:=[(12,aD a),(16,aD A),(33,aD d)],cv:=[(26,sE j),(32,LW f),(35,sE r),(43,sE q),(45,LW λW _=>sn F.op _ _ (Bt aa aa) k.1 k.2 x.1 x.2 W)]} 200 h λw' h=>⟨rfl,h⟩
section
variable {l l' : List Int} (h : ∀ j, j≠9 -> l.getD j 0 = l'.getD j 0)
include h
theorem Fk (i:Nat):jV l i=jV l' i:=by unfold jV;rw [h 16 aa]
theorem Lf (i:Nat):kindOf l i=kindOf l' i:=by unfold kindOf;rw [Fk h]
theorem Lg (i:Nat):regionV l i=regionV l' i:=by unfold regionV regFrom;rw [Lf h,h (17+i) aa,h (16+i) aa]
theorem zv (p x y kind:Int):∀ n k,permRest l p x y kind n k=permRest l' p x y kind n k
 | 0,_=>rfl
 | n+1,k=>by rw [permRest,permRest,Lg h,Fk h,zv p x y kind n (k+1)]
theorem Li (p va kind e x:Int) (lv:Nat):leafV l p va kind e x lv=leafV l' p va kind e x lv:=by unfold leafV noKind noPriv;rw [h 0 aa,zv h]
theorem Fl (zs:List Int) (n:Nat) (p va kind:Int):∀ a T,walkL zs n l p va kind a T=walkL zs n l' p va kind a T
 | 0,T=>by rw [walkL,walkL,zv h,Li h]
 | a+1,T=>by rw [walkL,walkL,zv h,Li h,Fl zs n p va kind a]
theorem N4 (zs:List Int) (n:Nat) (p va kind:Int):walkV zs n l p va kind=walkV zs n l' p va kind:=by unfold walkV topT;rw [h 15 aa,Fl h]
theorem QA (p kind:Int):il l p kind=il l' p kind:=by unfold il;rw [h 0 aa]
end
theorem N5 (M:MV) (pa n x:Int) (b:(rS M pa n 2 x).2.2=0):(rS M pa n 2 x).2.1.ram=M.ram/\(rS M pa n 2 x).2.1.pr=M.pr/\∀ j,j≠9->(rS M pa n 2 x).2.1.cs.getD j 0=M.cs.getD j 0:=by
 unfold rS at b ⊢;split;·exact ⟨rfl,rfl,λ_ _=>rfl⟩
 ·rename_i c;rw [JZ9 c] at b;split
  ·rename_i a;split;·exact ⟨rfl,rfl,λj d=>i7 _ 9 j _ (Ne.symm d)⟩
   ·exact ⟨rfl,rfl,λ_ _=>rfl⟩
  ·rename_i a;exact absurd rfl a
theorem DR (r:Gd l) {a n:Int} (b:(aT l a n 2 0).2.2=0):(dM (aT l a n 2 0).2.1 a 2).code=0:=by
 have p:∀ i,0<=l.ram.getD i 0/\l.ram.getD i 0<=255:=DB r.mw.ram;have key:∀ F:Fd,F=walkV l.ram l.ram.length l.cs (il l.cs l.pr 2) a 2->F.code=0->∀ N:MV,N.ram=bG l.ram F->N.pr=l.pr->(∀ j,j≠9->N.cs.getD j 0=l.cs.getD j 0)->(dM N a 2).code=0:=by
  intro F hF M N m o h;unfold dM;rw [m,o,nL,N4 h,QA h];rcases Dg l.ram l.ram.length rfl p l.cs (il l.cs l.pr 2) a 2 with ⟨_,e,_⟩|⟨e,_⟩;·rw [hF,e]
  ·rw [<- hF] at e;exact absurd M e
 unfold aT at b ⊢;split;·rename_i q;rw [JZ8 q] at b;exact absurd b (show ¬ qV 2=0 by decide)
 ·rename_i q;rw [JZ9 q] at b;unfold yB at b ⊢;split;·rename_i f;rw [JZ8 f] at b;exfalso;obtain ⟨c,k,e⟩:=nX l.ram l.ram.length l.cs (il l.cs l.pr 2) a 2;have d:wrap64 ((walkV l.ram l.ram.length l.cs (il l.cs l.pr 2) a 2).code+16)=0:=b;rw [e] at d;unfold wrap64 at d;omega
  ·rename_i f;rw [JZ9 f] at b;have s:(walkV l.ram l.ram.length l.cs (il l.cs l.pr 2) a 2).code=0:=cb;split;·rename_i g;rw [JZ8 g] at b;exact absurd b (show ¬ iX 2=0 by decide)
   ·rename_i g;rw [JZ9 g] at b;obtain ⟨t,u,v⟩:=N5 _ _ _ _ b;exact key _ rfl s _ t u v
theorem SQ (h:Tq B g K l b c n) (A:l.x.length=32) (t:0<=c.ra) (a:c.ra<=31) {v:Int} (hv:l.x.getD c.ra.toNat 0=v):F0 prog 174 #[.p g 0] n λe w'=>e=.returned (.u v)/\Iv [g] n [⟨g,aW l b c,[]⟩] w':=by subst hv;exact Qz h A t a
theorem Ti (h:Tq B g K l b c n) (A:l.x.length=32) (t:0<=c.rb) (a:c.rb<=31) {v:Int} (hv:l.x.getD c.rb.toNat 0=v):F0 prog 177 #[.p g 0] n λe w'=>e=.returned (.u v)/\Iv [g] n [⟨g,aW l b c,[]⟩] w':=by subst hv;exact SP h A t a
theorem Lj (h:Tq B g K l b c n) (w:Gd l) (d:c.ld=.func (.func 142) #[] #[]) (addr size kind x:Int) (i:jq size) (a:1<=kind) (A:kind<=3) (t:kind=1->size=4) (m:U addr) (hx:U x):
 F0 prog 168 #[.p g 0,.u addr,.i size,.i kind,.u x] n λe w'=>∃ C,e=.returned (.tuple #[.u (if (aT l addr size kind x).2.2 != 0 then 0 else (aT l addr size kind x).1),.bool (!((aT l addr size kind x).2.2 != 0))])/\Tq B g K (aT l addr size kind x).2.1 C (mV c (aT l addr size kind x) addr) w' :=
 (vq (aT l addr size kind x) addr size kind x d h.row (λW M=>(h.iv M rfl).acc w i a A t m hx)).mono λe w' ⟨C,j,k,f⟩=>⟨C,j,h.new k f⟩
theorem OU (hn:B=1\/B=2\/B=4\/B=8):jq (B:Int):=by rcases hn with rfl|rfl|rfl|rfl<;>decide
theorem DS {A:MA} (h:Tq B g K l A c n) (j:Gd l) (a:c.ld=.func (.func 142) #[] #[]) (f:Wf) (w:Nat) (s:Bool) (hn:w=1\/w=2\/w=4\/w=8) (i:c.fm=mm f w s) (addr:Int) (d:U addr):
 F0 prog 173 #[.p g 0,.u addr] n λe w'=>∃ C,e=.returned (.tuple #[.u (if (aT l addr w 2 0).2.2 != 0 then 0 else (aT l addr w 2 0).1),.bool (!((aT l addr w 2 0).2.2 != 0))])/\Tq B g K (aT l addr w 2 0).2.1 C (sy c (aT l addr w 2 0) addr w s) w' :=
 (Qu (aT l addr w 2 0) f w s hn i addr a h.row (λW t=>(h.iv t rfl).acc j (OU hn) ba ba (λe=>ki) d kT)).mono λe w' ⟨C,b,k,f⟩=>⟨C,b,h.new k f⟩
theorem zw {A:MA} (h:Tq B g K l A c n) (j:Gd l) (a:c.ld=.func (.func 142) #[] #[]) (f:Wf) (w:Nat) (s:Bool) (hn:w=1\/w=2\/w=4\/w=8) (i:c.fm=mm f w s) (addr x:Int) (d:U addr) (hx:U x):
 F0 prog 176 #[.p g 0,.u addr,.u x] n λe w'=>∃ C,e=.returned (.bool (!((aT l addr w 3 x).2.2 != 0)))/\Tq B g K (aT l addr w 3 x).2.1 C (mV c (aT l addr w 3 x) addr) w' :=
 (NT (aT l addr w 3 x) f w s i addr x a h.row (λW t=>(h.iv t rfl).acc j (OU hn) ba ba (λe=>ki) d hx)).mono λe w' ⟨C,b,k,f⟩=>⟨C,b,h.new k f⟩
theorem Lk {t:TV} (h:Tq B g K l b t n) (a:Gd l) (M:t.ld=.func (.func 142) #[] #[]) (addr kind:Int) (i:1<=kind) (j:kind<=3) (s:U addr): F0 prog 205 #[.p g 0,.u addr,.i kind] n λe w'=>∃ C,e=.returned (.tuple #[.u (if (dM l addr kind).code != 0 then 0 else (dM l addr kind).addr),.bool (!((dM l addr kind).code != 0))])/\Tq B g K (iK l addr kind) C (xz t (dM l addr kind).code addr) w':=by
 obtain ⟨f,d,w,v,_,_⟩:=dE a.ok;have m:aQ l.cs.length l.cs l.pr:=(cI a.ok).2.2.1;have u:=AK (a.mw.cs 0) d w kind;have r:I2 l.cs.length l.cs l.pr kind=il l.cs l.pr kind:=by unfold I2;rw [m,decide_eq_true ⟨i,j⟩];rfl
 have p:mE l.ram.length l.cs.length l.cs (il l.cs l.pr kind) kind:=by unfold mE aQ;rw [v,f,d,u];unfold g9;rcases (show kind=1\/kind=2\/kind=3 by omega) with rfl|rfl|rfl<;>rfl
 refine (Qv (dM l addr kind).addr (dM l addr kind).code (il l.cs l.pr kind) (bG l.ram (dM l addr kind)) addr kind M h.row (λW A=>?_) (λW A=>?_)).mono λe w' ⟨a',c,q,k,o⟩=>⟨_,q,h.ram k o⟩;·have:=lf b.ac l.cs.length b.cc l.cs l.pr kind W rfl (h.iv A rfl).sl.cs a.mw.cs;rw [r] at this;exact this
 ·have:=qF b.ar l.ram.length b.cr l.ram b.ac l.cs.length b.cc l.cs (il l.cs l.pr kind) addr kind W rfl a.len.ram (h.iv A rfl).sl.ram a.mw.ram rfl (h.iv A rfl).sl.cs a.mw.cs s (h.iv A rfl).tab h.good;unfold Eo Ep ur at this;rw [p,JZ8 rfl,JZ8 rfl,JZ8 rfl] at this;exact this
theorem BU (h:Tq B g K l b c n) (d:l.x.length=32) (q:0<=c.ra) (t:c.ra<=31) (f:Wf) (w:Nat) (s:Bool) (hn:w=4\/w=8) (z:c.fm=mm f w s) (hz:((l.x.getD c.ra.toNat 0).tmod w != 0)): F0 prog 206 #[.p g 0] n λe w'=>e=.returned (.tuple #[.u 0,.bool false])/\Tq B g K l b {c with up:=true,cz:=6,vl:=l.x.getD c.ra.toNat 0} w':=by
 have m:=λW (h:Tq B g K l b c W)=>Qz h d q t;generalize l.x.getD c.ra.toNat 0=a at *;have C:Uz.wrap (w:Int)=w:=by rw [IntKind.wrap_u64];omega
 have j:(w:Int)≠0:=aa
 refine cF (S:=Tq B g K l b c) (args:=[.p g 0]) [] func206 ?_;refine aY 0 1 ?_;cases f;all_goals
  refine ak (Tq.eng (dr:=true)) {cv:=[(5,sE m),(7,sE λW i=>qC _ w s z i.row)]} 60 h λp r=>?_
  refine nJ (zj w s p) ab λe F A=>⟨_,0,A.1,jw ab,?_⟩
  have u:=r.below A.2
  refine bF (Tq.eng (dr:=true)) {eq:=[(9,ed .u64 C),(11,aD hz)],ov:=[(10,Sj .u64 a w j)],cv:=[(13,LW λW _=>(fI 3 (.inr (.inr rfl)) W).mono λe w' k=>⟨k.1,by rw [k.2];exact H5 _ _⟩),(15,sE m)]} 60 u (λW i=>jm 6 a i.row) λD e G x A=>⟨_,0,A.1,jw ab,?_⟩
  have M:=x.iv A.2 rfl
  refine bO (λ_=>True) ?_
  exact jN (Iv.one M.row) {} 40 λE a y o=>⟨.tuple #[.u 0,.bool false],by rw [H3 rfl,o.slot (v:=.u 0) ab,o.slot (v:=.bool false) ab],rfl,M.iv y rfl⟩
theorem Fp (h:Tq B g K l b c n) (d:Gd l) (i:c.ld=.func (.func 142) #[] #[]) (u:0<=c.ra) (A:c.ra<=31) (f:Wf) (w:Nat) (s:Bool) (hn:w=4\/w=8) (E:c.fm=mm f w s) (hz:((l.x.getD c.ra.toNat 0).tmod w != 0)=false): F0 prog 206 #[.p g 0] n λe w'=>∃ C,e=.returned (.tuple #[.u (if (dM l (l.x.getD c.ra.toNat 0) 3).code != 0 then 0 else (dM l (l.x.getD c.ra.toNat 0) 3).addr),.bool (!((dM l (l.x.getD c.ra.toNat 0) 3).code != 0))])/\Tq B g K (iK l (l.x.getD c.ra.toNat 0) 3) C (xz c (dM l (l.x.getD c.ra.toNat 0) 3).code (l.x.getD c.ra.toNat 0)) w':=by
 have t:=d.x32;have M:=λW (h:Tq B g K l b c W)=>Qz h t u A;have k:=λW (h:Tq B g K l b c W)=>Lk h d i (l.x.getD c.ra.toNat 0) 3 ba ba (d.ux _);generalize l.x.getD c.ra.toNat 0=a at *;have F:Uz.wrap (w:Int)=w:=by rw [IntKind.wrap_u64];omega
 have j:(w:Int)≠0:=aa
 generalize (if (dM l a 3).code != 0 then 0 else (dM l a 3).addr)=p at *;generalize (!((dM l a 3).code != 0))=q at *;refine cF (S:=Tq B g K l b c) (args:=[.p g 0]) [] func206 ?_;refine aY 0 1 ?_;cases f;all_goals
  refine ak (Tq.eng (dr:=true)) {cv:=[(5,sE M),(7,sE λW D=>qC _ w s E D.row)]} 60 h λr x=>?_
  refine nJ (zj w s r) ab λe I o=>⟨_,0,o.1,jw ab,?_⟩
  have y:=x.below o.2
  refine bF (Tq.eng (dr:=true)) {eq:=[(9,ed .u64 F),(11,aD hz)],ov:=[(10,Sj .u64 a w j)],cv:=[(19,sE M)]} 60 y k ?_
  rintro G e J H ⟨C,rfl,z⟩
  refine ⟨_,0,rfl,jw ab,?_⟩
  refine jM (R:=[]) trivial {} 40 λa m=>⟨.tuple #[.u p,.bool q],by rw [H3 rfl,m.slot (v:=.u p) ab,m.slot (v:=.bool q) ab],C,rfl,z⟩
theorem gA {cf:Bool} {k:Nat} (h:c.up) (a:c.cz=k):sR cf l c=(cu l k false c.vl,2):=by unfold sR;rw [JZ8 h,a,H8]
theorem gZ (h:t.up=false):sR false l t=(bW l t.rd t.rs t.nx,1):=by unfold sR;rw [h];rfl
theorem kt {rd tO:Int}:bW M rd (M.x.getD rd.toNat 0) tO=bW M 0 0 tO:=by
 unfold bW;congr 1;by_cases e:rd=0;·rw [JZ8 e,JZ8 rfl]
 ·rw [JZ9 e,JZ8 rfl];by_cases a:rd.toNat<M.x.length;·exact lX M.x rd.toNat a
  ·exact List.set_eq_of_length_le aa
theorem mh {cf:Bool} {i:Ins} {X:Int × MV × Int} {a n kind x:Int} (f:aT M a n kind x=X) (g:Gd M) (e:(X.2.2 != 0)) (d:t.rd=i.rd) (b:t.fm=dz i.op):Pf cf (dZ X 0 a) i X.2.1 (mV t X a):=by subst f;have c:=zg (M:=M) (addr:=a) (size:=n) (kind:=kind) (x:=x) rfl e;unfold mV;rw [e];exact ⟨gA rfl c.1,g.acc a n kind x,d,b,λ_=>⟨_,c.2,c.1⟩⟩
theorem DT {S:A6->Prop} {P:List KI} {F:Fr} {Q:MV->TV->Prop} {R:List Rw} (b:fN n R) (H:Hn k (λfn=>fn=n) (λfn=>fn=n)) (m:Nat) (hx:(gM P,(aP k R H A false m P F).1.1)=(true,true)) (he:(aP k R H A false m P F).2.map K1=(aP k R H A false m P F).2.map K4) (d:x.results=#[]) {M':MV} {A':MA} {t':TV} (h:Tq B g K M' A' t' n) (c:Q M' t'):Wg k S (F3 k x (TR B g K Q)) A P F n :=
 jM b H m (hx:=hx) (he:=he) λa _=>⟨_,results_none d _ _ _,rfl,M',A',t',c,h⟩
theorem QB (m:jv F) (z:F.op=63\/F.op=74) (h:Tq B g K l b (t0 l F Q) n) (M:Gd l) (hd:Ud l.d): F0 prog 178 #[.p g 0] n (TR B g K (Pf false (Rz l F (l.x.getD F.a.toNat 0)) F)):=by
 obtain ⟨w,r⟩:∃ w,w=be F.op:=⟨_,rfl⟩;have hn:w=4\/w=8:=by rw [r];unfold be;split<;>simp
 obtain ⟨wn,ws⟩:=(Fi m.op1 m.op98).2.2.2.2 aa;have V:dz F.op=mm .hd w true:=by unfold dz;rw [JZ9 aa,JZ9 aa,JZ9 aa,JZ9 aa,JZ9 aa,JZ8 aa,JZ8 z,wn,ws,r]
 have o:=M.x32;have i:=M.ux F.a.toNat;have s:=λW (h:Tq B g K l b (t0 l F Q) W)=>Qz h o m.a0 m.a31;have Y:=λW (h:Tq B g K l b (t0 l F Q) W)=>DS h M rfl .hd w true aa V (l.x.getD F.a.toNat 0) i;have H:Rz l F (l.x.getD F.a.toNat 0)=if ((aT l (l.x.getD F.a.toNat 0) w 2 0).2.2 != 0)=true then dZ (aT l (l.x.getD F.a.toNat 0) w 2 0) 0 (l.x.getD F.a.toNat 0) else (bW (jC (iK (aT l (l.x.getD F.a.toNat 0) w 2 0).2.1 (l.x.getD F.a.toNat 0) 2) true (dM (aT l (l.x.getD F.a.toNat 0) w 2 0).2.1 (l.x.getD F.a.toNat 0) 2).addr) F.rd (aX (8*w) (aT l (l.x.getD F.a.toNat 0) w 2 0).1) (Uz.wrap (l.pc+4)),1):=by rw [r];rfl
 rw [H];clear H;have I:=M.acc (l.x.getD F.a.toNat 0) w 2 0;have w0:=(gO l (l.x.getD F.a.toNat 0) w 2 0).2.1;have v:=DR M (a:=l.x.getD F.a.toNat 0) (n:=w);have E:=λX (T:aT l (l.x.getD F.a.toNat 0) w 2 0=X) k=>mh (cf:=false) (i:=F) (t:=t0 l F Q) T M k rfl rfl;generalize P:l.x.getD F.a.toNat 0=a at *;generalize aT l a w 2 0=X at *;obtain ⟨y,N,c⟩:=X;dsimp only at *;refine bE (args:=[.p g 0]) (Tq B g K l b (t0 l F Q)) func178 ?_;refine aY 0 1 ?_;refine bF (Tq.eng (dr:=true)) {cv:=[(7,sE s)]} 60 h Y ?_;rintro W1 e W2 h1 ⟨C,rfl,d⟩;refine ⟨_,0,rfl,jw ab,?_⟩;cases k:(c != 0) with
 | true =>rw [JZ8 rfl];unfold sy at d;dsimp only at d;rw [k,JZ8 rfl] at d;exact DT (R:=[]) trivial {} 40 ab ab rfl d (E _ rfl k)
 | false =>rw [JZ9 ba];unfold sy at d;dsimp only at d;rw [k,JZ9 ba,JZ8 rfl] at d;have O:c=0:=(by simpa using k);have u:=v O;obtain ⟨f,A⟩:∃ f:TV,f={t0 l F Q with rs:=aX (8*w) y}:=⟨_,rfl⟩;have j:f.ra=F.a:=(by rw [A];rfl);have x:f.ld=.func (.func 142) #[] #[]:=(by rw [A];rfl);rw [<- A] at d;have p:=λW (h:Tq B g K N C f W)=>Qz h (by rw [w0];exact o) (by rw [j];exact m.a0) (by rw [j];exact m.a31);rw [j,w0,P] at p;have q:=λW (h:Tq B g K N C f W)=>Lk h I x a 2 ba ba i;have wd:Gd (iK N a 2):=I.marked _;have Z:U (dM N a 2).addr:=yO _ _ _ _ _ _ i;rw [u] at q;generalize (dM N a 2).addr=L at *;generalize iK N a 2=G at *;refine bO (Tq B g K N C f) ?_;refine bF (Tq.eng (dr:=true)) {cv:=[(18,sE p)]} 60 d q ?_;rintro W3 e W4 h3 ⟨D,rfl,J⟩;refine ⟨_,0,rfl,jw ab,?_⟩;refine bO (λ_=>True) ?_;refine eZ (R1:=[⟨g,aW (jC G true L) D f,[]⟩]) (Iv.one J.row) {} 60 λW5 S=>⟨rfl,jC G true L,D,f,?_,J.iv S rfl⟩;refine ⟨?_,wd.hold Z (Or.inl rfl),by rw [A];rfl,by rw [A];rfl,λe=>by rw [A] at e;cases e⟩;rw [gZ (by rw [A];rfl),A];rfl
theorem BV {i:Ins} (a:jv i) (b:63<=i.op) (c:i.op<=84):(be i.op=4\/be i.op=8)/\wN i.op=be i.op/\wS i.op:=by obtain ⟨wn,d⟩:=(Fi a.op1 a.op98).2.2.2.2 aa;refine ⟨?_,wn,d⟩;unfold be;split<;>simp
theorem Fq {a:Int} (b:U a):a.tmod B=a%(B:Int):=Int.tmod_eq_emod_of_nonneg b.1
theorem QD {w:A6} {A:MA} (i:Ins) (wd:Int) (q:jv i) (hop:i.op=64\/i.op=75) (h:Tq B g K l A (t0 l i wd) w) (J:Gd l): F0 prog 179 #[.p g 0] w (TR B g K (Pf false (m9 l i (l.x.getD i.a.toNat 0) (l.x.getD i.b.toNat 0)) i)):=by
 obtain ⟨hn,wn,ws⟩:=BV q aa aa;have hf:dz i.op=mm .sc (be i.op:Nat) true:=by unfold dz;rw [JZ9 aa,JZ9 aa,JZ9 aa,JZ9 aa,JZ9 aa,JZ8 aa,JZ9 aa,JZ8 hop,wn,ws]
 have x:=J.x32;have ua:=J.ux i.a.toNat;have ub:=J.ux i.b.toNat;have k0:(n8 i.op==0)=false:=by unfold n8;split<;>simp<;>omega
 have k1:(n8 i.op==1):=by unfold n8;split<;>simp<;>omega
 have eV:m9 l i (l.x.getD i.a.toNat 0) (l.x.getD i.b.toNat 0)=if ((l.x.getD i.a.toNat 0).tmod (be i.op:Nat) != 0)=true then (cu l 6 false (l.x.getD i.a.toNat 0),2) else if ((dM l (l.x.getD i.a.toNat 0) 3).code != 0)=true then (cu (iK l (l.x.getD i.a.toNat 0) 3) (dM l (l.x.getD i.a.toNat 0) 3).code.toNat false (l.x.getD i.a.toNat 0),2) else if ((iK l (l.x.getD i.a.toNat 0) 3).hl&&((iK l (l.x.getD i.a.toNat 0) 3).hd==(dM l (l.x.getD i.a.toNat 0) 3).addr))=true then (if ((aT (iK l (l.x.getD i.a.toNat 0) 3) (l.x.getD i.a.toNat 0) (be i.op:Nat) 3 (l.x.getD i.b.toNat 0)).2.2 != 0)=true then dZ (aT (iK l (l.x.getD i.a.toNat 0) 3) (l.x.getD i.a.toNat 0) (be i.op:Nat) 3 (l.x.getD i.b.toNat 0)) 0 (l.x.getD i.a.toNat 0) else (bW (jC (aT (iK l (l.x.getD i.a.toNat 0) 3) (l.x.getD i.a.toNat 0) (be i.op:Nat) 3 (l.x.getD i.b.toNat 0)).2.1 false 0) i.rd 0 (Uz.wrap (l.pc+4)),1)) else (bW (jC (iK l (l.x.getD i.a.toNat 0) 3) false 0) i.rd 1 (Uz.wrap (l.pc+4)),1):=by unfold m9;rw [k0,k1,JZ9 ba,Fq ua,JZ8 rfl];rfl
 rw [eV];clear eV k0 k1 wn ws;have o:=λW (h:Tq B g K l A (t0 l i wd) W)=>BU h x q.a0 q.a31 .sc _ true hn hf;have j:=λW (h:Tq B g K l A (t0 l i wd) W)=>Fp h J rfl q.a0 q.a31 .sc _ true hn hf;have w0:Gd (iK l (l.x.getD i.a.toNat 0) 3):=J.marked _;obtain ⟨T,S,hcc⟩:∃ c:Nat,c<16/\(dM l (l.x.getD i.a.toNat 0) 3).code=c:=nX l.ram l.ram.length l.cs (il l.cs l.pr 3) (l.x.getD i.a.toNat 0) 3;rw [show (t0 l i wd).ra=i.a from rfl] at o j;have s:(iK l (l.x.getD i.a.toNat 0) 3).x=l.x:=rfl;generalize ea:l.x.getD i.a.toNat 0=a at *;generalize eb:l.x.getD i.b.toNat 0=b at *;generalize be i.op=n at *;generalize iK l a 3=N at *;generalize dM l a 3=F at *;obtain ⟨p,fc,fm,ft,fe⟩:=F;dsimp only at *;subst hcc;obtain ⟨d,f⟩:∃ d:TV,d=t0 l i wd:=⟨_,rfl⟩;have r:d.up=false:=by rw [f];rfl
 have hld:d.ld=.func (.func 142) #[] #[]:=by rw [f];rfl
 have E:d.ra=i.a:=by rw [f];rfl
 have G:d.rb=i.b:=by rw [f];rfl
 have M:d.rd=i.rd:=by rw [f];rfl
 have m:d.fm=dz i.op:=by rw [f];rfl
 have O:d.nx=Uz.wrap (l.pc+4):=by rw [f];rfl
 rw [<- f] at h o j;clear f;refine bE (args:=[.p g 0]) (Tq B g K l A d) func179 ?_;refine aY 0 1 ?_;cases hz:(a.tmod n != 0) with
 | true =>rw [JZ8 rfl];refine bF (Tq.eng (dr:=true)) {} 60 h (λW Y=>o W Y hz) ?_;rintro W1 e W2 h1 ⟨rfl,u⟩;refine ⟨_,0,rfl,jw ab,?_⟩;exact DT (R:=[]) trivial {} 40 ab ab rfl u ⟨gA (k:=6) rfl rfl,J,M,m,λ_=>⟨6,ba,rfl⟩⟩
 | false =>
   rw [JZ9 ba];refine bF (Tq.eng (dr:=true)) {} 60 h (λW Y=>j W Y hz) ?_;rintro W1 e W2 h1 ⟨C,rfl,u⟩;refine ⟨_,0,rfl,jw ab,?_⟩;unfold xz at u;cases P:(((T:Nat):Int) != 0) with
   | true =>rw [P,JZ8 rfl] at u;rw [JZ8 rfl,H8];exact DT (R:=[]) trivial {} 40 ab ab rfl u ⟨gA (k:=T) rfl rfl,w0,M,m,λ_=>⟨T,S,rfl⟩⟩
   | false =>
     rw [P,JZ9 ba] at u;rw [JZ9 ba];refine aO (R:=[]) trivial {} 14 ?_;refine aH [.code (cQ 2 (bI Tryz.f179))] [(0,.p g 0,1),(2,.u p,0)] ?_;refine bO (λ_=>True) ?_;refine pi (R1:=[⟨g,aW N C {d with rs:=1},[]⟩]) (Iv.one u.row) {} 7 λW3 h3=>?_;have U:=u.iv h3 rfl;refine aH [.code (cQ 3 (bI Tryz.f179))] [(0,.p g 0,1),(2,.u p,0)] ?_;have no:∀ (H:Hw prog (Ag [g] W3)),(N.hl&&(N.hd==p))=false->((db prog H Tryz.f179.ntmps 60 [.code (cQ 3 (bI Tryz.f179))] [(0,.p g 0,1),(2,.u p,0)] [⟨g,aW N C {d with rs:=1},[]⟩]).1.1,(db prog H Tryz.f179.ntmps 60 [.code (cQ 3 (bI Tryz.f179))] [(0,.p g 0,1),(2,.u p,0)] [⟨g,aW N C {d with rs:=1},[]⟩]).1.2.2.2)=(false,[⟨g,aW (jC N false 0) C {d with rs:=1},[]⟩]) ->
      (db prog H Tryz.f179.ntmps 60 [.code (cQ 3 (bI Tryz.f179))] [(0,.p g 0,1),(2,.u p,0)] [⟨g,aW N C {d with rs:=1},[]⟩]).1.2.1.isEmpty->(db prog H Tryz.f179.ntmps 60 [.code (cQ 3 (bI Tryz.f179))] [(0,.p g 0,1),(2,.u p,0)] [⟨g,aW N C {d with rs:=1},[]⟩]).2.map K1=(db prog H Tryz.f179.ntmps 60 [.code (cQ 3 (bI Tryz.f179))] [(0,.p g 0,1),(2,.u p,0)] [⟨g,aW N C {d with rs:=1},[]⟩]).2.map K4 ->
      Wg prog (λ_=>True) (F3 prog Tryz.f179 (TR B g K (Pf false (if (N.hl&&(N.hd==p))=true then (if ((aT N a n 3 b).2.2 != 0)=true then dZ (aT N a n 3 b) 0 a else (bW (jC (aT N a n 3 b).2.1 false 0) i.rd 0 (Uz.wrap (l.pc+4)),1)) else (bW (jC N false 0) i.rd 1 (Uz.wrap (l.pc+4)),1)) i))) Tryz.f179.ntmps [.code (cQ 3 (bI Tryz.f179))] [(0,.p g 0,1),(2,.u p,0)] W3:=by
      intro H hn0 hx hz1 he
      rw [hn0,JZ9 ba]
      refine eZ (Iv.one U.row) H 60 (hx:=hx) (hz:=hz1) (he:=he) λW5 V=>⟨rfl,jC N false 0,C,{d with rs:=1},?_,U.iv V rfl⟩
      refine ⟨?_,w0.hold kT (Or.inr rfl),M,m,λe=>by rw [show TV.up {d with rs:=1}=d.up from rfl,r] at e;cases e⟩
      rw [gZ (t:={d with rs:=1}) r,<- O,<- M]
     cases z:N.hl with
     | false =>have:=no {eq:=[(18,aD z)]} (by rw [z];rfl) ab ab ab;rw [z] at this;exact this
     | true =>
       cases Q:(N.hd==p) with
       | false =>have:=no {eq:=[(18,aD z),(26,aD Q)]} (by rw [z,Q];rfl) ab ab ab;rw [z,Q] at this;exact this
       | true =>
         clear no;rw [JZ8 ba];have V:=U;have ga:=w0.acc a n 3 b;have Z:=λW (h:Tq B g K N C {d with rs:=1} W)=>SQ h (by rw [s];exact x) (show 0<=d.ra by rw [E];exact q.a0) (show d.ra<=31 by rw [E];exact q.a31) (v:=a) (show N.x.getD d.ra.toNat 0=a by rw [s,E];exact ea);have hb2:=λW (h:Tq B g K N C {d with rs:=1} W)=>Ti h (by rw [s];exact x) (show 0<=d.rb by rw [G];exact q.b0) (show d.rb<=31 by rw [G];exact q.b31) (v:=b) (show N.x.getD d.rb.toNat 0=b by rw [s,G];exact eb);have hst:=λW (h:Tq B g K N C {d with rs:=1} W)=>zw h w0 (show d.ld=_ from hld) .sc n true aa (show d.fm=_ by rw [m,hf]) a b ua ub;have hrf:=λX (hX:aT N a n 3 b=X) P=>mh (cf:=false) (i:=i) (t:={d with rs:=1}) hX w0 P M m;generalize aT N a n 3 b=X at *;obtain ⟨y,N2,c2⟩:=X;dsimp only at *;refine bO (Tq B g K N C {d with rs:=1}) ?_;refine bF (Tq.eng (dr:=true)) {eq:=[(18,aD z),(26,aD Q)],cv:=[(30,sE Z),(32,sE hb2)]} 80 V hst ?_;rintro W6 e W7 h6 ⟨D,rfl,I⟩;refine ⟨_,0,rfl,jw ab,?_⟩;cases L:(c2 != 0) with
         | true =>rw [JZ8 rfl];exact DT (R:=[]) trivial {} 40 ab ab rfl I (hrf _ rfl L)
         | false =>rw [JZ9 ba];unfold mV at I;dsimp only at I;rw [L,JZ9 ba] at I;refine bO (λ_=>True) ?_;refine eZ (R1:=[⟨g,aW (jC N2 false 0) D {d with rs:=0},[]⟩]) (Iv.one I.row) {} 60 λW8 h8=>⟨rfl,jC N2 false 0,D,{d with rs:=0},?_,I.iv h8 rfl⟩;refine ⟨?_,ga.hold kT (Or.inr rfl),M,m,λe=>by rw [show TV.up {d with rs:=0}=d.up from rfl,r] at e;cases e⟩;rw [gZ (t:={d with rs:=0}) r,<- O,<- M]
theorem RT (i:Ins) (wd:Int) (q:jv i) (h63:63<=i.op) (h84:i.op<=84) (hop:¬ (i.op=63\/i.op=74)/\¬ (i.op=64\/i.op=75)) (h:Tq B g K l b (t0 l i wd) n) (T:Gd l) (hd:Ud l.d): F0 prog 180 #[.p g 0] n (TR B g K (Pf false (m9 l i (l.x.getD i.a.toNat 0) (l.x.getD i.b.toNat 0)) i)):=by
 obtain ⟨hn,wn,ws⟩:=BV q h63 h84;have hf:dz i.op=mm .am (be i.op:Nat) true:=by unfold dz;rw [JZ9 aa,JZ9 aa,JZ9 aa,JZ9 aa,JZ9 aa,JZ8 aa,JZ9 hop.1,JZ9 hop.2,wn,ws]
 have u:=T.x32;have ua:=T.ux i.a.toNat;have ub:=T.ux i.b.toNat;have k0:(n8 i.op==0)=false:=by unfold n8;split<;>simp<;>omega
 have k1:(n8 i.op==1)=false:=by unfold n8;split<;>simp<;>omega
 have eV:∀ (a A:Int) (N:MV) (w:Nat),a=l.x.getD i.a.toNat 0->A=l.x.getD i.b.toNat 0->N=iK l a 3->w=be i.op->m9 l i a A=if (a.tmod w != 0)=true then (cu l 6 false a,2) else if ((dM l a 3).code != 0)=true then (cu N (dM l a 3).code.toNat false a,2) else if ((aT N a w 2 0).2.2 != 0)=true then dZ (aT N a w 2 0) 2 a else if ((aT (aT N a w 2 0).2.1 a w 3 (mL i.op (aT N a w 2 0).1 A)).2.2 != 0)=true then dZ (aT (aT N a w 2 0).2.1 a w 3 (mL i.op (aT N a w 2 0).1 A)) 0 a else (bW (aT (aT N a w 2 0).2.1 a w 3 (mL i.op (aT N a w 2 0).1 A)).2.1 i.rd (aX (8*w) (aT N a w 2 0).1) (Uz.wrap (l.pc+4)),1):=by intro a A N w e1 e2 e3 e4;subst e1 e2 e3 e4;unfold m9;rw [k0,k1,JZ9 ba,Fq ua,JZ9 (show ¬ (false) by decide)];rfl
 rw [eV _ _ _ _ rfl rfl rfl rfl];clear eV k0 k1 wn ws;have o:=λW (h:Tq B g K l b (t0 l i wd) W)=>BU h u q.a0 q.a31 .am _ true hn hf;have m:=λW (h:Tq B g K l b (t0 l i wd) W)=>Fp h T rfl q.a0 q.a31 .am _ true hn hf;have gl:Gd (iK l (l.x.getD i.a.toNat 0) 3):=T.marked _;have dl:Ud (iK l (l.x.getD i.a.toNat 0) 3).d:=hd;obtain ⟨cc,c16,hcc⟩:∃ c:Nat,c<16/\(dM l (l.x.getD i.a.toNat 0) 3).code=c:=nX l.ram l.ram.length l.cs (il l.cs l.pr 3) (l.x.getD i.a.toNat 0) 3;rw [show (t0 l i wd).ra=i.a from rfl] at o m;have O:(iK l (l.x.getD i.a.toNat 0) 3).x=l.x:=rfl;generalize ea:l.x.getD i.a.toNat 0=a at *;generalize eb:l.x.getD i.b.toNat 0=A at *;generalize be i.op=w at *;generalize iK l a 3=N at *;generalize dM l a 3=F at *;obtain ⟨pa,fc,fm,ft,fe⟩:=F;dsimp only at *;subst hcc;obtain ⟨M,f⟩:∃ M:TV,M=t0 l i wd:=⟨_,rfl⟩;have hup:M.up=false:=by rw [f];rfl
 have hld:M.ld=.func (.func 142) #[] #[]:=by rw [f];rfl
 have H:M.ra=i.a:=by rw [f];rfl
 have hrb:M.rb=i.b:=by rw [f];rfl
 have I:M.rd=i.rd:=by rw [f];rfl
 have hto:M.op=i.op:=by rw [f];rfl
 have p:M.fm=dz i.op:=by rw [f];rfl
 have hnx:M.nx=Uz.wrap (l.pc+4):=by rw [f];rfl
 rw [<- f] at h o m;clear f;refine bE (args:=[.p g 0]) (Tq B g K l b M) func180 ?_;refine aY 0 1 ?_;cases hz:(a.tmod w != 0) with
 | true =>rw [JZ8 rfl];refine bF (Tq.eng (dr:=true)) {} 60 h (λW hW=>o W hW hz) ?_;rintro W1 e W2 h1 ⟨rfl,w0⟩;refine ⟨_,0,rfl,jw ab,?_⟩;exact DT (R:=[]) trivial {} 40 ab ab rfl w0 ⟨gA (k:=6) rfl rfl,T,I,p,λ_=>⟨6,ba,rfl⟩⟩
 | false =>
   rw [JZ9 ba];refine bF (Tq.eng (dr:=true)) {} 60 h (λW hW=>m W hW hz) ?_;rintro W1 e W2 h1 ⟨C,rfl,w0⟩;refine ⟨_,0,rfl,jw ab,?_⟩;unfold xz at w0;cases hc:(((cc:Nat):Int) != 0) with
   | true =>rw [hc,JZ8 rfl] at w0;rw [JZ8 rfl,H8];exact DT (R:=[]) trivial {} 40 ab ab rfl w0 ⟨gA (k:=cc) rfl rfl,gl,I,p,λ_=>⟨cc,c16,rfl⟩⟩
   | false =>
     rw [hc,JZ9 ba] at w0;rw [JZ9 ba];refine aO (R:=[]) trivial {} 13 ?_;refine aH [.code (cQ 1 (bI Tryz.f180))] [(0,.p g 0,1)] ?_;have ha2:=λW (h:Tq B g K N C M W)=>SQ h (by rw [O];exact u) (by rw [H];exact q.a0) (by rw [H];exact q.a31) (v:=a) (by rw [O,H];exact ea);have hl2:=λW (h:Tq B g K N C M W)=>DS h gl hld .am w true aa (by rw [p,hf]) a ua;have ga:=gl.acc a w 2 0;have da:=DC dl a w 2 kT;have uy:=Bu gl dl a w aa 2 0;have r:=(gO N a w 2 0).2.1;have e18:=λc=>E9 (M:=N) (addr:=a) (size:=w) (x:=0) (c:=c);rw [O] at r;generalize aT N a w 2 0=X at *;obtain ⟨y,s,V⟩:=X;dsimp only at *;refine bO (Tq B g K N C M) ?_;refine bF (Tq.eng (dr:=true)) {cv:=[(18,sE ha2)]} 60 w0 hl2 ?_;rintro W3 e W4 h3 ⟨D,rfl,G⟩;refine ⟨_,0,rfl,jw ab,?_⟩;unfold sy mV at G;dsimp only at G;cases L:(V != 0) with
     | true =>obtain ⟨q1,q2,q3⟩:=e18 V rfl L;rw [L,JZ8 rfl,JZ8 rfl] at G;rw [JZ8 rfl];refine bO (λ_=>True) ?_;rw [q1] at G;refine ot (R1:=[⟨g,aW s D {M with up:=true,cz:=(((V-16).toNat+2:Nat):Int),vl:=a},[]⟩]) (Iv.one G.row) {eq:=[(28,ed .i64 q2)]} 60 λW5 h5=>⟨rfl,s,D,{M with up:=true,cz:=(((V-16).toNat+2:Nat):Int),vl:=a},?_,G.iv h5 rfl⟩;exact ⟨gA (k:=(V-16).toNat+2) rfl rfl,ga,I,p,λ_=>⟨_,q3,rfl⟩⟩
     | false =>
       rw [L,JZ9 ba,JZ8 rfl] at G;rw [JZ9 ba];refine aO (R:=[]) trivial {} 14 ?_;refine aH [.code (cQ 3 (bI Tryz.f180))] [(0,.p g 0,1),(4,.u y,0)] ?_;obtain ⟨j,d⟩:∃ j:TV,j={M with rs:=aX (8*w) y}:=⟨_,rfl⟩;have up2:j.up=false:=(by rw [d];exact hup);have ld2:j.ld=.func (.func 142) #[] #[]:=(by rw [d];exact hld);have P:j.ra=i.a:=(by rw [d];exact H);have Q:j.rb=i.b:=(by rw [d];exact hrb);have S:j.rd=i.rd:=(by rw [d];exact I);have to2:j.op=i.op:=(by rw [d];exact hto);have J:j.fm=dz i.op:=(by rw [d];exact p);have nx2:j.nx=Uz.wrap (l.pc+4):=(by rw [d];exact hnx);have rs2:j.rs=aX (8*w) y:=(by rw [d]);rw [<- d] at G;clear d;have uv:U (mL i.op y A):=OR i.op uy ub;have ha3:=λW (h:Tq B g K s D j W)=>SQ h (by rw [r];exact u) (by rw [P];exact q.a0) (by rw [P];exact q.a31) (v:=a) (by rw [r,P];exact ea);have hb3:=λW (h:Tq B g K s D j W)=>Ti h (by rw [r];exact u) (by rw [Q];exact q.b0) (by rw [Q];exact q.b31) (v:=A) (by rw [r,Q];exact eb);have hm3:=λW (_:Tq B g K s D j W)=>Bp i.op y A (Bt aa aa) uy.1 uy.2 ub.1 ub.2 W;have hst:=λW (h:Tq B g K s D j W)=>zw h ga ld2 .am w true aa (by rw [J,hf]) a (mL i.op y A) ua uv;have gb:=ga.acc a w 3 (mL i.op y A);have hrf:=λX (hX:aT s a w 3 (mL i.op y A)=X) hc=>mh (cf:=false) (i:=i) (t:=j) hX ga hc S J;generalize mL i.op y A=z at *;generalize yQ i.op=zb at *;generalize aT s a w 3 z=Y at *;obtain ⟨y3,N3,c3⟩:=Y;dsimp only at *;refine bO (Tq B g K s D j) ?_;refine bF (Tq.eng (dr:=true)) {eq:=[(36,ed .i64 to2)],cv:=[(39,sE hb3),(40,LW hm3),(45,sE ha3)]} 80 G hst ?_;rintro W5 e W6 h5 ⟨E,rfl,h6⟩;refine ⟨_,0,rfl,jw ab,?_⟩;refine dq {} 40 ab ab rfl ⟨rfl,N3,E,_,?_,h6⟩;cases Z:(c3 != 0) with
       | true =>rw [JZ8 rfl];exact hrf _ rfl Z
       | false =>rw [JZ9 ba];unfold mV;dsimp only;rw [Z,JZ9 ba];refine ⟨?_,gb,S,J,λe=>by rw [up2] at e;cases e⟩;rw [gZ up2,nx2,S,rs2]
structure Tz (B g:Nat) (w0:A6) (M:MV) (A:MA) (t:TV) (K:Nat) (a':Option Addr) (c':Nat) (l:List Int) (W:A6):Prop where
 q:Tq B g w0 M A t W
 f:bi B K W (aU M A)
 o:W.ownsRow K 32 1 (.slice a' l.length c') l.length (l.map (Value.int .u64))
 bk:B<=K
 kw:K<=W.heap.size
 gk:g<K
def SS:Go.Code->Go.Code
 | .block _ c=>c
 | c=>c
theorem Tz.below {g:Nat} (h:Tz B g K l b c A e w d n) (hb:Bw n a):Tz B g K l b c A e w d a :=
 ⟨h.q.below hb,h.f.below hb,dp h.o λk t=>hb.block k (h.o.lt k t).2,h.bk,I5 h.kw hb.size,h.gk⟩
theorem Tz.iv {t':TV} (h:Tz B g K l b c A e w d n) (k:Iv [g] n [⟨g,aW l b t',[]⟩] a):Tz B g K l b t' A e w d a:=by have bZ:=h.gk;exact ⟨h.q.iv k rfl,h.q.other h.f k,dp h.o λi t=>k.ag.block i (h.o.lt i t).2 (by rw [A0];have:=(h.o.lt i t).1;omega),h.bk,I5 h.kw k.ag.size,h.gk⟩
theorem Tz.eng {fn:Func} {Rs:H2->A6->Prop}:oR P (Tz B g K l b c A e w d) (Tz B g K l b c A e w d) [⟨g,aW l b c,[]⟩] dr (F3 P fn Rs):=
 ⟨λ_ h=>h,λW h r a=>by rw [A0] at a;subst a;exact h.q.row.in_,λ_ W h=>h.below (H5 _ _).drew,cG⟩
theorem Tz.eng2 {Rs:H2->A6->Prop} {w0:Nat} {M:Option Addr} {a':Nat} {t:List Int}:oR k (Tz B g K l b c A e w d) (λW=>Tz B g K l b c A e w d W/\Tz B g K l b c w0 M a' t W) [⟨g,aW l b c,[]⟩] dr (F3 k x Rs):=
 ⟨λ_ h=>h.1,λW h r a=>by rw [A0] at a;subst a;exact h.q.row.in_,λ_ W h=>⟨h.1.below (H5 _ _).drew,h.2.below (H5 _ _).drew⟩,cG⟩
def TC {B g K:Nat} {w0:A6} {M:MV} {A:MA} {t:TV} {a':Option Addr} {c':Nat} {l:List Int} {P:H1} {f:Nat} {args:Array G3} {v:G3} (h:∀ W,Tz B g w0 M A t K a' c' l W->F0 P f args W λe w'=>e=.returned v/\Iv [g] W [⟨g,aW M A t,[]⟩] w'):Cv P (Tz B g w0 M A t K a' c' l):=⟨f,args,v,0,λW a=>(h W a).mono λe w' k=>⟨k.1,a.iv k.2⟩⟩
theorem Tz.set {A:MA} {c':Nat} {b:Nat} (h:Tz B g K l A c w (some ⟨b,0,none⟩) c' d n) (i:Nat) (v:Int):Tz B g K l A c w (some ⟨b,0,none⟩) c' (d.set i v) (n.setCell ⟨b,i,none⟩ (.u v)):=by
 have f:=h.o.stored i (.u v);rw [oB] at f;have w0:=(h.o.lt b rfl).1;have M:∀ k,k≠b->(n.setCell ⟨b,i,none⟩ (.u v)).heap[k]?=n.heap[k]?:=λk M=>Below.heap_setCell n _ _ k M;have a:(n.setCell ⟨b,i,none⟩ (.u v)).heap.size=n.heap.size:=cy _ _ _;have o:=h.bk;have bZ:=h.gk;refine ⟨⟨?_,?_,h.q.ne,by rw [a];exact h.q.le,h.q.os,h.q.tape,h.q.output,by rw [a];exact h.q.size,λk j t=>(M k aa).trans (h.q.block k j t),h.q.t0,h.q.tb,h.q.tn⟩,h.f.mono λk _ t _=>M k aa,?_,h.bk,by rw [a];exact h.kw,h.gk⟩;·obtain ⟨T,m⟩:=h.q.row;exact ⟨T,(M g aa).trans m⟩
 ·rw [a];have e:w<=n.heap.size:=(by have:=(h.o.lt b rfl).2;omega);exact (h.f.mono λk _ t _=>M k aa).low (K0 _) e
 ·rw [A5];exact f.1
theorem Tz.csrs {M':MV} {t':TV} (h:Tz B g K l b c A e w d n) (w0:M'.x=l.x/\M'.cs=d/\M'.ram=l.ram/\M'.d=l.d) (k:Iv [g] n [⟨g,aW M' {b with ac:=e,cc:=w} t',[]⟩] a):Tq B g K M' {b with ac:=e,cc:=w} t' a:=by
 have bZ:=h.gk;have o:=dp (w':=a) h.o λi t=>k.ag.block i (h.o.lt i t).2 (by rw [A0];have:=(h.o.lt i t).1;omega);have w':A<=a.heap.size:=I5 h.kw k.ag.size;have f:=h.q.other h.f k;have M:=zt (L1:=[aK b.ax l.x.length b.cx l.x]) (L2:=[aI b.ar l.ram.length b.cr l.ram,aI b.ai l.d.xs.length b.ci l.d.xs,aI b.ao l.d.ys.length b.co l.d.ys]) (r:=aK b.ac l.cs.length b.cc l.cs) (q:=aK e d.length w d) h.q.ne λt=>by have:=(o.lt g t).1;omega
 refine h.q.iv1 k ?_ (by unfold aU;rw [w0.1,w0.2.1,w0.2.2.1,w0.2.2.2];exact M);unfold aU;rw [w0.1,w0.2.1,w0.2.2.1,w0.2.2.2];exact bi.swap (L1:=[aK b.ax l.x.length b.cx l.x]) (r:=aK b.ac l.cs.length b.cc l.cs) (L2:=[aI b.ar l.ram.length b.cr l.ram,aI b.ai l.d.xs.length b.ci l.d.xs,aI b.ao l.d.ys.length b.co l.d.ys]) f (aK e d.length w d) o h.bk w' (K0 _)
theorem Tz.at_ (h:Tz B g K l b c A e w d n) (a:d.length=22):∃ w0,e=some ⟨w0,0,none⟩/\∀ j,j<22->n.cell? ⟨w0,j,none⟩=some (.u (d.getD j 0))/\n.frozen? ⟨w0,j,none⟩=false:=by obtain ⟨w0,M,t,a'⟩:=oE h.o a aa;exact ⟨w0,M,a'⟩
theorem Ht (h:Tq B g K l b c n) (t:l.x.length=32) (f:0<=c.ra) (i:c.ra<=31) (M:87<=c.op/\c.op<=92):F0 prog 209 #[.p g 0,.u Q] n λe w'=>e=.returned (.u (oV c.op Q (if 90<=c.op then Uz.wrap c.ra else l.x.getD c.ra.toNat 0)))/\Iv [g] n [⟨g,aW l b c,[]⟩] w':=by obtain ⟨A,j,d,k⟩:=h.atX t;have:=Ho (x:=l.x.getD (0+c.ra.toNat) 0) Q h.row aa j ⟨f,aa⟩ d (k (0+c.ra.toNat) aa).1;rw [I4] at this;exact this
theorem N6 (c:87<=F.op) (d:F.op<=92):zf F Q S=oV F.op S (if 90<=F.op then Uz.wrap F.a else Q):=by
 obtain ⟨b,h,f,g,e⟩:=F;dsimp only at c d;unfold zf oV n9;dsimp only;obtain rfl|rfl|rfl|rfl|rfl|rfl:b=87\/b=88\/b=89\/b=90\/b=91\/b=92:=aa
 all_goals rfl
theorem RU {M:MV} (hi:jv F) (h87:87<=F.op) (h92:F.op<=92) (h:Tq B g K M b (t0 M F Q) n) (Z:Gd M): F0 prog 181 #[.p g 0] n (TR B g K (Pf true (Bj M F (M.x.getD F.a.toNat 0) Q) F)):=by
 obtain ⟨G,hcs,hpr,_,_,_⟩:=dE Z.ok;have h32:=Z.x32;have ua:=Z.ux F.a.toNat;have uc:=Z.mw.cs;obtain ⟨V,hV⟩:∃ V,Bj M F (M.x.getD F.a.toNat 0) Q=V:=⟨_,rfl⟩;rw [hV];have D:=λW (h:Tq B g K M b (t0 M F Q) W)=>m0 b.ac M.cs.length b.cc M.cs F.imm M.pr W rfl h.sl.cs uc;rw [Jn _ _ uc,uH _ _ uc] at D;obtain ⟨d,p⟩:∃ d:TV,d=t0 M F Q:=⟨_,rfl⟩;have L:d.up=false:=by rw [p];rfl
 have w:d.ra=F.a:=by rw [p];rfl
 have s:d.rd=F.rd:=by rw [p];rfl
 have C:d.fm=dz F.op:=by rw [p];rfl
 have w0:d.nx=Uz.wrap (M.pc+4):=by rw [p];rfl
 have hwd:d.wd=Q:=by rw [p];rfl
 have m:d.op=F.op:=by rw [p];rfl
 have him:d.im=F.imm:=by rw [p];rfl
 rw [<- p] at h D;clear p;refine bE (args:=[.p g 0]) (Tq B g K M b d) func181 ?_;refine aY 0 1 ?_; -- refused
 have bad:∀ (S:A6->Prop) (a:TV),a.wd=Q->a.rd=F.rd->a.fm=dz F.op->V=(cu M 2 false Q,2)->∀ (H:Hn prog (Tq B g K M b a) (Tq B g K M b a)) (k:List KI) (i:Fr) (W:A6),Tq B g K M b a W->gM k->((aP prog [⟨g,aW M b a,[]⟩] H Tryz.f181.ntmps true 60 k i).1.1,IT prog Tryz.f181.ntmps (aP prog [⟨g,aW M b a,[]⟩] H Tryz.f181.ntmps true 60 k i).1.2.2 (aP prog [⟨g,aW M b a,[]⟩] H Tryz.f181.ntmps true 60 k i).1.2.1)=(false,some (169,#[.p g 0]))->(aP prog [⟨g,aW M b a,[]⟩] H Tryz.f181.ntmps true 60 k i).2.map K1=(aP prog [⟨g,aW M b a,[]⟩] H Tryz.f181.ntmps true 60 k i).2.map K4 ->
  (wQ (aP prog [⟨g,aW M b a,[]⟩] H Tryz.f181.ntmps true 60 k i).1.2.2 (aP prog [⟨g,aW M b a,[]⟩] H Tryz.f181.ntmps true 60 k i).1.2.1,gM (oS (aP prog [⟨g,aW M b a,[]⟩] H Tryz.f181.ntmps true 60 k i).1.2.2 (aP prog [⟨g,aW M b a,[]⟩] H Tryz.f181.ntmps true 60 k i).1.2.1))=(false,true) ->
  (∀ J:A6->Prop,(λ(y:(Bool × List KI × Fr) × List (Oe × Oe))=>(y.1.1,y.2.map K1)) (aP prog [] ({}:Hn prog J J) Tryz.f181.ntmps false 20 (oS (aP prog [⟨g,aW M b a,[]⟩] H Tryz.f181.ntmps true 60 k i).1.2.2 (aP prog [⟨g,aW M b a,[]⟩] H Tryz.f181.ntmps true 60 k i).1.2.1) (qG (aP prog [⟨g,aW M b a,[]⟩] H Tryz.f181.ntmps true 60 k i).1.2.2 (aP prog [⟨g,aW M b a,[]⟩] H Tryz.f181.ntmps true 60 k i).1.2.1 (.tuple #[]) 0))=(true,[])) ->
  Wg prog S (F3 prog Tryz.f181 (TR B g K (Pf true V F))) Tryz.f181.ntmps k i W:=by
  intro S a x1 x2 x3 x4 H k i W z hn hx he hb hy
  simp only [Prod.mk.injEq] at hb
  refine bO (Tq B g K M b a) (hn:=hn) ?_
  refine bF (Tq.eng (dr:=true)) H 60 z (λW z=>oA z.row) (hx:=hx) (he:=he) λW1 e w2 h1 hr=>⟨_,0,hr.1,jw hb.1,?_⟩
  have h2:=h1.iv hr.2 rfl
  have hy2:=hy (λx=>x=w2)
  simp only [Prod.mk.injEq] at hy2
  refine DT (R:=[]) trivial {} 20 (by rw [hb.2,hy2.1]) ?_ rfl h2 ⟨?_,Z,x2,x3,λ_=>⟨2,ba,rfl⟩⟩
  ·have:(aP prog [] ({}:Hn prog (λx=>x=w2) (λx=>x=w2)) Tryz.f181.ntmps false 20 (oS (aP prog [⟨g,aW M b a,[]⟩] H Tryz.f181.ntmps true 60 k i).1.2.2 (aP prog [⟨g,aW M b a,[]⟩] H Tryz.f181.ntmps true 60 k i).1.2.1) (qG (aP prog [⟨g,aW M b a,[]⟩] H Tryz.f181.ntmps true 60 k i).1.2.2 (aP prog [⟨g,aW M b a,[]⟩] H Tryz.f181.ntmps true 60 k i).1.2.1 (.tuple #[]) 0)).2=[]:=List.map_eq_nil_iff.1 hy2.2
   rw [this];rfl
  ·rw [gA (k:=2) rfl rfl,x4]
   show (cu M 2 false a.wd,2)=_
   rw [x1]
 cases t:lG M.cs.length M.cs F.imm M.pr with
 | false =>rw [t] at D;have x4:V=(cu M 2 false Q,2):=(by rw [<- hV];unfold Bj;rw [t];rfl);exact bad _ d hwd s C x4 {eq:=[(15,ed .i64 him)],cv:=[(21,LW D)]} _ _ n h ab ab ab ab (λ_=>ab)
 | true =>
   rw [t,JZ8 rfl] at D;have hold:=KK uc F.imm;have hkn:fU F.imm:=(by have q:=t;unfold lG at q;simp only [Bool.and_eq_true] at q;exact q.1.1.2);have f:(if (eM F&&((wrap64 (F.imm.tdiv 1024)).tmod 4==3))=true then (cu M 2 false Q,2) else (if eM F=true then xu (bW M F.rd (jU M.cs F.imm) (Uz.wrap (M.pc+4))) (eB (M.cs.set 21 (Uz.wrap (M.cs.getD 21 0+1))) F.imm (zf F (M.x.getD F.a.toNat 0) (jU M.cs F.imm))) else bW M F.rd (jU M.cs F.imm) (Uz.wrap (M.pc+4)),1))=V:=(by rw [<- hV];unfold Bj;rw [t];rfl);clear hV;have hX:=N6 F (M.x.getD F.a.toNat 0) (jU M.cs F.imm) h87 h92;generalize jU M.cs F.imm=old at *;have fin:∀ (S:A6->Prop) (K2:Nat) (X:Option Addr) (Y:Nat) (l2:List Int) (a:TV) (W:A6),Tz B g K M b a K2 X Y l2 W->a.rd=F.rd->a.fm=dz F.op->a.up=false->a.nx=Uz.wrap (M.pc+4)->Gd (xu M l2)->(xu (bW M F.rd old (Uz.wrap (M.pc+4))) l2,1)=V->Wg prog S (F3 prog Tryz.f181 (TR B g K (Pf true V F))) Tryz.f181.ntmps [.code (cQ 5 (bI Tryz.f181))] [(0,.p g 0,1),(2,.u old,0),(3,.bool true,0),(4,.slice X l2.length Y,0)] W:=(by intro S K2 X Y l2 a W hz x1 x2 x3 x4 x5 x6;refine bO (λ_=>True) ?_;refine eZ (R1:=[⟨g,aW (xu M l2) {b with ac:=X,cc:=Y} {a with rs:=old},[]⟩]) (Iv.one hz.q.row) {} 60 λW5 h5=>⟨rfl,xu M l2,_,{a with rs:=old},⟨?_,x5,x1,x2,λe=>by rw [show TV.up {a with rs:=old}=a.up from rfl,x3] at e;cases e⟩,hz.csrs ⟨rfl,rfl,rfl,rfl⟩ h5⟩;rw [<- x6];unfold sR;rw [show TV.up {a with rs:=old}=a.up from rfl,x3];unfold xu bW;rw [<- x4,<- x1];rfl);refine bF (Tq.eng (dr:=true)) {eq:=[(15,ed .i64 him)],cv:=[(21,LW D)]} 100 h (λW z=>oa b.ac M.cs.length b.cc M.cs W rfl Z.len.cs z.sl.cs) ?_;rintro W1 e W2 h1 ⟨a',c',rfl,o2,k2⟩;refine ⟨_,0,rfl,jw ab,?_⟩;have hz2:Tz B g K M b d W1.heap.size a' c' M.cs W2:=⟨h1.below k2,h1.fam.below k2,o2,h1.le,k2.size,h1.glt⟩;obtain ⟨A,rfl,_⟩:=hz2.at_ G;have cc:∀ W,Tz B g K M b d W1.heap.size (some ⟨A,0,none⟩) c' M.cs W->W.cell? ⟨A,0+(21:Int).toNat,none⟩=some (.u (M.cs.getD 21 0))/\W.frozen? ⟨A,0+(21:Int).toNat,none⟩=false:=λW z=>by obtain ⟨b',hb',P⟩:=z.at_ G;cases hb';exact P 21 aa
   refine bO (Tz B g K M b d W1.heap.size (some ⟨A,0,none⟩) c' M.cs) ?_;refine ak (Tz.eng (dr:=false)) {ov:=[(35,pA (b:=A) (o:=0) M.cs.length c' .i64 21 rfl ⟨aa,aa⟩ underlying31 ab),(36,lw ⟨A,0+(21:Int).toNat,none⟩ (.u (M.cs.getD 21 0)) underlying32 rfl (λW z=>(cc W z).1)),(38,pA (b:=A) (o:=0) M.cs.length c' .i64 21 rfl ⟨aa,aa⟩ underlying31 ab)]} 40 hz2 λW3 hz3=>?_;refine cP (oq (T:=32) (v:=.u (Uz.wrap (M.cs.getD 21 0+1))) (cc W3 hz3) ab rfl) ?_;have c:=hz3.set 21 (Uz.wrap (M.cs.getD 21 0+1));have E:(M.cs.set 21 (Uz.wrap (M.cs.getD 21 0+1))).length=22:=(by rw [A5];exact G);have wd:bp 22 (M.cs.set 21 (Uz.wrap (M.cs.getD 21 0+1))):=bM M.cs G hcs 21 aa _ (beq_self_eq_true _);have lU:∀ j,U ((M.cs.set 21 (Uz.wrap (M.cs.getD 21 0+1))).getD j 0):=iA _ uc 21 _ (bq _);have l9:(M.cs.set 21 (Uz.wrap (M.cs.getD 21 0+1))).getD 9 0=M.cs.getD 9 0:=i7 _ 21 9 _ aa;have ll:M.cs.length=(M.cs.set 21 (Uz.wrap (M.cs.getD 21 0+1))).length:=(by rw [A5]);have I:bW M F.rd old (Uz.wrap (M.pc+4))=xu (bW M F.rd old (Uz.wrap (M.pc+4))) (M.cs.set 21 (Uz.wrap (M.cs.getD 21 0+1))):=rfl;refine aO (R:=[]) trivial {} 1 ?_;refine aH [.code (cQ 4 (bI Tryz.f181))] [(0,.p g 0,1),(2,.u old,0),(3,.bool true,0),(4,.slice (some ⟨A,0,none⟩) M.cs.length c',0)] ?_;rw [ll];rw [I] at f;generalize M.cs.set 21 (Uz.wrap (M.cs.getD 21 0+1))=l at *;clear I ll;have write:∀ (S:A6->Prop),eM F->Wg prog S (F3 prog Tryz.f181 (TR B g K (Pf true V F))) Tryz.f181.ntmps [.code (cQ 1 (SS (cQ 1 (Re (cQ 4 (bI Tryz.f181)))))),.blk 0,.code (cQ 5 (bI Tryz.f181))] [(0,.p g 0,1),(2,.u old,0),(3,.bool true,0),(4,.slice (some ⟨A,0,none⟩) l.length c',0)] (W3.setCell ⟨A,21,none⟩ (.u (Uz.wrap (M.cs.getD 21 0+1)))):=by
    intro S u;rw [u,Bool.true_and,JZ8 rfl] at f;obtain ⟨a,r⟩:∃ a:TV,a={d with wr:=true}:=⟨_,rfl⟩;have xup:a.up=false:=(by rw [r];exact L);have xra:a.ra=F.a:=(by rw [r];exact w);have xrd:a.rd=F.rd:=(by rw [r];exact s);have xfm:a.fm=dz F.op:=(by rw [r];exact C);have xnx:a.nx=Uz.wrap (M.pc+4):=(by rw [r];exact w0);have xwd:a.wd=Q:=(by rw [r];exact hwd);have xop:a.op=F.op:=(by rw [r];exact m);have xim:a.im=F.imm:=(by rw [r];exact him);refine bO (λ_=>True) ?_;refine pi (R1:=[⟨g,aW M b {d with wr:=true},[]⟩]) (Iv.one c.q.row) {} 8 λW5 h5=>?_;rw [<- r] at h5;have hz5:=c.iv h5;clear r;have hwo:=λW (z:Tz B g K M b a W1.heap.size (some ⟨A,0,none⟩) c' l W)=>Ht old z.q h32 (by rw [xra];exact hi.a0) (by rw [xra];exact hi.a31) (by rw [xop];exact ⟨h87,h92⟩);rw [xop,xra,<- hX] at hwo;have ux:U (zf F (M.x.getD F.a.toNat 0) old):=by
     have hga:U (n9 F (M.x.getD F.a.toNat 0)):=(by unfold n9;split;exact bq _;exact ua);unfold zf;split;·exact af _ _ _
     ·split;·exact af _ _ _
      ·exact hga
    clear hX;generalize zf F (M.x.getD F.a.toNat 0) old=x at *;have N:=λW (z:Tz B g K M b a W1.heap.size (some ⟨A,0,none⟩) c' l W)=>qX (some ⟨A,0,none⟩) l.length c' l F.imm M.pr x W rfl (gj z.o) lU ux.1 ux.2;rw [Gx _ _ rfl lU _ _ _ ux,xh _ _ lU] at N;have ewo:Cg l.length l F.imm M.pr=!((wrap64 (F.imm.tdiv 1024)).tmod 4==3):=by
     unfold Cg;have:lG l.length l F.imm M.pr:=by unfold lG at t ⊢;rw [G] at t;rw [E,wd];rw [hcs] at t;exact t
     rw [this,Bool.true_and]
    rw [ewo] at N;unfold Ch at N;rw [ewo] at N;refine bO (Tz B g K M b a W1.heap.size (some ⟨A,0,none⟩) c' l) ?_;refine bF (Tz.eng (dr:=true)) {eq:=[(64,ed .i64 xim)],cv:=[(72,TC hwo)]} 60 hz5 N ?_;rintro W6 e W7 h6 ⟨X,Y,rfl,o7,k7⟩;refine ⟨_,0,rfl,λ_=>h6.below k7,?_⟩;have h7:=h6.below k7;cases hro:((wrap64 (F.imm.tdiv 1024)).tmod 4==3) with
    | true =>rw [hro,JZ8 rfl] at f;refine ak (Tz.eng (dr:=true)) {} 7 h7 λW8 h8=>?_;refine aH [.code (cQ 5 (bI Tryz.f181))] [(0,.p g 0,1),(3,.bool false,0)] ?_;exact bad _ a xwd xrd xfm f.symm {} _ _ W8 h8.q ab ab ab ab (λ_=>ab)
    | false =>rw [hro,JZ9 ba] at f;rw [hro] at o7;have o8:W7.ownsRow W6.heap.size 32 1 (.slice X (eB l F.imm x).length Y) (eB l F.imm x).length ((eB l F.imm x).map (Value.int .u64)):=o7;have gw:Gd (xu M (eB l F.imm x)):=(by have g1:Gd (xu M l):=Z.cs_ E wd lU (by rw [l9]);exact g1.cs_ (M:=xu M l) (by rw [tC];exact E) (rW _ E lU wd _ _ ux hkn) (ED _ lU _ _ ux) (Fa _ E _ _));generalize eB l F.imm x=l3 at *;have hz7:Tz B g K M b a W6.heap.size X Y l3 W7:=⟨h7.q,h6.q.fam.below k7,o8,h6.q.le,k7.size,h6.q.glt⟩;refine ak (Tz.eng2 (dr:=true)) {} 7 ⟨h7,hz7⟩ λW8 h8=>?_;exact aH _ _ (fin _ _ X Y l3 a W8 h8.2 xrd xfm xup xnx gw f)
   have g0:Gd (xu M l):=Z.cs_ E wd lU (by rw [l9]);by_cases O:F.a=0
   ·obtain e|e|e|e|e|e:F.op=87\/F.op=90\/F.op=88\/F.op=89\/F.op=91\/F.op=92:=aa;·refine aO (R:=[⟨g,aW M b d,[]⟩]) ⟨c.q.row.in_,trivial⟩ {eq:=[(43,ed .i64 (m.trans e))]} 41 ?_;exact aH _ _ (write _ (by unfold eM;rw [e];rfl))
    ·refine aO (R:=[⟨g,aW M b d,[]⟩]) ⟨c.q.row.in_,trivial⟩ {eq:=[(43,ed .i64 (m.trans e))]} 41 ?_;exact aH _ _ (write _ (by unfold eM;rw [e];rfl))
    ·refine aO (R:=[⟨g,aW M b d,[]⟩]) ⟨c.q.row.in_,trivial⟩ {eq:=[(43,ed .i64 (m.trans e)),(53,ed .i64 (w.trans O))]} 36 ?_;exact t5
    ·refine aO (R:=[⟨g,aW M b d,[]⟩]) ⟨c.q.row.in_,trivial⟩ {eq:=[(43,ed .i64 (m.trans e)),(53,ed .i64 (w.trans O))]} 42 ?_;exact t5
    ·refine aO (R:=[⟨g,aW M b d,[]⟩]) ⟨c.q.row.in_,trivial⟩ {eq:=[(43,ed .i64 (m.trans e)),(53,ed .i64 (w.trans O))]} 48 ?_;exact t5
    ·refine aO (R:=[⟨g,aW M b d,[]⟩]) ⟨c.q.row.in_,trivial⟩ {eq:=[(43,ed .i64 (m.trans e)),(53,ed .i64 (w.trans O))]} 51 ?_;exact t5
   ·have nA:(F.a==0)=false:=(by simpa using O);have u:eM F:=(by unfold eM;rw [bne,nA];simp);obtain e|e|e|e|e|e:F.op=87\/F.op=90\/F.op=88\/F.op=89\/F.op=91\/F.op=92:=aa;·refine aO (R:=[⟨g,aW M b d,[]⟩]) ⟨c.q.row.in_,trivial⟩ {eq:=[(43,ed .i64 (m.trans e)),(53,ed .i64 w),(54,aD nA)]} 41 ?_;exact aH _ _ (write _ u)
    ·refine aO (R:=[⟨g,aW M b d,[]⟩]) ⟨c.q.row.in_,trivial⟩ {eq:=[(43,ed .i64 (m.trans e)),(53,ed .i64 w),(54,aD nA)]} 41 ?_;exact aH _ _ (write _ u)
    ·refine aO (R:=[⟨g,aW M b d,[]⟩]) ⟨c.q.row.in_,trivial⟩ {eq:=[(43,ed .i64 (m.trans e)),(53,ed .i64 w),(54,aD nA)]} 37 ?_;exact aH _ _ (write _ u)
    ·refine aO (R:=[⟨g,aW M b d,[]⟩]) ⟨c.q.row.in_,trivial⟩ {eq:=[(43,ed .i64 (m.trans e)),(53,ed .i64 w),(54,aD nA)]} 43 ?_;exact aH _ _ (write _ u)
    ·refine aO (R:=[⟨g,aW M b d,[]⟩]) ⟨c.q.row.in_,trivial⟩ {eq:=[(43,ed .i64 (m.trans e)),(53,ed .i64 w),(54,aD nA)]} 49 ?_;exact aH _ _ (write _ u)
    ·refine aO (R:=[⟨g,aW M b d,[]⟩]) ⟨c.q.row.in_,trivial⟩ {eq:=[(43,ed .i64 (m.trans e)),(53,ed .i64 w),(54,aD nA)]} 52 ?_;exact aH _ _ (write _ u)
