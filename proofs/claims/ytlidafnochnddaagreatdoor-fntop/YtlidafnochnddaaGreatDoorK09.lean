/- Own lemmas. -/
import Derived.Test.YtlidafnochnddaaGreatDoorAut
import Derived.Test.YtlidafnochnddaaGreatDoorK07
import Derived.Test.YtlidafnochnddaaGreatDoorK08
set_option maxRecDepth 100000
set_option maxHeartbeats 6400000
namespace Go.Proofs.YtlidafnochnddaaGreatDoor
open Go.RowKit Tryz
open Act renaming put->S2
open Below renaming refl->S5,heap_setCell->T0
open Go renaming bodyPost_ret->H3,wpList_store_rowTo->H5,setRow_heap->H8,World->I4,heap_alloc_new->I5,setRow_other->K0,Value->K1
open Go.Sort renaming putRow->R4
open Lib renaming zeros24->L6,nDigits->L7,indexByte->M5,decDigits_length->M7,decDigits->N1
open List renaming setIfInBounds_toArray->A0,set_cons_zero->A5,set_cons_succ->A6,mem_cons->F0,getD->F3,not_mem_nil->G3
open Lit renaming int->L5
open Nat renaming le_refl->K4,lt_of_lt_of_le->L4
open Or renaming inl->R5,inr->S1
open Value renaming int->P2
open _root_.Array renaming size_replicate->H1,replicate->H2
set_option linter.unusedVariables false
variable {w b:List Int} {x:Ins} {a:I4} {s c:Option Addr} {j:Nat} {p:jK} {r:Bool} (d:ByteArray) (k q:Ins) (t:Int) (L:I4)
theorem CP:CB 88 #[.agg #[.i k.op,.i k.rd,.i k.a,.i k.b,.i k.imm],.i 0,.i t] L (.agg #[.i (bH k 0 t).op,.i (bH k 0 t).rd,.i (bH k 0 t).a,.i (bH k 0 t).b,.i (bH k 0 t).imm]):=by go_enter func88,ntmps88;go_wp2_with fail;refine H3 (v:=.agg #[.i (bH k 0 t).op,.i (bH k 0 t).rd,.i (bH k 0 t).a,.i (bH k 0 t).b,.i (bH k 0 t).imm]) (by simp [results,results88,go_sem,bH]) rfl ⟨rfl,?_⟩;exact (bal _ _).alloc bh _
theorem CQ:CB 88 #[.agg #[.i k.op,.i k.rd,.i k.a,.i k.b,.i k.imm],.i 1,.i t] L (.agg #[.i (bH k 1 t).op,.i (bH k 1 t).rd,.i (bH k 1 t).a,.i (bH k 1 t).b,.i (bH k 1 t).imm]):=by go_enter func88,ntmps88;go_wp2_with fail;refine H3 (v:=.agg #[.i (bH k 1 t).op,.i (bH k 1 t).rd,.i (bH k 1 t).a,.i (bH k 1 t).b,.i (bH k 1 t).imm]) (by simp [results,results88,go_sem,bH]) rfl ⟨rfl,?_⟩;exact (bal _ _).alloc bh _
theorem CR:CB 88 #[.agg #[.i k.op,.i k.rd,.i k.a,.i k.b,.i k.imm],.i 2,.i t] L (.agg #[.i (bH k 2 t).op,.i (bH k 2 t).rd,.i (bH k 2 t).a,.i (bH k 2 t).b,.i (bH k 2 t).imm]):=by go_enter func88,ntmps88;go_wp2_with fail;refine H3 (v:=.agg #[.i (bH k 2 t).op,.i (bH k 2 t).rd,.i (bH k 2 t).a,.i (bH k 2 t).b,.i (bH k 2 t).imm]) (by simp [results,results88,go_sem,bH]) rfl ⟨rfl,?_⟩;exact (bal _ _).alloc bh _
theorem CS:CB 88 #[.agg #[.i k.op,.i k.rd,.i k.a,.i k.b,.i k.imm],.i 3,.i t] L (.agg #[.i (bH k 3 t).op,.i (bH k 3 t).rd,.i (bH k 3 t).a,.i (bH k 3 t).b,.i (bH k 3 t).imm]):=by go_enter func88,ntmps88;go_wp2_with fail;refine H3 (v:=.agg #[.i (bH k 3 t).op,.i (bH k 3 t).rd,.i (bH k 3 t).a,.i (bH k 3 t).b,.i (bH k 3 t).imm]) (by simp [results,results88,go_sem,bH]) rfl ⟨rfl,?_⟩;exact (bal _ _).alloc bh _
theorem yw (p:Nat) (a:p=0\/p=1\/p=2\/p=3) (x:Int) (w:I4):CB 88 #[.agg #[.i k.op,.i k.rd,.i k.a,.i k.b,.i k.imm],.i p,.i x] w (.agg #[.i (bH k p x).op,.i (bH k p x).rd,.i (bH k p x).a,.i (bH k p x).b,.i (bH k p x).imm]):=by
 rcases a with rfl|rfl|rfl|rfl;·exact CP k x w
 ·exact CQ k x w
 ·exact CR k x w
 ·exact CS k x w
structure Cb (w:I4) (g1:Nat) (pa ma:Option Addr) (ps ms:List Int) (i:Ins) (wr:I4):Prop where
 res:wr.heap[w.heap.size]?=some (.cells #[.i 0,.i 0,.i 0,.i 0,.i 0] 61 (0,0))
 ins:wr.heap[g1]?=some (.cells (Aj i) 61 (0,0))
 par:Sl .i64 wr pa ps
 num:Sl .i64 wr ma ms
 below:Bw w wr
 lt1:w.heap.size<g1
 np:∀ a,pa=some a->0<ps.length->a.block≠g1
 nm:∀ a,ma=some a->0<ms.length->a.block≠g1
theorem Cb.keep {wr wx:I4} (h:Cb a j s c w b x wr) (hb:Bw wr wx):Cb a j s c w b x wx :=
 ⟨dt h.res hb,dt h.ins hb,h.par.below hb,h.num.below hb,ae h.below hb,h.lt1,h.np,h.nm⟩
theorem wW {k:IntKind} (h:Sl k a s w) (g:Nat) (cs:Array K1) (c:∀ x,s=some x->0<w.length->x.block≠g):Sl k (a.setRow g cs) s w:=by intro i l;obtain ⟨b,d,e,bZ,f⟩:=h i l;refine ⟨b,d,e,by simpa using bZ,?_⟩;have j:=c _ e aa;unfold World.cell? at f ⊢;rw [K0 a g b cs (by exact j)];exact f
theorem Cb.put {wr:I4} (h:Cb a j s c w b x wr) (pa:Ins):Cb a j s c w b pa (wr.setRow j (Aj pa)):=by have d:=h.lt1;refine ⟨?_,H8 _ _ _ _ _ _ h.ins,wW h.par _ _ h.np,wW h.num _ _ h.nm,ay h.below aa _,d,h.np,h.nm⟩;rw [K0 _ _ _ _ aa];exact h.res
theorem Cb.cells {wr:I4} (h:Cb a j s c w b x wr):
 wr.cell? ⟨j,0,none⟩=some (.i x.op)/\wr.cell? ⟨j,1,none⟩=some (.i x.rd)/\wr.cell? ⟨j,2,none⟩=some (.i x.a)/\wr.cell? ⟨j,3,none⟩=some (.i x.b)/\wr.cell? ⟨j,4,none⟩=some (.i x.imm):=sZ h.ins
def Gh:jK->Prop
 | .name _ _=>True
 | .ahead _ _ a=>∀ x ∈ a,(L5 .i64 x).wf
 | .num _ _ _ a _ _=>∀ x ∈ a,(L5 .i64 x).wf
theorem PQ:(L5 .i64 (wrap64 t)).wf:=IC bw bw
theorem El (h:∀ x ∈ w,(L5 .i64 x).wf) (y:Int):∀ x ∈ w++[wrap64 y],(L5 .i64 x).wf:=by
 intro x a;rcases List.mem_append.1 a with a|a;·exact h x a
 ·simp only [F0,G3,or_false] at a;rw [a];exact PQ y
theorem pZ {r:Int} {ms:List Int} {sign acc:Int} (h:∀ x ∈ ms,(L5 .i64 x).wf):(∀ s,bD r w b ms sign acc=.inl s->Gh s)/\(∀ c ns,bD r w b ms sign acc=.inr (some (c,ns))->∀ x ∈ ns,(L5 .i64 x).wf):=by
 unfold bD;constructor
 ·intro s a;split at a;·rw [<- Sum.inl.inj a];exact h
  ·split at a;·rw [<- Sum.inl.inj a];exact El h _
   ·split at a<;>cases a
 ·intro c ns a;split at a;·cases a
  ·split at a;·cases a
   ·split at a;·have:=Option.some.inj (Sum.inr.inj a);simp only [Prod.mk.injEq] at this;rw [<- this.2];exact El h _
    ·have:=Sum.inr.inj a;cases this
theorem uo {ms:List Int} (h:∀ x ∈ ms,(L5 .i64 x).wf):(∀ s,cq b w ms=.inl s->Gh s)/\(∀ c a,cq b w ms=.inr (some (c,a))->∀ x ∈ a,(L5 .i64 x).wf):=by
 unfold cq;split;·exact pZ h
 ·split;·exact pZ h
  ·exact pZ h
theorem wX (h:Gh p):(∀ e,ap p=.inl e->Gh e)/\(∀ b a,ap p=.inr (some (b,a))->∀ x ∈ a,(L5 .i64 x).wf):=by
 cases p with
 | name c f =>
   show (∀ e,fh c f=.inl e->Gh e)/\(∀ b a,fh c f=.inr (some (b,a))->∀ x ∈ a,(L5 .i64 x).wf);unfold fh;split;·refine ⟨λe d=>(by cases d),λb a d=>?_⟩;have:=Option.some.inj (Sum.inr.inj d);simp only [Prod.mk.injEq] at this;rw [<- this.2];simp
   ·split;·exact uo bh
    ·exact ⟨λe d=>(by rw [<- Sum.inl.inj d];trivial),λ_ _ d=>(by cases d)⟩
 | ahead c f i=>exact uo h
 | num r c f i sign g=>exact pZ h
theorem Mq {r:RdRes} (h:dh p r) (c:Gh p):∀ b a,r=some (b,a)->∀ x ∈ a,(L5 .i64 x).wf:=by
 induction h with
 | stop e=>intro b a d;rw [d] at e;exact (wX c).2 b a e
 | go e k f=>exact f ((wX c).1 _ e)
theorem Gi {p q:Prop} (hb:r) (h:p):if r=true then p else q:=by rw [JZ8 hb];exact h
theorem wY:fJ 0=⟨#[]⟩:=by decide
theorem Ao (hs:d.size<=1048576) (w:I4) (bm:Nat) (hO:rO w bm) (hT:Tp w): Calls prog 56 #[.map (some bm),.string d] w λe D=>∃ i t,e=.returned (.tuple #[i.val,.bool t])/\PR d.data.toList i t/\Bw w D:=by
 obtain ⟨L,T⟩:∃ L,L=d.data.toList:=⟨_,rfl⟩;rw [<- T];have HLs:Hid (L=d.data.toList):=T;have HRL:Hid (∀ j,cE j=L->jL d=kR L):=by intro j C;have:=uf d (by rw [<- T,<- C];exact IH j);rw [this,T]
 have HR0:Hid ((w.alloc (.cells #[.i 0,.i 0,.i 0,.i 0,.i 0] 61 (0,0))).heap[w.heap.size]?=some (.cells #[.i 0,.i 0,.i 0,.i 0,.i 0] 61 (0,0))):=I5 _ _;have HOp:Hid (rO w bm):=hO;have HTp:Hid (Tp w):=hT;clear T hO hT;go_enter func56,ntmps56;go_wp2_with fail;refine (xY d hs _).mono ?_;rintro e w1 ⟨res,G,hb1,hres⟩;have V:=G;have HRUN:Hid (dh (.name (jL d) []) res):=G;have HJ:Hid (∀ j,IW j->(j9 j).2->cE j=L->res=some (kR (dB j.op).data.toList,(bf (cO j.op).fm).map (lq j))):=by intro j C m B;rw [HRL.out j B,<- B] at G;exact G.same (ue (Ed m))
 have HR1:Hid (_=_):=dt HR0.out hb1;have Q:Hid (Bw w w1):=ae (bal _ _) hb1;have HO1:Hid (rO w1 bm):=HOp.out.keep Q.out;have hsz0:(w.alloc (.cells #[.i 0,.i 0,.i 0,.i 0,.i 0] 61 (0,0))).heap.size=w.heap.size+1:=bh
 clear G hb1 HRL HR0 HOp;obtain ⟨clock,J⟩:=HO1.out;have HMW0:Hid (∀ ns c,res=some (ns,c)->∀ x ∈ c,(L5 .i64 x).wf):=λns c h=>Mq V (by trivial) ns c h;clear V;rcases hres with ⟨rfl,rfl⟩ | ⟨ns,c,mv,rfl,rfl,hms⟩;·have LK:Hid _:=oO w1 bm clock ⟨#[]⟩ J;rw [Ee] at LK;have z:Hid (PR L jt false):=(by refine S1 ⟨rfl,rfl,λj C m B=>?_⟩;exact absurd (HJ.out j C m B) bh);clear HJ J HO1;go_wp2_with (refine mC LK rfl _ _ rfl rfl rfl ?_);refine (iq 0 ba _).mono ?_;rintro e w2 ⟨rfl,l⟩;rw [wY];have E:Hid (_=_):=dt HR1.out l;have P:Hid (Bw w w2):=ae Q.out l;clear l;go_wp2_with fail;refine (pT _).mono ?_;rintro e w3 ⟨rfl,hw3⟩;have X:=hw3.symm;subst X;go_wp2_with (refine H5 rfl 61 (.tmp 4) (.tmp 43) rfl rfl w.heap.size #[.i 0,.i 0,.i 0,.i 0,.i 0] rfl rfl 61 _ E.out bP rfl (gJ _ _ _ _ _) ?_);refine H3 (dF results56 _ _ _ _ _ _ _ rfl (H8 _ _ _ #[.i 0,.i 0,.i 0,.i 0,.i 0] _ _ E.out) underlying61 rfl bP) rfl ⟨jt,false,rfl,z.out,ay P.out (K4 _) _⟩
 ·obtain ⟨N,hN⟩:∃ N,N=runesBytes ns:=⟨_,rfl⟩;rw [<- hN];have LK:Hid _:=oO w1 bm clock N J;have H:Hid (∀ j,IW j->(j9 j).2->cE j=L->b9 N 98 0=j.op/\c=(bf (cO j.op).fm).map (lq j)):=by
   intro j C m B;have Y:=Option.some.inj (HJ.out j C m B);simp only [Prod.mk.injEq] at Y;refine ⟨?_,Y.2⟩;rw [hN,Y.1,ug _ (Ah j.op)];have:(⟨(dB j.op).data.toList.toArray⟩:ByteArray)=dB j.op:=by apply ByteArray.ext;simp
   rw [this];exact yh (pR m)
  have HOB:Hid (b9 N 98 0=0\/oN (b9 N 98 0)):=Ac _ 98 0 rfl;have HOE:Hid (L=[]->b9 N 98 0=0):=(by intro hL;have hrs:jL d=[]:=(by have hs0:d.data.toList=[]:=(by rw [<- HLs.out];exact hL);have:=uf d (by rw [hs0];simp);rw [this,hs0];rfl);have h2:dh (.name (jL d) []) (some ([],[])):=(by rw [hrs];exact .stop (by show fh _ _=_;simp [fh]));have I:=Option.some.inj (HRUN.out.same h2);simp only [Prod.mk.injEq] at I;rw [hN,I.1];exact Ee);obtain ⟨o,ho⟩:∃ o,o=b9 N 98 0:=⟨_,rfl⟩;rw [<- ho] at H HOB LK HOE;clear HRUN;rw [hsz0] at hms;have HMW:Hid (∀ x ∈ c,(L5 .i64 x).wf):=HMW0.out ns c rfl;clear HMW0;have HMS:Hid (w1.ownsRow (w.heap.size+1) 2 1 mv c.length (c.map (P2 .i64))):=hms;clear ho hN HJ J HO1 hsz0 hms;by_cases U:o=0;·subst U;have hk0:((0:Int) != 0)=false:=rfl;rw [hk0] at LK;have z:Hid (PR L jt false):=(by refine S1 ⟨rfl,rfl,λj C m B=>?_⟩;have Y:=(H.out j C m B).1;have h2:1<=j.op/\j.op<=98:=of_decide_eq_true (pR m);omega);clear H HOB;go_wp2_with (refine mC LK rfl _ _ rfl rfl rfl ?_);refine (iq 0 ba _).mono ?_;rintro e w2 ⟨rfl,l⟩;rw [wY];have E:Hid (_=_):=dt HR1.out l;have P:Hid (Bw w w2):=ae Q.out l;clear l;go_wp2_with fail;refine (pT _).mono ?_;rintro e w3 ⟨rfl,hw3⟩;have X:=hw3.symm;subst X;go_wp2_with (refine H5 rfl 61 (.tmp 4) (.tmp 43) rfl rfl w.heap.size #[.i 0,.i 0,.i 0,.i 0,.i 0] rfl rfl 61 _ E.out bP rfl (gJ _ _ _ _ _) ?_);refine H3 (dF results56 _ _ _ _ _ _ _ rfl (H8 _ _ _ #[.i 0,.i 0,.i 0,.i 0,.i 0] _ _ E.out) underlying61 rfl bP) rfl ⟨jt,false,rfl,z.out,ay P.out (K4 _) _⟩
  ·have hk0:(o != 0):=(by simpa using U);rw [hk0] at LK;have hob:oN o:=HOB.out.resolve_left U;have hob2:1<=o/\o<=98:=of_decide_eq_true hob;have HOW:Hid ((L5 .i64 o).wf):=IC aa aa;have HFO:Hid (fJ o=(cO o).fm.str):=rM hob;obtain ⟨f,hf⟩:∃ f,f=(cO o).fm:=⟨_,rfl⟩;rw [<- hf] at HFO;have HFm:Hid (f=(cO o).fm):=hf;have HO0:Hid (o≠0):=U;clear hf HOB hob hob2 U hk0;go_wp2_with (refine mC LK rfl _ _ rfl rfl rfl ?_);refine (iq o HOW.out _).mono ?_;rintro e w2 ⟨rfl,l⟩;rw [HFO.out];have E:Hid (_=_):=dt HR1.out l;have P:Hid (Bw w w2):=ae Q.out l;have HM2:Hid (w2.ownsRow (w.heap.size+1) 2 1 mv c.length (c.map (P2 .i64))):=aZ HMS.out l;clear l HMS HR1 Q LK;go_wp2_with fail;refine (rP f _).mono ?_;rintro e w3 ⟨pa,rfl,HSl,hb3⟩;have S:Hid (_=_):=dt E.out hb3;have HB3:Hid (Bw w w3):=ae P.out hb3;have HM3:Hid (w3.ownsRow (w.heap.size+1) 2 1 mv c.length (c.map (P2 .i64))):=aZ HM2.out hb3;clear hb3 E P HM2;obtain ⟨n,hn0⟩:∃ n,n=(bf f).length:=⟨_,rfl⟩;have HZ:Hid (n=(bf f).length):=hn0;have hF4:n<=4:=(by rw [hn0];exact nB f);rw [<- hn0];clear hn0;obtain ⟨ma,mc,hmv⟩:∃ ma mc,mv=.slice ma c.length mc:=by
    rcases HM3.out.2 with ⟨e1,e0⟩|⟨g,cap,cur,e1,_⟩;·exact ⟨none,0,by rw [e1,e0]⟩
    ·exact ⟨_,_,e1⟩
   subst hmv;have HSm:Hid (Sl .i64 w3 ma c):=gj HM3.out;obtain ⟨q,hq⟩:∃ q,q=c.length:=⟨_,rfl⟩;have HQ:Hid (q=c.length):=hq;rw [<- hq];clear hq HM3;by_cases hlen:q=n
   ·have hne:((q:Int) != (n:Int))=false:=bb;obtain ⟨u,hg1⟩:∃ u,u=w3.heap.size:=⟨_,rfl⟩;have HP3:Hid (Cb w u pa ma (fM f) c ⟨o,0,0,0,0⟩ (w3.alloc (.cells #[.i o,.i 0,.i 0,.i 0,.i 0] 61 (0,0)))):=by
     have hba:Bw w3 (w3.alloc (.cells #[.i o,.i 0,.i 0,.i 0,.i 0] 61 (0,0))):=bal _ _;refine ⟨dt S.out hba,by rw [hg1];exact I5 _ _,HSl.out.below hba,HSm.out.below hba,ae HB3.out hba,by rw [hg1];exact pO S.out,?_,?_⟩;·intro a ha h0;obtain ⟨b,off,e,bZ,_⟩:=HSl.out 0 h0;rw [ha] at e;rw [Option.some.inj e];show b≠u;omega
     ·intro a ha h0;obtain ⟨b,off,e,bZ,_⟩:=HSm.out 0 h0;rw [ha] at e;rw [Option.some.inj e];show b≠u;omega
    clear S HB3 HSl HSm;go_wp2_with fail;rw [<- hg1];clear hg1;go_loopw [48] (λkv wr=>∃ (k:Nat) (i:Ins),kv=.i k/\k<=n/\Hid (Cb w u pa ma (fM f) c i wr)/\Hid (IW i/\i.op=o)/\Hid (∀ j,IW j->(j9 j).2->cE j=L->i=mY j ((bf f).take k) ⟨o,0,0,0,0⟩))
     (λkv _=>n-(intOf kv).toNat)
    case atStart=>exact ⟨0,⟨o,0,0,0,0⟩,rfl,aa,HP3,(⟨⟨HOW.out,rfl,rfl,rfl,rfl⟩,rfl⟩:_/\_),(λj _ _ _=>rfl:∀ j,_)⟩
    case round =>
     obtain ⟨k,i,rfl,hk,Z,hI,y⟩:=hrel;clear HP3;by_cases bZ:k<n
     ·have hk4:k<(bf f).length:=(by rw [<- HZ.out];exact bZ);obtain ⟨p,hp,hpc,htk⟩:=t9 f k hk4;obtain ⟨pg,O,hpa,hpl,M⟩:=Z.out.par k (by simpa [fM] using hk4);have hpv:(fM f).getD k 0=(p:Int):=(by simp [fM,F3,hp]);rw [hpv] at M;obtain ⟨mg,r,hma,hml,A⟩:=Z.out.num k (by rw [<- HQ.out];omega);obtain ⟨x,hx⟩:∃ x,x=c.getD k 0:=⟨_,rfl⟩;rw [<- hx] at A;subst hpa hma;have hxw:(L5 .i64 x).wf:=by
       rw [hx];have hkm:k<c.length:=(by rw [<- HQ.out];omega);have:c.getD k 0 ∈ c:=by rw [F3,List.getElem?_eq_getElem hkm];exact List.getElem_mem hkm
       exact HMW.out _ this
      have HF2:Hid (∀ j,IW j->(j9 j).2->cE j=L->bH i p x=mY j ((bf f).take (k+1)) ⟨o,0,0,0,0⟩):=(by intro j C m B;obtain ⟨h2,I⟩:=H.out j C m B;have hxx:x=lq j p:=(by rw [hx,I,<- h2,<- HFm.out,F3,List.getElem?_map,hp];rfl);rw [htk,Cz,<- y.out j C m B,hxx]);have HI2:Hid (IW (bH i p x)/\(bH i p x).op=o):=⟨hI.out.1.set p hxw,by rw [Mn];exact hI.out.2⟩;have HC:Hid (∀ W:I4,CB 88 #[.agg #[.i i.op,.i i.rd,.i i.a,.i i.b,.i i.imm],.i p,.i x] W (.agg #[.i (bH i p x).op,.i (bH i p x).rd,.i (bH i p x).a,.i (bH i p x).b,.i (bH i p x).imm])):=λW=>yw i p hpc x W;have R:Hid (∀ wx,Cb w u (some ⟨pg,O,none⟩) (some ⟨mg,r,none⟩) (fM f) c i wx->Cb w u (some ⟨pg,O,none⟩) (some ⟨mg,r,none⟩) (fM f) c (bH i p x) (wx.setRow u #[.i (bH i p x).op,.i (bH i p x).rd,.i (bH i p x).a,.i (bH i p x).b,.i (bH i p x).imm])):=λwx hx=>hx.put (bH i p x);obtain ⟨y0,y1,y2,y3,y4,hy⟩:∃ y0 y1 y2 y3 y4:Int,(#[.i (bH i p x).op,.i (bH i p x).rd,.i (bH i p x).a,.i (bH i p x).b,.i (bH i p x).imm]:Array K1)=#[.i y0,.i y1,.i y2,.i y3,.i y4]:=⟨_,_,_,_,_,rfl⟩;rw [hy] at HC R;obtain ⟨c0,c1,c2,c3,c4⟩:=Z.out.cells;clear hxw hx hpv hp hpc htk y hI hy hpl hml;go_wp2_with fail;refine Al 6 (λD=>D.cell? ⟨u,0,none⟩=some (.i i.op)/\D.cell? ⟨u,1,none⟩=some (.i i.rd)/\D.cell? ⟨u,2,none⟩=some (.i i.a)/\D.cell? ⟨u,3,none⟩=some (.i i.b)/\D.cell? ⟨u,4,none⟩=some (.i i.imm)/\D.cell? ⟨mg,r+k,none⟩=some (.i x)) ab (⟨c0,c1,c2,c3,c4,A⟩) (λhHeld=>?_);refine nE (i:=0) (oi:={dst:=some 53,op:=_,type:=_,pos:=_,after:=_,guard:=_}) (v:=.agg #[.i i.op,.i i.rd,.i i.a,.i i.b,.i i.imm]) rfl ab ab ab ab (λ_ _ _ h=>h) (R5 ⟨ko,?_⟩) e6 ?_;·rintro D ⟨s0,s1,s2,s3,s4,s5⟩;go_simp
      simp only [S2,A0,A5,A6];refine nE (i:=1) (oi:={dst:=some 54,op:=_,type:=_,pos:=_,after:=_,guard:=_}) (v:=.i p) rfl ab ab ab ab (λ_ _ _ h=>h) (R5 ⟨ko,?_⟩) e6 ?_;·rintro D ⟨s0,s1,s2,s3,s4,s5⟩;go_simp
      simp only [S2,A0,A5,A6];refine ke (i:=2) (oi:={dst:=some 55,op:=_,type:=_,pos:=_,after:=_,guard:=_}) (v:=.slice (some ⟨mg,r,none⟩) n mc) rfl ab ab ab ba (λ_ _ _ h=>h) (R5 ⟨ko,?_⟩) e6 ?_;·intro D;go_simp
      simp only [S2,A0,A5,A6];refine ke (i:=3) (oi:={dst:=some 56,op:=_,type:=_,pos:=_,after:=_,guard:=_}) (v:=.i k) rfl ab ab ab ba (λ_ _ _ h=>h) (R5 ⟨ko,?_⟩) e6 ?_;·intro D;go_simp
      simp only [S2,A0,A5,A6];refine ke (i:=4) (oi:={dst:=some 57,op:=_,type:=_,pos:=_,after:=_,guard:=_}) (v:=.p mg (r+k)) rfl ab ab ab ba (λ_ _ _ h=>h) (R5 ⟨ko,?_⟩) e6 ?_;·intro D;go_simp
      simp only [S2,A0,A5,A6];refine nE (i:=5) (oi:={dst:=some 58,op:=_,type:=_,pos:=_,after:=_,guard:=_}) (v:=.i x) rfl ab ab ab ab (λ_ _ _ h=>h) (R5 ⟨ko,?_⟩) e6 ?_;·rintro D ⟨s0,s1,s2,s3,s4,s5⟩;go_simp
      simp only [S2,A0,A5,A6];refine uj (o:={dst:=some 59,op:=_,type:=_,pos:=_,after:=_,guard:=_}) rfl ab (λK hK=>?_);go_simp;refine (HC.out _).mono ?_;rintro e w5 ⟨rfl,F⟩;have s:Hid (Cb w u (some ⟨pg,O,none⟩) (some ⟨mg,r,none⟩) (fM f) c i w5):=Z.out.keep (ae (S5 _ _).drew F);clear F Z hHeld c0 c1 c2 c3 c4 A M;refine hK.out _ _ ?_;clear hK;refine wO (i:=7) (o:={dst:=none,op:=_,type:=_,pos:=_,after:=_,guard:=_}) rfl ab (λK hK=>?_);refine Gi ab ?_;refine wp_store_row 61 (.tmp 12) (.tmp 59) rfl u #[.i y0,.i y1,.i y2,.i y3,.i y4] rfl rfl 61 _ s.out.ins bP rfl (gJ _ _ _ _ _) ?_;have HP6:Hid (Cb w u (some ⟨pg,O,none⟩) (some ⟨mg,r,none⟩) (fM f) c (bH i p x) (w5.setRow u #[.i y0,.i y1,.i y2,.i y3,.i y4])):=R.out _ s.out;obtain ⟨w6,hw6⟩:∃ w6,w6=w5.setRow u #[.i y0,.i y1,.i y2,.i y3,.i y4]:=⟨_,rfl⟩;rw [<- hw6] at HP6 ⊢;clear hw6 s R HC;refine hK.out _ _ ?_;clear hK;refine wpAny_done ab ?_ _;go_wp2_with fail;go_roundw;case rel=>exact ⟨k+1,bH i p x,by go_num,aa,HP6,HI2,HF2⟩
      case measure=>simp [intOf];omega
     ·have hk2:k=(bf f).length:=(by rw [<- HZ.out];omega);have HFI:Hid (∀ j,IW j->(j9 j).2->cE j=L->i=j):=(by intro j C m B;rw [y.out j C m B,hk2,List.take_length,HFm.out];have I:=(H.out j C m B).1;rw [I];exact (Ed m).fill);obtain ⟨Sh,hSh⟩:∃ Sh:ByteArray,Sh=⟨(lT i).toArray⟩:=⟨_,rfl⟩;have HSC:Hid (∀ W:I4,Tp W->CB 89 #[.agg #[.i i.op,.i i.rd,.i i.a,.i i.b,.i i.imm]] W (.string Sh)):=λW hW=>by rw [hSh];exact yj i hI.out.1 W hW
      obtain ⟨c0,c1,c2,c3,c4⟩:=Z.out.cells;have HQ2:Hid (∀ b,(Sh.toList != d.toList)=b->b=decide (lT i≠L)):=(by intro b hb;rw [<- hb,Go.ByteArray.toList_eq,Go.ByteArray.toList_eq,<- HLs.out,hSh];show (lT i != L)=_;by_cases h:lT i=L<;>simp [h]);clear hSh hk2 y;cases hq:(Sh.toList != d.toList) with
      | true =>have z:Hid (PR L jt false):=(by refine S1 ⟨rfl,rfl,λj C m B=>?_⟩;have Y:=HQ2.out _ hq;have h2:=HFI.out j C m B;have I:lT i=L:=(by rw [h2,lT,JZ8 m];exact B);rw [decide_eq_false (by simp [I])] at Y;cases Y);have hq2:(Sh.toList==d.toList)=false:=(by simpa [bne] using hq);clear HQ2 HFI hq;go_wp2_with fail;refine (HSC.out _ (HTp.out.below Z.out.below)).mono ?_;rintro e w5 ⟨rfl,F⟩;have s:Hid (Cb w u pa ma (fM f) c i w5):=Z.out.keep F;clear F;go_wp2_with (refine H5 rfl 61 (.tmp 4) (.tmp 65) rfl rfl w.heap.size #[.i 0,.i 0,.i 0,.i 0,.i 0] rfl rfl 61 _ s.out.res bP rfl (gJ _ _ _ _ _) ?_);refine H3 (dF results56 _ _ _ _ _ _ _ rfl (H8 _ _ _ #[.i 0,.i 0,.i 0,.i 0,.i 0] _ _ s.out.res) underlying61 rfl bP) rfl ⟨jt,false,rfl,z.out,ay s.out.below (K4 _) _⟩
      | false =>
        have z:Hid (PR L i true):=by
         have Y:=HQ2.out _ hq;have I:lT i=L:=by
          by_cases h:lT i=L;·exact h
          ·rw [decide_eq_true h] at Y;cases Y
         cases m:(j9 i).2 with
         | true=>exact R5 ⟨rfl,hI.out.1,m,by rw [<- I,lT,JZ8 m]⟩
         | false =>rw [lT,m] at I;exact absurd (HOE.out I.symm) HO0.out
        have hq2:(Sh.toList==d.toList):=(by simpa [bne] using hq);clear HQ2 HFI hq;go_wp2_with fail;refine (HSC.out _ (HTp.out.below Z.out.below)).mono ?_;rintro e w5 ⟨rfl,F⟩;have s:Hid (Cb w u pa ma (fM f) c i w5):=Z.out.keep F;clear F c0 c1 c2 c3 c4;obtain ⟨c0,c1,c2,c3,c4⟩:=s.out.cells;go_wp2_with (refine H5 rfl 61 (.tmp 4) (.tmp 66) rfl rfl w.heap.size #[.i i.op,.i i.rd,.i i.a,.i i.b,.i i.imm] rfl rfl 61 _ s.out.res bP rfl (gJ _ _ _ _ _) ?_);refine H3 (dF results56 _ _ _ _ _ _ _ rfl (H8 _ _ _ #[.i i.op,.i i.rd,.i i.a,.i i.b,.i i.imm] _ _ s.out.res) underlying61 rfl bP) rfl ⟨i,true,rfl,z.out,ay s.out.below (K4 _) _⟩
   ·have hne:((q:Int) != (n:Int)):=bb;have z:Hid (PR L jt false):=(by refine S1 ⟨rfl,rfl,λj C m B=>?_⟩;obtain ⟨h2,I⟩:=H.out j C m B;apply hlen;rw [HZ.out,HQ.out,HFm.out,h2,I,List.length_map]);clear H;go_wp2_with (refine H5 rfl 61 (.tmp 4) (.tmp 43) rfl rfl w.heap.size #[.i 0,.i 0,.i 0,.i 0,.i 0] rfl rfl 61 _ S.out bP rfl (gJ _ _ _ _ _) ?_);refine H3 (dF results56 _ _ _ _ _ _ _ rfl (H8 _ _ _ #[.i 0,.i 0,.i 0,.i 0,.i 0] _ _ S.out) underlying61 rfl bP) rfl ⟨jt,false,rfl,z.out,ay HB3.out (K4 _) _⟩
theorem Ap:∀ (a:List Nat) (x:Ins),a.map (lq k)=a.map (lq q)->mY k a x=mY q a x:=by
 intro a;induction a with
 | nil=>intro x _;rfl
 | cons p a b =>intro x h;simp only [List.map_cons,List.cons.injEq] at h;show mY k a (bH x p (lq k p))=mY q a (bH x p (lq q p));rw [h.1];exact b _ h.2
theorem IY {j:Ins} (b:wM x) (c:wM j) (h:cE x=cE j):x=j:=by
 have a:=Ab x;rw [h,Ab j] at a;simp only [List.cons.injEq] at a;have k:dB x.op=dB j.op:=ByteArray.ext (Array.toList_inj.1 a.1.symm);have f:x.op=j.op:=by rw [<- yh b.op,<- yh c.op,k]
 have g:=ue b;rw [h] at g;have d:=Option.some.inj (g.same (ue c));simp only [Prod.mk.injEq] at d;have e:=d.2;rw [f] at e;rw [<- b.fill,<- c.fill,f];exact Ap x j _ _ e
theorem PR.same {L:List UInt8} {j:Ins} {u:Bool} (h:PR L x r) (k:PR L j u):x=j/\r=u:=by
 rcases h with ⟨rfl,b,e,f⟩|⟨rfl,rfl,b⟩
 ·rcases k with ⟨rfl,a,c,d⟩|⟨rfl,rfl,a⟩;·exact ⟨IY (Ed e) (Ed c) (f.trans d.symm),rfl⟩
  ·exact absurd f (a x b e)
 ·rcases k with ⟨rfl,a,c,d⟩|⟨rfl,rfl,a⟩;·exact absurd d (b j a c)
  ·exact ⟨rfl,rfl⟩
theorem vU (y:d.size<=1048576) (w:I4) (q:Tp w): Calls prog 35 #[.string d] w λe z=>∃ i t,e=.returned (.tuple #[i.val,.bool t])/\PR d.data.toList i t/\Bw w z:=by have f:Hid ((w.alloc (.cells #[.i 0,.i 0,.i 0,.i 0,.i 0] 61 (0,0))).heap[w.heap.size]?=some (.cells #[.i 0,.i 0,.i 0,.i 0,.i 0] 61 (0,0))):=I5 _ _;have p:Hid (Tp w):=q;clear q;go_enter func35,ntmps35;go_wp2_with fail;refine (vP _).mono ?_;rintro e A ⟨u,rfl,r,_,c⟩;have g:Hid (_=_):=dt f.out c;have b:Hid (Bw w A):=ae (bal _ _) c;clear c f;go_wp2_with fail;refine (Ao d y _ u r.out (p.out.below b.out)).mono ?_;rintro e B ⟨i,t,rfl,l,s⟩;have o:Hid (PR d.data.toList i t):=l;have j:Hid (_=_):=dt g.out s;have m:Hid (Bw w B):=ae b.out s;clear l s g b;unfold Ins.val;go_wp2_with (refine H5 rfl 61 (.tmp 2) (.tmp 7) rfl rfl w.heap.size #[.i i.op,.i i.rd,.i i.a,.i i.b,.i i.imm] rfl rfl 61 _ j.out bP rfl (gJ _ _ _ _ _) ?_);exact H3 (dF results35 _ _ _ _ _ _ _ rfl (H8 _ _ _ #[.i i.op,.i i.rd,.i i.a,.i i.b,.i i.imm] _ _ j.out) underlying61 rfl bP) rfl ⟨i,t,rfl,o.out,ay m.out (K4 _) _⟩
variable {w r:Nat} {A B:I4} {L M:List FRow} {a:MV} {c:MA} (g:I4) (l x:Nat)
open Classical in
noncomputable def Rb (L:List UInt8):Ins × Bool:=if h:∃ i,IW i/\(j9 i).2/\cE i=L then (h.choose,true) else (jt,false)
def Rd (a:List UInt8):Bool:=a.isEmpty||decide (a.head?=some 35)
noncomputable def SA:List UInt8->List UInt8->Nat->List Int->List Int × Int
 | cur,[],a,ws=>if cur.isEmpty then (ws,-1) else ([],(a:Int))
 | cur,c::cs,a,ws =>
   if c=10 then
    if Rd cur then SA [] cs (a+1) ws
    else if (Rb cur).2 then SA [] cs (a+1) (ws++[(j9 (Rb cur).1).1]) else ([],(a:Int))
   else SA (cur++[c]) cs a ws
theorem qR (l:List UInt8) (c:UInt8):(M5 l c=-1/\c ∉ l)\/∃ a b,l=a++c::b/\c ∉ a/\M5 l c=(a.length:Int):=by
 induction l with
 | nil=>exact R5 ⟨rfl,bh⟩
 | cons x l j =>
   unfold M5;by_cases d:x=c;·right;exact ⟨[],l,by simp [d],bh,by simp [d]⟩
   ·have i:(x==c)=false:=(by simpa using d);rw [i];rcases j with ⟨e,f⟩|⟨a,b,e,f,g⟩
    ·left;rw [e];refine ⟨bh,λh=>?_⟩;rcases F0.1 h with h | h;·exact d h.symm
     ·exact f h
    ·right;refine ⟨x::a,b,by simp [e],λh=>?_,?_⟩
     ·rcases F0.1 h with h|h;·exact d h.symm
      ·exact f h
     ·rw [g];have:((a.length:Int) == -1)=false:=by simp
      rw [this];simp
def dn (u:Nat):ByteArray:=⟨(N1 u).toArray⟩
theorem IZ:prog.arrayLen 121=24:=by kernel_rfl
theorem SB:prog.elem 121=5:=by kernel_rfl
theorem I0 (o:l<18446744073709551616) (w:I4) (r:Tp w): CB 72 #[.u l,.i 10] w (.string (dn l)):=by
 by_cases t:l<100
 ·have C:IntKind.i64.wrap (l:Int)=l:=by rw [IntKind.wrap_i64];omega
  go_enter func72,ntmps72
  go_wp2_with (go_at_call 77;refine (Tryz.internal_strconv_small l t _).mono ?_;rintro e u ⟨rfl,d⟩;rw [d])
  go_ret
  exact ⟨rfl,S5 _ _⟩
 ·have g:1<=l:=by omega
  have B:L7 l<=20:=by have:=Lib.numDigits_eq l g o;split at this<;>omega
  have s:=(S5 w.heap.size w).alloc (K4 _) (.cells L6 121)
  have y:∀ j,j<L7 l->(w.alloc (.cells L6 121)).cell? ⟨w.heap.size,0+j,none⟩=some (.int .u8 0):=λj c=>by
   rw [World.cell?_alloc_new,Nat.zero_add]
   exact Lib.zeros24_at j aa
  have p:Hid (Go.Sort.Holds (λ(b:UInt8)=>P2 .u8 (b.toNat:Int)) (w.alloc (.cells L6 121)) w.heap.size 0 (H2 (L7 l) 0)):=λj c=>by
   rw [H1] at c
   refine ⟨?_,World.frozen?_alloc_new _ _ _ _⟩
   rw [y j c,getElem!_pos _ j (by rw [H1];exact c),Array.getElem_replicate]
   rfl
  have q:=Tryz.internal_strconv_formatBase10 w.heap.size 0 24 l (H2 (L7 l) 0) (w.alloc (.cells L6 121)) p.out (by rw [H1];exact Lib.lt_pow_nDigits l) o (by rw [H1];omega)
  rw [H1] at q
  have D:∀ W,(Instr.sliceAt 121 (.p w.heap.size 0) none (some (.i (L7 l))) none).run prog W=.ok (.slice (some ⟨w.heap.size,0,none⟩) (L7 l) 24) W:=λW=>by
   rw [run_sliceAt_array_h W 121 ⟨w.heap.size,0,none⟩ (by rw [IZ,SB];exact underlying121) .i64 (L7 l) aa (by rw [IZ];omega),IZ]
   go_simp
  have m:=(r.below s).2
  go_enter func72,ntmps72
  go_wp2_with (go_at_call 78;refine (Tryz.internal_strconv_numDigits l g o _ m).mono ?_;rintro e u ⟨rfl,d⟩;rw [d])
  go_at_call 79
  refine q.mono ?_
  rintro e u ⟨rfl,k,E,f,rfl,hF⟩
  have A:(convert 22 9 (.slice (some ⟨w.heap.size,0,none⟩) (L7 l) 24)).run prog ((R4 (λ(b:UInt8)=>P2 .u8 (b.toNat:Int)) (w.alloc (.cells L6 121)) w.heap.size 0 f).drewN k)=.ok (.string (dn l)) ((R4 (λ(b:UInt8)=>P2 .u8 (b.toNat:Int)) (w.alloc (.cells L6 121)) w.heap.size 0 f).drewN k):=by
   have h:=run_convert_bytes_back (P:=prog) ((R4 (λ(b:UInt8)=>P2 .u8 (b.toNat:Int)) (w.alloc (.cells L6 121)) w.heap.size 0 f).drewN k) 22 9 5 ⟨w.heap.size,0,none⟩ 24 (N1 l) underlying22 underlying5 underlying9 (λj c=>by
    rw [Lib.row_is_numeral hF j c,Lib.add_plain,World.cell?_drewN]
    exact Go.Sort.cell?_putRow (λ(b:UInt8)=>P2 .u8 (b.toNat:Int)) _ w.heap.size 0 _ f p.out (by rw [hF.size,H1]) j (by rw [hF.size];rw [M7] at c;exact c))
   rw [M7] at h
   exact h
  go_wp2
  go_ret
  obtain ⟨z,_,e⟩:=Go.Sort.putRow_grow_new (λ(b:UInt8)=>P2 .u8 (b.toNat:Int)) w #[.cells L6 121] w.heap.size 0 f (K4 _)
  refine ⟨rfl,?_⟩
  rw [Go.Sort.alloc_eq_grow,e]
  exact ui k z
def dU (M:MV):MV:=⟨M.pc,M.x,M.pr,M.cs.set 9 (bits .or .u64 (bits .andNot .u64 (M.cs.getD 9 0) 2184) (dK M.d)),M.ram,M.d,M.hd,M.hl,M.wt⟩
theorem I1 (M:MV) (A:MA):aJ (dU M) A=aJ M A:=by simp [aJ,dU]
theorem Gj (v:K1):g.grownBy (g.setCell ⟨l,x,none⟩ v) (some l):=
 ⟨rfl,rfl,rfl,kb,λk _ a=>T0 g ⟨l,x,none⟩ v k (λh=>a (by rw [h]))⟩
structure Mp (B r:Nat) (M:MV) (A:MA) (W:I4):Prop where
 row:W.heap[r]?=some (.cells (aJ M A) 36 (0,0))
 fam:bi B W.heap.size W (aU M A)
 ne:∀ q ∈ aU M A,q.v.ownBlock≠some r
 lo:B<=r
structure Kx (r:Nat) (L L':List FRow) (w w':I4):Prop where
 os:w'.os=w.os
 tape:w'.tape=w.tape
 output:w'.output=w.output
 size:w.heap.size<=w'.heap.size
 block:∀ k,k<w.heap.size->k≠r->(∀ q ∈ L,q.v.ownBlock≠some k)->w'.heap[k]?=w.heap[k]?
 own:∀ q ∈ L',∀ k,q.v.ownBlock=some k->k<w.heap.size->∃ q0 ∈ L,q0.v.ownBlock=some k
theorem Kx.refl (L:List FRow) (w:I4):Kx l L L w w:=⟨rfl,rfl,rfl,K4 _,λ_ _ _ _=>rfl,λq a k e _=>⟨q,a,e⟩⟩
theorem Kx.trans {g:List FRow} {c:I4} (h:Kx r L M A B) (k:Kx r M g B c):Kx r L g A c :=
 ⟨k.os.trans h.os,k.tape.trans h.tape,k.output.trans h.output,Nat.le_trans h.size k.size,
  λi d l j=>(k.block i (L4 d h.size) l (λq f e=>by obtain ⟨s,o,m⟩:=h.own q f i e d;exact j s o m)).trans (h.block i d l j),
  λq f i e d=>by obtain ⟨t,p,n⟩:=k.own q f i e (L4 d h.size);exact h.own t p i n d⟩
theorem Kx.of_below {r:Nat} {L:List FRow} (h:Bw A B):Kx r L L A B :=
 ⟨h.os,h.tape,h.output,h.size,λk a _ _=>h.block k a,λq b k e _=>⟨q,b,e⟩⟩
theorem Kx.set (v:K1):Kx r L L g (g.setCell ⟨r,l,none⟩ v):=
 ⟨rfl,rfl,rfl,kb,λk _ b _=>T0 g ⟨r,l,none⟩ v k (λe=>b (by rw [e])),λq a k e _=>⟨q,a,e⟩⟩
theorem Kx.of_keepL (h:jy L A B) (i:∀ q ∈ M,∃ a ∈ L,a.v=q.v):Kx r L M A B :=
 ⟨h.os,h.tape,h.output,h.size,λk d _ f=>h.block k d f,λq g k e _=>by obtain ⟨a,c,b⟩:=i q g;exact ⟨a,c,by rw [b];exact e⟩⟩
theorem Kx.below (h:Kx r L M A B) (f:w<=r) (c:w<=A.heap.size) (a:∀ q ∈ L,∀ k,q.v.ownBlock=some k->w<=k):Below w A B :=
 ⟨h.os,h.tape,h.output,h.size,λk d=>h.block k aa aa (λq b e=>by have:=a q b k e;omega)⟩
theorem Mp.below (h:Mp w r a c A) (hb:Bw A B):Mp w r a c B :=
 ⟨aA hb h.row,(h.fam.below hb).low (K4 _) hb.size,h.ne,h.lo⟩
theorem Mp.lt (h:Mp w r a c A):r<A.heap.size:=(Array.getElem?_eq_some_iff.1 h.row).1
theorem Mp.under {M':MV} {M:MA} (h:Mp w r a c A) (k:Kx r (aU a c) (aU M' M) A B):Below w A B :=
 k.below h.lo (by have:=h.lt;have:=h.lo;omega) (λq b i e=>((h.fam.own q b).lt i e).1)
theorem qb {M M':MV} {A:MA} (b:M'.x.length=M.x.length) (c:M'.cs.length=M.cs.length) (d:M'.ram.length=M.ram.length) (e:M'.d.xs.length=M.d.xs.length) (f:M'.d.ys.length=M.d.ys.length):∀ q ∈ aU M' A,∃ q0 ∈ aU M A,q0.v=q.v:=by
 intro q a;simp only [aU,F0,G3,or_false] at a;rcases a with rfl|rfl|rfl|rfl|rfl;·exact ⟨aK A.ax M.x.length A.cx M.x,d5,by rw [b];rfl⟩
 ·exact ⟨aK A.ac M.cs.length A.cc M.cs,d5,by rw [c];rfl⟩
 ·exact ⟨aI A.ar M.ram.length A.cr M.ram,d5,by rw [d];rfl⟩
 ·exact ⟨aI A.ai M.d.xs.length A.ci M.d.xs,d5,by rw [e];rfl⟩
 ·exact ⟨aI A.ao M.d.ys.length A.co M.d.ys,d5,by rw [f];rfl⟩
theorem jl (l:List Int) (i j:Nat) (x:Int) (h:i≠j):(l.set i x).getD j 0=l.getD j 0:=by simp [F3,List.getElem?_set_ne h]
def wZ (l:List Int) (d a:Bool):Bool:=a&&(bits .and .u64 (pC l d) 1==1)
def il (l:List Int) (p kind:Int):Int:=if ((kind != 1)&&(bu (l.getD 0 0) 17==1))=true then wrap64 (bits .and .u64 (l.getD 0 0/2048) 3) else p
def I2 (n:Nat) (l:List Int) (p kind:Int):Int:=if (aQ n l p&&decide (1<=kind/\kind<=3))=true then il l p kind else -1
theorem fX {p:Prop} (h:p):Hid p:=h
theorem CT {x s:Int} (h:iP w x s):2147483648<=x/\x-2147483648+s<=w:=by unfold iP at h;simp only [Bool.and_eq_true,JZ6] at h;exact h.2
