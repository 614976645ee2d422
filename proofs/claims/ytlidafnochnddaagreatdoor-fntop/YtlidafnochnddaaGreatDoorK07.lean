/- Own lemmas. -/
import Derived.Test.YtlidafnochnddaaGreatDoorAut
import Derived.Test.YtlidafnochnddaaGreatDoorK06
import Derived.Deep.RegionHeld3
import Derived.Test.YtlidafnochnddaaGreatDoorShelf
set_option maxRecDepth 20000
set_option maxHeartbeats 1600000
namespace Go.Proofs.YtlidafnochnddaaGreatDoor
open Go.RowKit Tryz
open Bool renaming and_eq_true->U0
open ChangeMaps renaming setBlock->T2,heap_setBlock_same->T3,heap_setBlock_other->T4
open Conv renaming runesFrom->X7
open Go renaming World->U1,cell_of_row->U2,run_underlying->U3,heap_alloc_new->U5,wpList_plain->U6,Value->U7
open Go.RowKit renaming wrap64->V9
open Instr renaming lookup->V5,mapUpdate->V6,findNow->V7,findKey->V8
open Lib renaming decDigits->A0,itoa->A5,itoa_length_le->A6,TabIs->F0
open List renaming all_eq_true->F3,map_cons->G3,cons_append->H1,range->H2,headD_cons->H3,tail_cons->H5,mem_cons->H8,getElem?_eq_getElem->I4,range_eq_range'->I5,range'->K0,take_succ_cons->K1,length_append->K4,length_take->L4,length_cons->L5,getElem_mem->L6,nil_append->L7,mem_append->M5,foldl_cons->M7,take_zero->N1,foldl_nil->P2,all_cons->R4,getD->R5
open Lit renaming int->V4
open MapKept renaming run_getObj_map->U8,run_findKey->V0
open Utf8 renaming encode->X3,decode->X5,valid->X6
open Value renaming int->X0
open _root_.Array renaming toList_inj->T5,getElem?_eq_none->T6,length_toList->T7,getElem?_toList->T8,toList_append->T9
open _root_.ByteArray renaming data_append->S1,ext->S2,size->S5,empty->T0
set_option linter.unusedVariables false
variable {w:Ins} {x s:U1} {b:Nat} {f:Int} {k:Array Oper} {a:List Oper} {j:Oper} {p:Act} {l:Exit->Act->U1->Prop} {o:U7} (A:Fm) (c:U1) (Q:List UInt8) (e:ByteArray) (n:Ins) (q T:Nat) (V:UInt8) (d:Int)
def IW (i:Ins):Prop:=(V4 .i64 i.op).wf/\(V4 .i64 i.rd).wf/\(V4 .i64 i.a).wf/\(V4 .i64 i.b).wf/\(V4 .i64 i.imm).wf
theorem iu (h:(V4 .i64 f).wf): -9223372036854775808<=f/\f<=9223372036854775807:=by have b:IntKind.i64.min=-9223372036854775808:=rfl;have a:IntKind.i64.max=9223372036854775807:=rfl;simp only [Lit.wf,U0,JZ6] at h;omega
def bf:Fm->List Nat
 | .r=>[0,1,2]
 | .i | .h | .w | .c=>[0,1,3]
 | .s | .b=>[1,2,3]
 | .u | .j=>[0,3]
 | .a=>[0,1,2,3]
 | .x=>[]
def cD (i:Ins):Nat->List UInt8
 | 0=>120::A5 i.rd
 | 1=>120::A5 i.a
 | 2=>120::A5 i.b
 | _=>A5 i.imm
def cZ (i:Ins):List Nat->List UInt8
 | []=>[]
 | p::ps=>32::(cD i p++cZ i ps)
def cE (i:Ins):List UInt8:=(dB i.op).data.toList++cZ i (bf (cO i.op).fm)
def lT (i:Ins):List UInt8:=if (j9 i).2 then cE i else []
theorem zZ (i:Ins) (p:Nat):∀ a,cZ i (a++[p])=cZ i a++32::cD i p:=by
 intro a;induction a with
 | nil=>simp [cZ]
 | cons q a b=>simp [cZ,b]
theorem t8 (h:IW n) (p:Nat):(cD n p).length<=22:=by have a:=iu h.2.1;have b:=iu h.2.2.1;have c:=iu h.2.2.2.1;have d:=iu h.2.2.2.2;have e:=A6 n.rd a.1 a.2;have f:=A6 n.a b.1 b.2;have g:=A6 n.b c.1 c.2;have j:=A6 n.imm d.1 d.2;unfold cD;split<;>(try simp only [L5])<;>omega
theorem Cy (i:Ins) (h:IW i):∀ a:List Nat,(cZ i a).length<=23*a.length:=by
 intro a;induction a with
 | nil=>simp [cZ]
 | cons q a b =>have:=t8 i h q;simp only [cZ,L5,K4];omega
theorem nB:(bf A).length<=4:=by cases A<;>decide
theorem t9 (h:q<(bf A).length):∃ p,(bf A)[q]?=some p/\(p=0\/p=1\/p=2\/p=3)/\(bf A).take (q+1)=(bf A).take q++[p]:=by
 refine ⟨(bf A)[q],I4 h,?_,?_⟩;·have a:(bf A)[q] ∈ bf A:=L6 h;generalize (bf A)[q]=p at a;cases A<;>simp [bf] at a<;>omega
 ·rw [List.take_succ_eq_append_getElem h]
theorem IA:(dB d).data.toList.length<=20:=by
 have h:(H2 98).all (λk=>decide ((az k).name.data.toList.length<=20)):=ab
 unfold dB;split;·rename_i a;have b:1<=d/\d<=98:=of_decide_eq_true a;have:=F3.1 h (d-1).toNat bb;exact of_decide_eq_true this
 ·simp
theorem rM (h:oN f):fJ f=(cO f).fm.str:=by simp [fJ,h,cO]
theorem pR (h:(j9 w).2):oN w.op:=by
 unfold j9 at h;split at h;·rename_i a;simp only [U0] at a;exact a.1.1
 ·cases h
theorem Mj (h:IW n) (W:U1):CB 36 #[.agg #[.i n.op,.i n.rd,.i n.a,.i n.b,.i n.imm]] W (.tuple #[.u (j9 n).1,.bool (j9 n).2]):=by have a:=nz fnExactEncode.bareDoes n h.1 W;unfold wL at a;rw [fnExactEncode.enc_eq] at a;exact a
theorem sZ (h:x.heap[b]?=some (.cells #[.i w.op,.i w.rd,.i w.a,.i w.b,.i w.imm] 61 (0,0))):
 x.cell? ⟨b,0,none⟩=some (.i w.op)/\x.cell? ⟨b,1,none⟩=some (.i w.rd)/\x.cell? ⟨b,2,none⟩=some (.i w.a)/\x.cell? ⟨b,3,none⟩=some (.i w.b)/\x.cell? ⟨b,4,none⟩=some (.i w.imm):=
 ⟨U2 _ _ _ _ _ _ h,U2 _ _ _ _ _ _ h,U2 _ _ _ _ _ _ h,U2 _ _ _ _ _ _ h,U2 _ _ _ _ _ _ h⟩
theorem dt {o:Obj} (h:x.heap[b]?=some o) (hb:Bw x s):s.heap[b]?=some o:=by
 by_cases a:b<x.heap.size;·rw [hb.block b a];exact h
 ·rw [T6 aa] at h;cases h
def bH (i:Ins) (p:Nat) (x:Int):Ins :=
 match p with
 | 0=>{i with rd:=x}
 | 1=>{i with a:=x}
 | 2=>{i with b:=x}
 | _=>{i with imm:=x}
def lq (i:Ins) (p:Nat):Int :=
 match p with
 | 0=>i.rd
 | 1=>i.a
 | 2=>i.b
 | _=>i.imm
def mY (j:Ins) (a:List Nat) (i:Ins):Ins:=a.foldl (λi p=>bH i p (lq j p)) i
theorem Cz (a:List Nat) (p:Nat) (i:Ins):mY n (a++[p]) i=bH (mY n a i) p (lq n p):=by simp [mY]
theorem Mk (a:0<=d) (b:d<4294967296):0<=pF A d/\pF A d<4294967296:=by cases A<;>simp only [pF]<;>omega
theorem Ml (c:0<=d) (x:d<4294967296): -4294967296<=aR A d/\aR A d<=4294967296:=by obtain ⟨a,b⟩:=Mk A d c x;unfold aR aX;generalize pF A d=u at a b;cases A<;>simp only [Fm.width,Nat.reduceSub,Int.reducePow,IntKind.wrap_u64]<;>unfold V9<;>omega
theorem CA:mY (js q d) (bf (az q).fm) ⟨(q:Int)+1,0,0,0,0⟩=js q d:=by unfold js;generalize (az q).fm=f;have a:RowKit.wrap64 (aX 64 0)=0:=xR 0 ba ba;cases f<;>simp [mY,bf,bH,lq,dP,aV,bV,aR,pF,Fm.width,Fm.hasRd,Fm.hasA,Fm.hasB,a]
structure wM (j:Ins):Prop where
 op:oN j.op
 fill:mY j (bf (cO j.op).fm) ⟨j.op,0,0,0,0⟩=j
 reg:∀ p,p=0\/p=1\/p=2->0<=lq j p/\lq j p<=31
 num:∀ p,-4294967296<=lq j p/\lq j p<=4294967296
theorem Ed (h:(j9 w).2):wM w:=by
 have m:=pR h;obtain ⟨y,l⟩:∃ y,py y=some w/\0<=y:=by
  unfold j9 at h;split at h
  ·rename_i i;simp only [U0,JZ6] at i;refine ⟨_,i.2,?_⟩;have:0<=mX w/\mX w<18446744073709551616:=by unfold mX ju;split<;>exact fW _ _ _
   exact this.1
  ·cases h
 obtain ⟨d,k,t,u,a⟩:=pQ l.1;have c:w.op=(k:Int)+1:=by rw [a];rfl
 have b:cO w.op=az k:=by rw [a];exact qM k y
 refine ⟨m,?_,?_,?_⟩;·rw [b,c];have:=CA k y;rw [<- a] at this;exact this
 ·have e:=yb (az k).fm y;have f:=Ea (az k).fm y;have g:=Eb (az k).fm y;rintro p (rfl|rfl|rfl);·show 0<=w.rd/\w.rd<=31;rw [a];exact e
  ·show 0<=w.a/\w.a<=31;rw [a];exact f
  ·show 0<=w.b/\w.b<=31;rw [a];exact g
 ·have e:=yb (az k).fm y;have f:=Ea (az k).fm y;have g:=Eb (az k).fm y;have s:=Ml (az k).fm y l.2 d;have n:w.rd=dP (az k).fm y:=(by rw [a];rfl);have o:w.a=aV (az k).fm y:=(by rw [a];rfl);have q:w.b=bV (az k).fm y:=(by rw [a];rfl);have r:w.imm=aR (az k).fm y:=(by rw [a];rfl);intro p;unfold lq;split<;>omega
def PR (text:List UInt8) (i:Ins) (t:Bool):Prop :=
 (t/\IW i/\(j9 i).2/\cE i=text)\/(t=false/\i=jt/\∀ j,IW j->(j9 j).2->cE j≠text)
theorem nC:(32:UInt8) ∉ A0 q:=by intro h;have a:=(gG q).1;rw [F3] at a;have:=a 32 h;simp [pH] at this
theorem yf:(32:UInt8) ∉ A5 d:=by
 unfold A5;split;·simp [nC]
 ·exact nC _
theorem yg:(32:UInt8) ∉ cD n q:=by unfold cD;split<;>simp [yf]
theorem pS:(32:UInt8) ∉ (dB d).data.toList:=by
 have h:(H2 98).all (λk=>(az k).name.data.toList.all (λc=>!(c==32))):=ab
 unfold dB;split;·rename_i a;have op:1<=d/\d<=98:=of_decide_eq_true a;have:=F3.1 h (d-1).toNat bb;intro b;have:=F3.1 this 32 b;simp at this
 ·simp
theorem Aa (h:(32:UInt8) ∉ Q):∀ (a rest:List UInt8),Mb a (Q++rest)=Mb (a++Q) rest:=by
 induction Q with
 | nil=>intro a rest;simp
 | cons c Q f =>intro a rest;have b:c≠32:=λe=>h (by rw [e];simp);have d:(32:UInt8) ∉ Q:=λe=>h (by simp [e]);rw [H1,Mb,JZ9 b,f d];simp
theorem IB (i:Ins):∀ (b:List Nat) (a:List UInt8),Mb a (cZ i b)=a::b.map (cD i):=by
 intro b;induction b with
 | nil=>intro a;simp [cZ,Mb]
 | cons p b c =>intro a;rw [cZ,Mb,JZ8 rfl,Aa _ (yg i p),c];simp
theorem Ab:Mb [] (cE n)=(dB n.op).data.toList::(bf (cO n.op).fm).map (cD n):=by unfold cE;rw [Aa _ (pS n.op),IB];simp
theorem Mm:∀ k,k<98->b9 (az k).name 98 0=(k:Int)+1:=by
 have h:(H2 98).all (λk=>b9 (az k).name 98 0==(k:Int)+1):=ab
 intro k a;have:=F3.1 h k eo;exact eq_of_beq this
theorem yh (h:oN f):b9 (dB f) 98 0=f:=by have a:1<=f/\f<=98:=of_decide_eq_true h;obtain ⟨k,rfl⟩:∃ k:Nat,f=(k:Int)+1:=⟨(f-1).toNat,aa⟩;have:=Mm k aa;unfold dB;rw [h,JZ8 rfl,show ((k:Int)+1-1).toNat=k from aa];exact this
theorem Ac:∀ n k,n+k=98->b9 e n k=0\/oN (b9 e n k):=by
 intro n;induction n with
 | zero=>intro k _;exact Or.inl rfl
 | succ n a =>
   intro k b;unfold b9;split;·right;exact decide_eq_true ⟨aa,aa⟩
   ·exact a (k+1) aa
theorem IC (c: -9223372036854775808<=f) (d:f<=9223372036854775807):(V4 .i64 f).wf:=by have b:IntKind.i64.min=-9223372036854775808:=rfl;have a:IntKind.i64.max=9223372036854775807:=rfl;simp only [Lit.wf,U0,JZ6];omega
theorem IW.set (h:IW w) (p:Nat) {x:Int} (hx:(V4 .i64 x).wf):IW (bH w p x):=by
 unfold bH;split;·exact ⟨h.1,hx,h.2.2.1,h.2.2.2.1,h.2.2.2.2⟩
 ·exact ⟨h.1,h.2.1,hx,h.2.2.2.1,h.2.2.2.2⟩
 ·exact ⟨h.1,h.2.1,h.2.2.1,hx,h.2.2.2.2⟩
 ·exact ⟨h.1,h.2.1,h.2.2.1,h.2.2.2.1,hx⟩
theorem Mn:(bH n q d).op=n.op:=by unfold bH;split<;>rfl
def kR (l:List UInt8):List Int:=l.map λb=>(b.toNat:Int)
theorem dh.congr {s s':jK} {q:RdRes} (h:ap s=ap s') (k:dh s' q):dh s q:=by
 cases k with
 | stop e=>exact .stop (h.trans e)
 | go e k=>exact .go (h.trans e) k
theorem PJ:(V.toNat:Int)≠-1:=by omega
theorem PM (h:V≠32):(V.toNat:Int)≠32:=by
 intro e;apply h;have:V.toNat=32:=aa
 exact QY ba this
theorem ID (h:(32:UInt8) ∉ Q):∀ (a rest:List Int) (q:RdRes),dh (.name rest (a++kR Q)) q->dh (.name (kR Q++rest) a) q:=by
 induction Q with
 | nil=>intro a rest q k;simpa [kR] using k
 | cons c Q f =>
   intro a rest q k;have b:c≠32:=λe=>h (by rw [e];simp);have d:(32:UInt8) ∉ Q:=λe=>h (by simp [e]);refine .go (s':=.name (kR Q++rest) (a++[(c.toNat:Int)])) ?_ (f d _ _ _ ?_);·show fh _ _=_;simp only [kR,G3,H1,fh,H3,H5];rw [JZ9 (PJ c),JZ9 (PM c b)]
   ·simpa [kR] using k
theorem o0 (hd:Q.all pH):∀ (a:Nat) (f d rest:List Int) (sign:Int) (q:RdRes),(∀ k,k<=Q.length->(Q.take k).foldl gS a<1000000000000000000) -> dh (.num (rest.headD (-1)) rest.tail f d sign ((Q.foldl gS a:Nat):Int)) q->dh (.num ((kR Q++rest).headD (-1)) (kR Q++rest).tail f d sign (a:Int)) q:=by
 induction Q with
 | nil=>intro a f d rest sign q _ k;simpa [kR] using k
 | cons c Q j =>
   intro a f d rest sign q g k;simp only [R4,U0] at hd;have l:48<=c.toNat/\c.toNat<=57:=of_decide_eq_true hd.1;have i:=g 0 aa;have h:=g 1 bh;simp only [N1,P2] at i;simp only [K1,N1,M7,P2] at h;refine .go (s':=.num ((kR Q++rest).headD (-1)) (kR Q++rest).tail f d sign ((gS a c:Nat):Int)) ?_ (j hd.2 _ _ _ _ _ _ ?_ ?_);·show bD _ _ _ _ _ _=_;simp only [kR,G3,H1,H3,H5];unfold bD;rw [JZ8 aa];have e:V9 (V9 ((a:Int)*10)+((c.toNat:Int)-48))=((gS a c:Nat):Int):=(by unfold gS at h ⊢;unfold V9;omega);rw [e]
   ·intro k m;have:=g (k+1) bb;simpa using this
   ·simpa using k
theorem o9 (hd:Q.all pH) (hl:Q.length<=18):∀ k,k<=Q.length->(Q.take k).foldl gS 0<1000000000000000000:=by
 intro k c;refine FQ (Q.take k) ?_ ?_;·rw [F3] at hd ⊢;exact λx b=>hd x (List.mem_of_mem_take b)
 ·rw [L4];omega
theorem Mo (ns ms:List Int) (sign:Int) (acc:Int) (x:Int) (hx:V9 (sign*acc)=x):dh (.num (([]:List Int).headD (-1)) ([]:List Int).tail ns ms sign acc) (some (ns,ms++[x])):=by refine .stop ?_;show bD _ _ _ _ _ _=_;simp only [List.headD_nil,List.tail_nil,bD];rw [JZ9 aa,JZ9 ba,JZ8 ba,hx]
theorem F5 (ns ms rest:List Int) (sign:Int) (acc:Int) (x:Int) (hx:V9 (sign*acc)=x) (q:RdRes) (k:dh (.ahead rest ns (ms++[x])) q):dh (.num ((32::rest).headD (-1)) (32::rest).tail ns ms sign acc) q:=by refine .go ?_ k;show bD _ _ _ _ _ _=_;simp only [H3,H5,bD];rw [JZ9 aa,JZ8 trivial,hx]
theorem F6 (d:q<1000000000000000000) (ns ms rest:List Int) (u:RdRes) (k:dh (.num (rest.headD (-1)) rest.tail ns ms 1 (q:Int)) u):dh (.ahead (kR (120::A0 q)++rest) ns ms) u:=by obtain ⟨a,c⟩:=gG q;have b:=o0 (A0 q) a 0 ns ms rest 1 u (o9 _ a (jJ q d));rw [show (A0 q).foldl gS 0=q from c] at b;refine dh.congr ?_ (b k);show cq _ _ _=bD _ _ _ _ _ _;simp [cq,kR]
theorem F7 (d:q<1000000000000000000) (ns ms rest:List Int) (u:RdRes) (k:dh (.num (rest.headD (-1)) rest.tail ns ms (-1) (q:Int)) u):dh (.ahead (kR (45::A0 q)++rest) ns ms) u:=by obtain ⟨a,c⟩:=gG q;have b:=o0 (A0 q) a 0 ns ms rest (-1) u (o9 _ a (jJ q d));rw [show (A0 q).foldl gS 0=q from c] at b;refine dh.congr ?_ (b k);show cq _ _ _=bD _ _ _ _ _ _;simp [cq,kR]
theorem F8 (f:q<1000000000000000000) (ns ms rest:List Int) (u:RdRes) (k:dh (.num (rest.headD (-1)) rest.tail ns ms 1 (q:Int)) u):dh (.ahead (kR (A0 q)++rest) ns ms) u:=by
 obtain ⟨a,e⟩:=gG q;have b:=o0 (A0 q) a 0 ns ms rest 1 u (o9 _ a (jJ q f));rw [show (A0 q).foldl gS 0=q from e] at b;refine dh.congr ?_ (b k);show cq _ _ _=bD _ _ _ _ _ _;cases d:A0 q with
 | nil=>exact absurd d (xS q)
 | cons c l =>rw [d] at a;simp only [R4,U0] at a;have g:48<=c.toNat/\c.toNat<=57:=of_decide_eq_true a.1;simp only [cq,kR,G3,H1,H3,H5];rw [JZ9 aa,JZ9 aa];rfl
theorem Ad (h:wM w) (p:Nat) (i:p=0\/p=1\/p=2\/p=3) (ns ms rest:List Int) (q:RdRes) (k:∀ sign a,V9 (sign*a)=lq w p->dh (.num (rest.headD (-1)) rest.tail ns ms sign a) q):dh (.ahead (kR (cD w p)++rest) ns ms) q:=by
 by_cases f:p=3
 ·subst f;have g : -4294967296<=w.imm/\w.imm<=4294967296:=h.num 3;show dh (.ahead (kR (A5 w.imm)++rest) ns ms) q;by_cases c:w.imm<0;·rw [show A5 w.imm=45::A0 w.imm.natAbs by simp [A5,c]];refine F7 _ aa _ _ _ _ (k _ _ ?_);show _=w.imm;unfold V9;omega
  ·rw [show A5 w.imm=A0 w.imm.toNat by simp [A5,c]];refine F8 _ aa _ _ _ _ (k _ _ ?_);show _=w.imm;unfold V9;omega
 ·have b:p=0\/p=1\/p=2:=aa;have g:=h.reg p b;have e:cD w p=120::A0 (lq w p).toNat:=(by have d:cD w p=120::A5 (lq w p):=(by rcases b with rfl|rfl|rfl<;>rfl);rw [d];simp only [A5];rw [JZ9 aa]);rw [e];refine F6 _ aa _ _ _ _ (k _ _ ?_);unfold V9;omega
theorem IE (h:wM w) (ns:List Int):∀ (a:List Nat) (c:∀ p ∈ a,p=0\/p=1\/p=2\/p=3) (p:Nat) (f:p=0\/p=1\/p=2\/p=3) (d:List Int), dh (.ahead (kR (cD w p++cZ w a)) ns d) (some (ns,d++(p::a).map (lq w))):=by
 intro a;induction a with
 | nil =>intro _ p f d;rw [show kR (cD w p++cZ w [])=kR (cD w p)++[] by simp [kR,cZ]];exact Ad h p f _ _ _ _ λsign b e=>Mo ns d sign b _ e
 | cons g a k =>intro c p f d;rw [show kR (cD w p++cZ w (g::a))=kR (cD w p)++(32::kR (cD w g++cZ w a)) by simp [kR,cZ]];refine Ad h p f _ _ _ _ λsign b e=>F5 ns d _ sign b _ e _ ?_;have:=k (λx i=>c x (by simp [i])) g (c g bh) (d++[lq w p]);simpa using this
theorem Ae:∀ p ∈ bf A,p=0\/p=1\/p=2\/p=3:=by cases A<;>decide
theorem ue (h:wM w):dh (.name (kR (cE w)) []) (some (kR (dB w.op).data.toList,(bf (cO w.op).fm).map (lq w))):=by
 unfold cE;have a:=Ae (cO w.op).fm;generalize bf (cO w.op).fm=b at a;rw [show kR ((dB w.op).data.toList++cZ w b)=kR (dB w.op).data.toList++kR (cZ w b) by simp [kR]];refine ID _ (pS w.op) _ _ _ ?_;rw [L7];cases b with
 | nil =>refine .stop ?_;show fh _ _=_;simp [fh,cZ,kR]
 | cons p b =>have:=IE h (kR (dB w.op).data.toList) b (λx c=>a x (by simp [c])) p (a p bh) [];rw [L7] at this;refine dh.congr ?_ this;show fh _ _=cq _ _ _;simp [fh,cZ,kR]
theorem CC (a:e.data.toList[q]?=some V) (b:V.toNat<128):X5 e q=(V.toNat,1):=by
 have d:e.get! q=V:=by
  have bZ:q<e.data.size:=by
   by_cases h:q<e.data.size;·exact h
   ·rw [T8,T6 aa] at a;cases a
  rw [T8,Array.getElem?_eq_getElem bZ] at a;show e.data[q]! = V;rw [getElem!_pos e.data q bZ];exact Option.some.inj a
 unfold X5;simp only [Nat.add_zero,d];rw [JZ8 b]
theorem vM (h:∀ c ∈ e.data.toList,c.toNat<128):∀ (bound i:Nat) (a:Array U7),(X7 e bound i a).toList=a.toList++((e.data.toList.drop i).take bound).map λc=>X0 .i32 (c.toNat:Int):=by
 intro bound;induction bound with
 | zero=>intro i a;simp [X7]
 | succ n g =>
   intro i a;have j:e.data.toList.length=e.size:=(by rw [T7];rfl);unfold X7;split;·rename_i f;have b:i<e.data.toList.length:=aa;have s:e.data.toList[i]?=some e.data.toList[i]:=I4 b;have d:=CC e i _ s (h _ (L6 b));rw [d,g,Array.toList_push,List.drop_eq_getElem_cons b,K1,G3];simp
   ·rename_i f;rw [List.drop_eq_nil_of_le aa];simp
theorem uf (h:∀ c ∈ e.data.toList,c.toNat<128):jL e=kR e.data.toList:=by
 unfold jL;rw [vM e h];have a:e.data.toList.length=e.size:=by rw [T7];rfl
 rw [List.drop_zero,List.take_of_length_le aa];simp [kR,intOf]
theorem CD (h:V.toNat<128):X3 (V.toNat:Int)=⟨#[V]⟩:=by
 unfold X3;have a:X6 (V.toNat:Int):=by unfold X6;simp;omega
 simp only [a,if_true,Int.toNat_natCast];rw [JZ8 h];simp
theorem ug (h:∀ c ∈ Q,c.toNat<128):runesBytes (kR Q)=⟨Q.toArray⟩:=by
 have key:∀ (Q:List UInt8) (a:ByteArray),(∀ c ∈ Q,c.toNat<128)->(kR Q).foldl (λr n=>r++X3 n) a=a++⟨Q.toArray⟩:=by
  intro Q;induction Q with
  | nil=>intro a _;apply S2;simp [kR]
  | cons c Q e =>intro a b;simp only [kR,G3,M7];have:=e (a++X3 (c.toNat:Int)) (λx d=>b x (by simp [d]));simp only [kR] at this;rw [this,CD c (b c bh)];apply S2;apply T5.1;simp [S1]
 have:=key Q T0 h;unfold runesBytes;rw [this];apply S2;apply T5.1;simp
theorem uh:∀ c ∈ A0 q,c.toNat<128:=by intro c b;have a:=(gG q).1;rw [F3] at a;have d:48<=c.toNat/\c.toNat<=57:=of_decide_eq_true (a c b);omega
theorem Af:∀ c ∈ A5 d,c.toNat<128:=by
 intro c a;unfold A5 at a;split at a
 ·rcases H8.1 a with h|h;·rw [h];decide
  ·exact uh _ c h
 ·exact uh _ c a
theorem IF:∀ c ∈ cD n q,c.toNat<128:=by
 intro c a
 unfold cD at a
 split at a
 all_goals first
  | (rcases H8.1 a with h|h
     ·rw [h];decide
     ·exact Af _ c h)
  | exact Af _ c a
theorem IG (i:Ins):∀ (b:List Nat),∀ c ∈ cZ i b,c.toNat<128:=by
 intro b;induction b with
 | nil=>intro c a;simp [cZ] at a
 | cons p b d =>
   intro c a;rw [cZ] at a;rcases H8.1 a with h|h;·rw [h];decide
   ·rcases M5.1 h with h|h;·exact IF i p c h
    ·exact d c h
theorem Ah:∀ c ∈ (dB d).data.toList,c.toNat<128:=by
 have h:(H2 98).all (λk=>(az k).name.data.toList.all (λc=>decide (c.toNat<128))):=ab
 unfold dB;split;·rename_i a;have op:1<=d/\d<=98:=of_decide_eq_true a;have:=F3.1 h (d-1).toNat bb;intro c b;exact of_decide_eq_true (F3.1 this c b)
 ·simp
theorem IH:∀ c ∈ cE n,c.toNat<128:=by
 intro c a;unfold cE at a;rcases M5.1 a with h|h;·exact Ah _ c h
 ·exact IG n _ c h
def F9 (i:Nat):MapEntry:={key:=.string (az i).name,val:=.i ((i:Int)+1),born:=i}
def iw (k:Nat):Array MapEntry:=((H2 k).map F9).toArray
theorem Ga:Instr.sameNow .string (.string e) (F9 q).key=some ((az q).name.toList==e.toList):=by
 show some (e==(az q).name)=_;congr 1;have a:=MapKept.bytes_beq e (az q).name;by_cases h:e=(az q).name;·rw [a.2 h,<- h];simp
 ·have c:(e==(az q).name)=false:=by
   cases d:(e==(az q).name) with
   | false=>rfl
   | true=>exact absurd (a.1 d) h
  rw [c];symm;rw [beq_eq_false_iff_ne];intro b;rw [Go.ByteArray.toList_eq,Go.ByteArray.toList_eq] at b;exact h (S2 (T5.1 b.symm))
theorem rN:∀ n k m,∃ r,V7 .string (.string e) ((K0 k n).map F9) m=some r/\((b9 e n k=0/\r=none)\/(b9 e n k≠0/\∃ i,r=some (i,.i (b9 e n k)))):=by
 intro n;induction n with
 | zero=>intro k m;exact ⟨none,rfl,Or.inl ⟨rfl,rfl⟩⟩
 | succ n a =>
   intro k m;rw [List.range'_succ,G3];unfold V7;rw [Ga];unfold b9;cases h:((az k).name.toList==e.toList) with
   | true=>exact ⟨_,rfl,Or.inr ⟨bb,m,rfl⟩⟩
   | false=>exact a (k+1) (m+1)
theorem CF:iw (q+1)=(iw q).push {key:=.string (az q).name,val:=.i ((q:Int)+1),born:=q}:=by simp [iw,List.range_succ,F9]
theorem Gb:∀ k,k<98->b9 (az k).name k 0=0:=by
 have h:(H2 98).all (λk=>b9 (az k).name k 0==0):=ab
 intro k a;have:=F3.1 h k eo;exact eq_of_beq this
theorem jh (e:Bool) (s:ByteArray) (w:U1):(Instr.checkKey e 10000 9 (.string s)).run prog w=.ok () w:=by kernel_rfl
theorem vO (hk:T<98) (b:ByteArray) (a:b=(az T).name) (hb:c.heap[q]?=some (.map (iw T) T)): (V6 92 (.map (some q)) (.string b) (.i ((T:Int)+1))).run prog c=.ok () (T2 c q (.map (iw (T+1)) (T+1))):=by
 have e:(V8 9 (.string b) (iw T).toList).run prog c=.ok none c:=by obtain ⟨r,w,d⟩:=rN b T 0 0;rw [a,Gb T hk] at d;rw [d.resolve_right (λh=>h.1 rfl) |>.2] at w;refine V0 underlying9 ?_;rw [show (iw T).toList=(K0 0 T).map F9 from by rw [iw,I5]];exact w
 rw [CF T,<- a];simp [V6,U3 underlying92,U8 hb,jh,e,MapKept.run_setObj_map _ hb,Result.andThen,T2]
theorem II:(prog.info? 2).bind (·.zero)=some (.i 0):=by kernel_rfl
theorem oO (s:ByteArray) (hb:c.heap[q]?=some (.map (iw 98) T)): (V5 92 (.map (some q)) (.string s) true).run prog c=.ok (.tuple #[.i (b9 s 98 0),.bool (b9 s 98 0 != 0)]) c:=by
 obtain ⟨r,d,e⟩:=rN s 98 0 0;have w:(V8 9 (.string s) (iw 98).toList).run prog c=.ok r c:=by refine V0 underlying9 ?_;rw [show (iw 98).toList=(K0 0 98).map F9 from by rw [iw,I5]];exact d
 rcases e with ⟨a,rfl⟩|⟨a,i,rfl⟩;·rw [a];simp [V5,U3 underlying92,U8 hb,jh,w,tN II]
 ·have b:(b9 s 98 0 != 0):=eo;rw [b];simp [V5,U3 underlying92,U8 hb,jh,w]
def rO (w:U1) (bm:Nat):Prop:=∃ clock,w.heap[bm]?=some (.map (iw 98) clock)
theorem rO.keep (h:rO x b) (hb:Bw x s):rO s b:=by obtain ⟨c,h⟩:=h;exact ⟨c,dt h hb⟩
theorem Ai {w':U1} {val:U7} (H:Hid ((V6 92 (.map (some b)) o val).run prog s=.ok () w')) (d:j.guard=none) (m rest v:Operand) (e:j.op=.mapUpdate 92 m rest v) (hm:p.eval m=.map (some b)) (hk:p.eval rest=o) (hv:p.eval v=val) (f:x=s) (h:wpList prog k l a (p.put j.dst undef) w'):wpList prog k l (j::a) p x:=by subst f;refine U6 d λK c=>?_;unfold Oper.wp;simp [execOp,e,hm,hk,hv,H.out,Result.andThen];exact c _ _ h
theorem mC {V:U7} (H:Hid ((V5 92 (.map (some b)) o true).run prog x=.ok V x)) (d:j.guard=none) (bm y:Operand) (e:j.op=.lookup 92 bm y true) (hx:p.eval bm=.map (some b)) (f:p.eval y=o) (h:wpList prog k l a (p.put j.dst V) x):wpList prog k l (j::a) p x:=by
 refine U6 d λK c=>?_;have A:(execOp p.eval j).run prog x=.ok (.value V) x:=by simp [execOp,e,hx,f,H.out]
 unfold Oper.wp;rw [A,Oper.upon_value];exact c _ _ h
theorem vP:Calls prog 57 #[] c λe L=>∃ D,e=.returned (.map (some D))/\Hid (rO L D)/\Hid (c.heap.size<=D)/\Bw c L:=by
 have S:∀ c:U1,(Instr.makeMap 92 none).run prog c=.ok (.map (some c.heap.size)) (c.alloc (.map #[] 0)):=λc=>rfl;go_enter func57,ntmps57;go_wp2_with fail;refine (pE _).mono ?_;rintro e N ⟨T,rfl,R,F⟩;clear S;have I:Hid (N.heap[c.heap.size]?=some (.map (iw 0) 0)):=by have U:(c.alloc (.map #[] 0)).heap[c.heap.size]?=some (.map #[] 0):=U5 _ _;exact dt U F
 have s:Bw c N:=ae (bal _ _) F;clear F;go_wp2_with fail;go_loopw [6] (λi wr=>∃ k:Nat,k<=98/\i=.i k/\Hid (wr.heap[c.heap.size]?=some (.map (iw k) k))/\Bw c wr)
  (λi _=>98-(intOf i).toNat)
 case atStart=>exact ⟨0,aa,rfl,I,s⟩
 case round =>
  obtain ⟨k,X,rfl,M,w⟩:=hrel;clear s I;by_cases bZ:k<98
  ·obtain ⟨r,g⟩:∃ r,r=az k:=⟨_,rfl⟩;have J:Hid (r=az k):=g;have B:Hid (r.name=(az k).name):=(by rw [g];exact (rfl:_=_));clear g;obtain ⟨y,f,o,W,m⟩:=r;obtain ⟨z,K⟩:∃ z,z=Row.f3z ⟨y,f,o,W,m⟩:=⟨_,rfl⟩;have p:Hid (∀ c:U1,(Instr.index 149 T (.i (k:Int))).run prog c=.ok (.agg #[.string y,.string f.str,.u o,.u z,.u m]) c):=(by intro c;rw [kW R .i64 k bZ _ J c,K]);obtain ⟨E,t⟩:∃ E,E=f.str:=⟨_,rfl⟩;rw [<- t] at p;clear J K t;have q:Hid (y=(az k).name):=B.out;obtain ⟨l,j⟩:∃ l,l=wr.alloc (.cells #[.string y,.string E,.u o,.u z,.u m] 95):=⟨_,rfl⟩;have d:Bw wr l:=(by rw [j];exact bal _ _);have A:=dt M.out d;have b:=ae w d;have C:Hid _:=vO l c.heap.size k bZ y q.out A;have MF:Hid ((T2 l c.heap.size (.map (iw (k+1)) (k+1))).heap[c.heap.size]?=some (.map (iw (k+1)) (k+1))):=T3 A _;have H:Bw c (T2 l c.heap.size (.map (iw (k+1)) (k+1))):=
    ⟨b.os,b.tape,b.output,by simpa [T2] using b.size,λn V=>(T4 A _ aa).trans (b.block n V)⟩
   obtain ⟨O,u⟩:∃ O,O=T2 l c.heap.size (.map (iw (k+1)) (k+1)):=⟨_,rfl⟩;rw [<- u] at C MF H;rw [j] at C;clear u A d b M w j;go_wp2_with (first | refine jg p rfl _ _ rfl rfl rfl ?_ | refine Ai C rfl (.tmp 10) (.tmp 12) (.tmp 14) rfl rfl rfl rfl rfl ?_);go_roundw;case rel=>exact ⟨k+1,aa,by go_num,MF,H⟩
   case measure=>simp [intOf];omega
  ·have G:k=98:=aa;subst G;have Q:Hid (rO wr c.heap.size):=⟨98,M.out⟩;have P:Hid (c.heap.size<=c.heap.size):=Nat.le_refl _;clear M;go_wp2_with fail;go_ret;exact ⟨c.heap.size,rfl,Q,P,w⟩
def Tp (w:U1):Prop:=1<w.heap.size/\F0 prog w "internal/strconv.uint64pow10" .u64 Lib.pow10Tab
theorem Tp.below (h:Tp x) (hb:Bw x s):Tp s:=by
 refine ⟨Nat.lt_of_lt_of_le h.1 hb.size,?_⟩;have a:=h.2;have b:prog.globalNamed "internal/strconv.uint64pow10" = some 1:=ab
 unfold F0 World.var? at a ⊢;rw [b] at a ⊢;simp only [Option.bind_some] at a ⊢;rw [hb.block _ h.1];exact a
theorem ui (a:Array Obj):Bw x (Go.Sort.grow (x.drewN q) a):=by
 refine ⟨rfl,rfl,rfl,?_,λj b=>?_⟩;·simp [Go.Sort.grow,World.drewN]
 ·show (x.heap++a)[j]?=x.heap[j]?;rw [Array.getElem?_append_left b]
theorem om (a:(V4 .i64 d).wf) (w:U1) (c:Tp w): CB 28 #[.i d,.i 10] w (.string ⟨(A5 d).toArray⟩):=by refine (Tryz.strconv_FormatInt_10 d (iu a).1 (iu a).2 w c.2).mono ?_;rintro e b ⟨rfl,k,n,rfl⟩;exact ⟨rfl,ui k n⟩
theorem CG (a:IntKind) (T:TypeId) (zs:List Int) (w:U1):Sl a (w.alloc (.cells (zs.map (X0 a)).toArray T (0,0))) (some ⟨w.heap.size,0,none⟩) zs:=by
 intro i c;have b:(w.alloc (.cells (zs.map (X0 a)).toArray T (0,0))).heap[w.heap.size]?=some (.cells (zs.map (X0 a)).toArray T (0,0)):=U5 _ _;refine ⟨w.heap.size,0,rfl,?_,?_⟩
 ·by_cases d:w.heap.size<(w.alloc (.cells (zs.map (X0 a)).toArray T (0,0))).heap.size;·exact d
  ·rw [T6 aa] at b;cases b
 ·simp only [World.cell?,b];simp [R5,c]
def fM (f:Fm):List Int:=(bf f).map λ(p:Nat)=>(p:Int)
theorem rP:Calls prog 86 #[.string A.str] c λe b=>∃ a,e=.returned (.slice a (bf A).length (bf A).length)/\Hid (Sl .i64 b a (fM A))/\Bw c b:=by
 cases A<;>simp only [Fm.str]<;>go_enter func86,ntmps86<;>go_wp2<;>go_ret <;>
  first
   | exact ⟨_,rfl,CG .i64 _ [_,_,_,_] _,bal _ _⟩
   | exact ⟨_,rfl,CG .i64 _ [_,_,_] _,bal _ _⟩
   | exact ⟨_,rfl,CG .i64 _ [_,_] _,bal _ _⟩
   | exact ⟨_,rfl,(λi w=>absurd w (Nat.not_lt_zero i):Sl .i64 c _ (fM .x)),Below.refl _ _⟩
theorem pT:CE 86 #[.string ⟨#[]⟩] c (.slice none 0 0):=by go_enter func86,ntmps86;exact nc
theorem CH (h:IW n) (w:U1) (g:Tp w):CB 114 #[.agg #[.i n.op,.i n.rd,.i n.a,.i n.b,.i n.imm],.i 0] w (.string ⟨(cD n 0).toArray⟩):=by
 obtain ⟨T,b⟩:∃ T:ByteArray,T=⟨(A5 n.rd).toArray⟩:=⟨_,rfl⟩;have m:Hid (T=⟨(A5 n.rd).toArray⟩):=b;have j:Hid (∀ W:U1,Tp W->CB 28 #[.i n.rd,.i 10] W (.string T)):=λW o=>by rw [b];exact om n.rd h.2.1 W o
 have c:T.size<=21:=by rw [b];simpa [S5] using A6 n.rd (iu h.2.1).1 (iu h.2.1).2
 have p:¬ 9223372036854775807<1+T.size:=aa
 have l:Hid (Tp w):=g;clear b c g;go_enter func114,ntmps114;go_wp2_with fail;refine (j.out _ (l.out.below (bal _ _))).mono ?_;rintro e q ⟨rfl,d⟩;go_wp2_with fail;go_ret;refine ⟨?_,ae (bal _ _) d⟩;have:(⟨#[120]⟩:ByteArray)++T=⟨(cD n 0).toArray⟩:=by rw [m.out];apply S2;apply T5.1;simp [cD,S1]
 rw [<- this];rfl
theorem CI (h:IW n) (w:U1) (g:Tp w):CB 114 #[.agg #[.i n.op,.i n.rd,.i n.a,.i n.b,.i n.imm],.i 1] w (.string ⟨(cD n 1).toArray⟩):=by
 obtain ⟨T,b⟩:∃ T:ByteArray,T=⟨(A5 n.a).toArray⟩:=⟨_,rfl⟩;have m:Hid (T=⟨(A5 n.a).toArray⟩):=b;have j:Hid (∀ W:U1,Tp W->CB 28 #[.i n.a,.i 10] W (.string T)):=λW o=>by rw [b];exact om n.a h.2.2.1 W o
 have c:T.size<=21:=by rw [b];simpa [S5] using A6 n.a (iu h.2.2.1).1 (iu h.2.2.1).2
 have p:¬ 9223372036854775807<1+T.size:=aa
 have l:Hid (Tp w):=g;clear b c g;go_enter func114,ntmps114;go_wp2_with fail;refine (j.out _ (l.out.below (bal _ _))).mono ?_;rintro e q ⟨rfl,d⟩;go_wp2_with fail;go_ret;refine ⟨?_,ae (bal _ _) d⟩;have:(⟨#[120]⟩:ByteArray)++T=⟨(cD n 1).toArray⟩:=by rw [m.out];apply S2;apply T5.1;simp [cD,S1]
 rw [<- this];rfl
theorem CJ (h:IW n) (w:U1) (g:Tp w):CB 114 #[.agg #[.i n.op,.i n.rd,.i n.a,.i n.b,.i n.imm],.i 2] w (.string ⟨(cD n 2).toArray⟩):=by
 obtain ⟨T,b⟩:∃ T:ByteArray,T=⟨(A5 n.b).toArray⟩:=⟨_,rfl⟩;have m:Hid (T=⟨(A5 n.b).toArray⟩):=b;have j:Hid (∀ W:U1,Tp W->CB 28 #[.i n.b,.i 10] W (.string T)):=λW o=>by rw [b];exact om n.b h.2.2.2.1 W o
 have c:T.size<=21:=by rw [b];simpa [S5] using A6 n.b (iu h.2.2.2.1).1 (iu h.2.2.2.1).2
 have p:¬ 9223372036854775807<1+T.size:=aa
 have l:Hid (Tp w):=g;clear b c g;go_enter func114,ntmps114;go_wp2_with fail;refine (j.out _ (l.out.below (bal _ _))).mono ?_;rintro e q ⟨rfl,d⟩;go_wp2_with fail;go_ret;refine ⟨?_,ae (bal _ _) d⟩;have:(⟨#[120]⟩:ByteArray)++T=⟨(cD n 2).toArray⟩:=by rw [m.out];apply S2;apply T5.1;simp [cD,S1]
 rw [<- this];rfl
theorem CL (h:IW n) (w:U1) (g:Tp w):CB 114 #[.agg #[.i n.op,.i n.rd,.i n.a,.i n.b,.i n.imm],.i 3] w (.string ⟨(cD n 3).toArray⟩):=by
 obtain ⟨T,b⟩:∃ T:ByteArray,T=⟨(A5 n.imm).toArray⟩:=⟨_,rfl⟩;have m:Hid (T=⟨(A5 n.imm).toArray⟩):=b;have j:Hid (∀ W:U1,Tp W->CB 28 #[.i n.imm,.i 10] W (.string T)):=λW o=>by rw [b];exact om n.imm h.2.2.2.2 W o
 have c:T.size<=21:=by rw [b];simpa [S5] using A6 n.imm (iu h.2.2.2.2).1 (iu h.2.2.2.2).2
 have p:¬ 9223372036854775807<1+T.size:=aa
 have l:Hid (Tp w):=g;clear b c g;go_enter func114,ntmps114;go_wp2_with fail;refine (j.out _ (l.out.below (bal _ _))).mono ?_;rintro e q ⟨rfl,d⟩;go_wp2_with fail;go_ret;refine ⟨?_,ae (bal _ _) d⟩;have:T=⟨(cD n 3).toArray⟩:=by rw [m.out];rfl
 rw [<- this];rfl
theorem yi (h:IW n) (p:Nat) (b:p=0\/p=1\/p=2\/p=3) (w:U1) (a:Tp w):CB 114 #[.agg #[.i n.op,.i n.rd,.i n.a,.i n.b,.i n.imm],.i p] w (.string ⟨(cD n p).toArray⟩):=by
 rcases b with rfl|rfl|rfl|rfl;·exact CH n h w a
 ·exact CI n h w a
 ·exact CJ n h w a
 ·exact CL n h w a
theorem yj (h:IW n) (w:U1) (hT:Tp w):CB 89 #[.agg #[.i n.op,.i n.rd,.i n.a,.i n.b,.i n.imm]] w (.string ⟨(lT n).toArray⟩):=by
 have Z:Hid (∀ W:U1,_):=Mj n h;have HO:Hid ((j9 n).2->oN n.op):=pR;have HS:Hid (lT n=if (j9 n).2 then cE n else []):=rfl;obtain ⟨⟨x,t⟩,O⟩:∃ xt,xt=j9 n:=⟨_,rfl⟩;rw [<- O] at Z HO HS;clear O;have HP:Hid (Tp w):=hT;clear hT;have c:(w.alloc (.cells #[.i n.op,.i n.rd,.i n.a,.i n.b,.i n.imm] 61 (0,0))).heap[w.heap.size]?=some (.cells #[.i n.op,.i n.rd,.i n.a,.i n.b,.i n.imm] 61 (0,0)):=U5 _ _;have F:Hid (_=_):=c;clear c;go_enter func89,ntmps89;go_wp2_with fail;refine (Z.out _).mono ?_;rintro e w1 ⟨rfl,j⟩;cases t with
 | false =>go_wp2_with fail;go_ret;exact ⟨by rw [HS.out];rfl,ae (bal _ _) j⟩
 | true =>
   have q:Hid (_=_):=dt F.out j;obtain ⟨P,Q,R,U,V⟩:=sZ q.out;clear Q R U V;go_wp2_with fail;refine (xP n.op h.1 _).mono ?_;rintro e w2 ⟨rfl,u⟩;have r:Hid (_=_):=dt q.out u;have C:Hid (Bw w w2):=ae (ae (bal _ _) j) u;clear P;obtain ⟨P,Q,R,U,V⟩:=sZ r.out;clear Q R U V;obtain ⟨o,b⟩:∃ o,o=dB n.op:=⟨_,rfl⟩;have HN:Hid (o=dB n.op):=b;rw [<- b];clear b;go_wp2_with fail;refine (iq n.op h.1 _).mono ?_;rintro e w3 ⟨rfl,y⟩;have HF:Hid (∃ f,f=(cO n.op).fm/\fJ n.op=f.str):=⟨_,rfl,rM (HO.out trivial)⟩;obtain ⟨f,hf,J⟩:=HF.out;rw [J];have HFm:Hid (f=(cO n.op).fm):=hf;clear HF hf J;have G:Hid (_=_):=dt r.out y;have D:Hid (Bw w w3):=ae C.out y;clear j u y C r q F P Z HO;go_wp2_with fail;refine (rP f _).mono ?_;rintro e w4 ⟨a,rfl,HSl,z⟩;have H:Hid (_=_):=dt G.out z;have E:Hid (Bw w w4):=ae D.out z;obtain ⟨i,m⟩:∃ i,i=(bf f).length:=⟨_,rfl⟩;have HZ:Hid (i=(bf f).length):=m;have hF4:i<=4:=(by rw [m];exact nB f);rw [<- m];clear m z G D;go_wp2_with fail;go_loopw [23,5] (λkv sv wr=>∃ (k:Nat) (S:ByteArray),kv=.i k/\sv=.string S/\k<=i/\Hid (S.data.toList=o.data.toList++cZ n ((bf f).take k))/\Hid (Sl .i64 wr a (fM f))/\Hid (wr.heap[w.heap.size]?=some (.cells #[.i n.op,.i n.rd,.i n.a,.i n.b,.i n.imm] 61 (0,0)))/\Hid (Bw w wr))
    (λkv _ _=>i-(intOf kv).toNat)
   case atStart=>exact ⟨0,o,rfl,rfl,Nat.zero_le _,(by simp [cZ]:o.data.toList=o.data.toList++cZ n ((bf f).take 0)),HSl,H,E⟩
   case round =>
    obtain ⟨k,S,rfl,rfl,hk,Y,s,hR,X⟩:=hrel;obtain ⟨P,Q,R,U,V⟩:=sZ hR.out;clear H E;by_cases bZ:k<i
    ·have B:k<(bf f).length:=(by rw [<- HZ.out];exact bZ);obtain ⟨p,hp,L,N⟩:=t9 f k B;obtain ⟨g,off,rfl,hgl,A⟩:=s.out k (by simpa [fM] using B);have M:(fM f).getD k 0=(p:Int):=(by simp [fM,R5,hp]);rw [M] at A;have HSm:Hid (S.size<=200):=(by show S.size<=200;have e:S.size=S.data.toList.length:=(by rw [T7];rfl);have h1:=IA n.op;have h2:=Cy n h ((bf f).take k);have h3:=nB f;rw [e,Y.out,HN.out,K4];simp only [L4] at h2;omega);obtain ⟨T,d⟩:∃ T:ByteArray,T=⟨(cD n p).toArray⟩:=⟨_,rfl⟩;have HC:Hid (∀ W:U1,Tp W->CB 114 #[.agg #[.i n.op,.i n.rd,.i n.a,.i n.b,.i n.imm],.i p] W (.string T)):=λW hW=>by rw [d];exact yi n h p L W hW
     have hTl:T.size<=22:=(by rw [d];simpa [S5] using t8 n h p);have hg1:¬ 9223372036854775807<1+T.size:=aa;have hg2:¬ 9223372036854775807<S.size+(1+T.size):=(by have:=HSm.out;omega);have HN1:Hid ((S++(⟨#[32]⟩++T)).data.toList=o.data.toList++cZ n ((bf f).take (k+1))):=(by show (S++(⟨#[32]⟩++T)).data.toList=o.data.toList++cZ n ((bf f).take (k+1));rw [N,zZ,S1,S1,T9,T9,Y.out,d];simp);clear d hTl N M L hp B hgl;go_wp2_with fail;refine (HC.out _ (HP.out.below X.out)).mono ?_;rintro e w5 ⟨rfl,l⟩;have hR5:Hid (_=_):=dt hR.out l;have I:Hid (Sl .i64 w5 (some ⟨g,off,none⟩) (fM f)):=s.out.below l;have hB5:Hid (Bw w w5):=ae X.out l;clear l hR X HC Y s;go_wp2_with fail;go_roundw;case rel=>exact ⟨k+1,_,by go_num,rfl,aa,HN1,I,hR5,hB5⟩
     case measure=>simp [intOf];omega
    ·have K:k=(bf f).length:=(by rw [<- HZ.out];omega);have HN2:Hid (S=⟨(lT n).toArray⟩):=(by apply S2;apply T5.1;rw [Y.out,HS.out,JZ8 trivial,K,List.take_length,HFm.out,HN.out];rfl);clear K;go_wp2_with fail;go_ret;exact ⟨by rw [<- HN2.out];rfl,X.out⟩
def Aj (i:Ins):Array Value:=#[.i i.op,.i i.rd,.i i.a,.i i.b,.i i.imm]
theorem Ee:b9 ⟨#[]⟩ 98 0=0:=by kernel_rfl
