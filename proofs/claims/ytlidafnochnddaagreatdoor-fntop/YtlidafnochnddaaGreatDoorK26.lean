/- Own lemmas. -/
import Derived.Test.YtlidafnochnddaaGreatDoorAut
import Derived.Test.YtlidafnochnddaaGreatDoorK25
set_option maxRecDepth 100000
set_option maxHeartbeats 6400000
namespace Go.Proofs.YtlidafnochnddaaGreatDoor
open Go.RowKit Tryz
open IntKind renaming u64->Uz
open Below renaming refl->A0
open ChangeMaps renaming setBlock->U6,heap_setBlock_other->U7,heap_setBlock_same->U8
open Go renaming heap_alloc_new->G3,World->H1,Calls->H2,setRow_heap->H3,bodyPost->H5,Value->H8,setRow_other->I4,TypeId->I5,Next->K0,run_underlying->K1,Ending->K4
open Instr renaming mapUpdate->X3,storeAt->X5,findNow->X6,findKey->X7,lookup->X8
open IntKind renaming wrap_u64->V6
open Lib renaming decDigits->T3,parseIntB->T4,itoa->T5,countB->T6,decDigits_length->T7,splitB->T8,indexB->T9,nDigits_le20->U0,trimSuffix->U1,add_plain->U2
open List renaming mem_cons->L4,mem_singleton->L5,length_append->L6,not_mem_nil->L7,length_cons->M5,mem_cons_of_mem->M7,mem_append->N1,getD_eq_getElem?_getD->P2,getElem?_eq_getElem->R4,take_of_length_le->R5,drop_eq_nil_of_le->S1,mem_cons_self->S2,replicate->S5,drop_drop->T0,length->T2
open MapKept renaming run_getObj_map->V9,run_findKey->X0
open Nat renaming le_refl->A5,add_assoc->A6,lt_or_ge->F0,add_comm->F3
open Value renaming string->V0,int->V4,agg->V5
open World renaming size_alloc->V7,cell?->V8
open _root_.ByteArray renaming size->U3,ext->U5
set_option linter.unusedVariables false
variable {W M V:H1} {L w a g:Nat} {n x:List Int} {A:List UInt8} {k l:MV} {b:List (Nat × Obj)} {s:MA} {R m:H8} {B:H1->Prop} {T:ByteArray} {e:I5} {f:Array H8} {j:Option Addr} {t:Int} {N:Array MapEntry} (d:MV) (C:MA) (O P:ByteArray) (o:Nat) (p:H1) (q r:Int) (y:Nat)
theorem N9:∀ q ∈ aU au zeroA,q.v.ownBlock≠some o:=λq a e=>by simp only [aU,L4,L7,or_false] at a;rcases a with rfl | rfl | rfl | rfl | rfl<;>cases e
theorem QM:(do pure (.value (<- Instr.build 128 #[(0,.agg (aJ d C))])):Sem K0).run prog p=.ok (.value (.agg (pcs d C 0))) p:=Ef (r:=none) (λ_ h=>hh) _ _ [] ab (λ_ h=>hh)
structure Tj (w:H1) (g:Nat) (l:List (Int × Int)) (V:MV × Nat) (j:Nat) (x:MV × MA × Nat × Nat) (W:H1):Prop where
 ej:x.2.2.2+j=l.length
 pp:Pp w g x.1 x.2.1 x.2.2.1 W
 gw:Gw x.1
 sm:x.2.2.1<=300*x.2.2.2
 st:V=((me (l.drop x.2.2.2) x.1).1,x.2.2.1+(me (l.drop x.2.2.2) x.1).2)
theorem zD (l:List (Int × Int)) (a:Option Addr) (c:Nat) (w:H1) (hl:iW d) (hs:D7 w d C) (hf:DD d) (hT:lY w) (he:Es w a l) (hw:∀ i,(l.getD i (0,0)).2<=9223372036854775807):H2 prog 51 #[.agg (aJ d C),.slice a l.length c] w (mQ w ((jD d l).1,((jD d l).2:Int))):=by
 have HM:=λW (hb:Bw w W)=>dN d C W hl (hs.below hb) hf.mw.cs
 unfold jD
 refine cF (S:=Bs w [(aJ d C,36),(aJ au zeroA,36)]) (args:=[.agg (aJ d C),.slice a l.length c]) [(aJ d C,36),(aJ au zeroA,36)] func51 ?_
 cases ok:eW d with
 | false =>
   rw [ok] at HM
   rw [JZ9 bh]
   refine ak Bs.eng {cv:=[(10,fu HM)]} 40 (Bs.start _ _) λZ D=>?_
   exact g6 (R:=[]) trivial {} 40 (D.1 1 _ rfl) rfl (cw _ _) underlying36 ⟨zeroA,rfl,fH _ _ _,aN D.2 aa _⟩
 | true =>
   rw [ok] at HM
   cases dl:decide ((100:Int)<(l.length:Int)) with
   | true =>
     have:=of_decide_eq_true dl
     rw [JZ9 bb]
     refine ak Bs.eng {cv:=[(10,fu HM)],eq:=[(15,aD dl)]} 40 (Bs.start _ _) λZ D=>?_
     exact g6 (R:=[]) trivial {} 40 (D.1 1 _ rfl) rfl (cw _ _) underlying36 ⟨zeroA,rfl,fH _ _ _,aN D.2 aa _⟩
   | false =>
     have hn:=of_decide_eq_false dl
     rw [JZ8 bb]
     have hg:Gw d:=⟨hf.gd ok,hf.ud⟩
     have fin:∀ (S:H1->Prop) (g:Nat) (A:MA) (W:H1),Pp w g au zeroA 0 W->bi (w.heap.size+2) W.heap.size W (aU d A)->(∀ q ∈ aU d A,q.v.ownBlock≠some g)->Wg prog S (H5 prog Tryz.f51 (mQ w ((me l d).1,((me l d).2:Int)))) Tryz.f51.ntmps [.code (cQ 3 (bI Tryz.f51))] [(1,.slice a l.length c,0),(4,.p (w.heap.size+1) 0,0),(6,.p g 0,1)] (W.setRow g (pcs d A 0)):=by
      intro S g A W hz f0 n0
      obtain ⟨V,f⟩:∃ V,V=me l d:=⟨_,rfl⟩
      have h0:Tj w g l V l.length (d,A,0,0) (W.setRow g (pcs d A 0)):=⟨bh,hz.put f0 n0 0,hg,bh,by rw [f];simp⟩
      rw [<- f]
      generalize W.setRow g (pcs d A 0)=W0 at h0 ⊢
      refine aO (R:=[]) trivial {} 20 ?_
      refine kf (λx:MV × MA × Nat × Nat=>[(4,.p (w.heap.size+1) 0,0),(6,.p g 0,1),(24,.slice a l.length c,0),(25,.i l.length,0),(26,.i (x.2.2.2:Nat),0)]) (Tj w g l V) l.length (d,A,0,0) ab ab h0 ?_
      clear h0 f hz f0 n0
      rintro j ⟨M1,G,s,i⟩ W h T hT2
      have ej:=h.ej
      have gw:=h.gw
      have sm:=h.sm
      have E:=h.pp
      dsimp only at ej gw sm E ⊢
      cases j with
      | zero =>
        have q:decide ((i:Int)<(l.length:Int))=false:=by rw [JZ7];omega
        have Y:=h.st
        dsimp only at Y
        rw [List.drop_of_length_le aa] at Y
        rw [Y]
        refine aO (R:=[]) trivial {eq:=[(27,aD q)]} 7 ?_
        refine aH [.code (cQ 4 (bI Tryz.f51))] [(4,.p (w.heap.size+1) 0,0),(6,.p g 0,1)] ?_
        refine aO (R:=[]) trivial {} 1 ?_
        have hz:Ez (λV=>V.heap[g]?=some (.cells (pcs M1 G s) 128 (0,0))) [⟨g,pcs M1 G s,[]⟩]:=⟨λV f r hr=>by rw [L5.1 hr];exact ⟨_,_,f⟩,λV f=>f⟩
        refine bO (λV=>V.heap[g]?=some (.cells (pcs M1 G s) 128 (0,0))) ?_
        have hgo:w.heap.size+1≠g:=by have:=E.lo;omega
        refine An hz E.row {} 40 (λV=>V.setRow (w.heap.size+1) (aJ M1 G)) (λV f=>aF (t:=36) (ty:=36) (old:=aJ au zeroA) (by obtain ⟨M,rfl⟩:=f;exact E.out) ab rfl (cw _ _)) λV f=>⟨(I4 _ _ _ _ (Ne.symm hgo)).trans (by obtain ⟨M,rfl⟩:=f;exact E.row),?_⟩
        refine yu hz ((I4 _ _ _ _ (Ne.symm hgo)).trans (by obtain ⟨M,rfl⟩:=f;exact E.row)) {} 40 λV2 a I hk=>⟨.tuple #[.agg (aJ M1 G),.i s],yv hk rfl ab ab (t:=36) (by obtain ⟨M,rfl⟩:=I;obtain ⟨d2,rfl⟩:=f;exact H3 _ _ _ _ _ _ E.out) underlying36 rfl ab,G,rfl,?_,I.below (aN (f.below E.bl) aa _)⟩
        have f2:bi w.heap.size (V.setRow (w.heap.size+1) (aJ M1 G)).heap.size (V.setRow (w.heap.size+1) (aJ M1 G)) (aU M1 G):=by
         rw [setRow_size]
         refine ((f.fam E.fam).mono λk D v m=>I4 _ _ _ _ aa).low aa ?_
         rw [f.size]
         exact A5 _
        rw [I.size]
        exact I.fam f2
      | succ j =>
        have q:decide ((i:Int)<(l.length:Int)):=by rw [JZ6];omega
        obtain ⟨b,o,ha,D,v,m⟩:=he.below E.bl i aa
        have X:=hw i
        obtain ⟨k,n,hk⟩:∃ k n,l.getD i (0,0)=(k,n):=⟨_,_,rfl⟩
        rw [hk] at v m X
        dsimp only at v m X
        refine eU (R:=[]) trivial {eq:=[(27,aD q)],ov:=[(28,SH l.length c i ha aa underlying83 ab),(29,Ts b (o+i*2) (.i k) (.i n) underlying82 rfl ab λV f=>by subst f;exact ⟨v,m⟩)]} 60 2 (dV (T:=82) (z:=.agg #[.i 0,.i 0]) ab W) ?_
        refine du (R:=[]) trivial {} 20 (aF (g:=W.heap.size) (t:=82) (ty:=82) (old:=#[.i 0,.i 0]) (cells:=#[.i k,.i n]) (G3 _ _) ab rfl ex) ?_
        have e3:(V5 #[.i 0,.i 0]).cells=#[.i 0,.i 0]:=rfl
        rw [e3]
        have b2:=oF W #[.i 0,.i 0] #[.i k,.i n] 82
        have r2:((W.alloc (.cells #[.i 0,.i 0] 82)).setRow W.heap.size #[.i k,.i n]).heap[W.heap.size]?=some (.cells #[.i k,.i n] 82 (0,0)):=H3 _ _ _ _ _ _ (G3 _ _)
        have p2:=E.below b2
        generalize (W.alloc (.cells #[.i 0,.i 0] 82)).setRow W.heap.size #[.i k,.i n]=H at b2 r2 p2 ⊢
        refine aE (R:=[⟨g,pcs M1 G s,[]⟩,⟨W.heap.size,#[.i k,.i n],[]⟩]) ⟨⟨_,_,p2.row⟩,⟨_,_,r2⟩,trivial⟩ {} 60 (QL p2 gw hT k n X aa) ?_
        rintro e y ⟨rfl,C3,p3⟩
        refine ⟨_,0,rfl,?_⟩
        have hw:IntKind.i64.wrap (((i:Nat):Int)+1)=((i+1:Nat):Int):=by rw [IntKind.wrap_i64];omega
        have hd:=RR M1 k n
        have Y:=h.st
        dsimp only at Y
        rw [NY aa,hk] at Y
        exact eE (R:=[]) trivial {eq:=[(32,ed .i64 hw)]} 60 λb hb=>hT2 b y j (_,C3,_,i+1) aa (hb.less ab) ⟨ca,p3,OS gw k n,ca,by rw [Y];dsimp only;rw [A6]⟩
     refine ak Bs.eng {cv:=[(10,fu HM)],eq:=[(15,aD dl)]} 14 (Bs.start _ _) λW0 h0=>?_
     refine aH [.code (cQ 2 (bI Tryz.f51))] [(1,.slice a l.length c,0),(2,.p w.heap.size 0,1),(4,.p (w.heap.size+1) 0,2)] ?_
     refine aO (R:=[]) trivial {} 1 ?_
     refine nK 1 ?_
     have hcl:=λW (h:Bs w [(aJ d C,36),(aJ au zeroA,36)] W)=>ik C.ar d.ram.length C.cr d.ram W rfl hl.ram (hs.below h.2).ram
     have U:=λ(L:Option Addr) (N B:Nat) W (h:Bs w [(aJ d C,36),(aJ au zeroA,36)] W) (hR:bi B W.heap.size W [aI L d.ram.length N d.ram]) (hB:B<=W.heap.size)=>l6 d C d.ram L d.ram.length N B W hl (hs.below h.2) hR hB rfl
     have p:=h0.below (A0 W0.heap.size W0).drew
     have s0:=p.two
     have zp:(V5 (pcs au zeroA 0)).cells=pcs au zeroA 0:=rfl
     have al:∀ W:H1,Bw W (W.alloc (.cells (pcs au zeroA 0) 128)):=λW=>bal _ _
     have u:∀ W:H1,(W.alloc (.cells (pcs au zeroA 0) 128)).heap.size=W.heap.size+1:=λW=>V7 _ _
     have F:∀ W:H1,_:=λ(W:H1)=>dV (P:=prog) (T:=128) (z:=.agg (pcs au zeroA 0)) ab W
     rw [zp] at F
     have pz:∀ (W W':H1),Bs w [(aJ d C,36),(aJ au zeroA,36)] W->Below (W.alloc (.cells (pcs au zeroA 0) 128)).heap.size (W.alloc (.cells (pcs au zeroA 0) 128)) W'->Pp w W.heap.size au zeroA 0 W':=λW W' h k=>by
      have J:=ae (al W) k
      exact ⟨aA k (G3 _ _),fH _ _ _,N9 _,h.two,aA J (h.1 1 _ rfl),ae h.2 J⟩
     have K:∀ (g:Nat) (A:MA) (W:H1),Pp w g au zeroA 0 W->_:=λg A W z=>aF (P:=prog) (g:=g) (t:=128) (ty:=128) (old:=pcs au zeroA 0) (cells:=pcs d A 0) z.row ab rfl (by simp [pcs,Value.oneCell'])
     generalize W0.drew=Z at p s0 ⊢
     refine ak (iJ p) {} 3 rfl ?_
     rintro _ rfl
     rename_i Z
     refine mM (i:=3) (j:=6) ?_ ?_
     ·refine mN (hcl _ p) ?_
      rintro e H ⟨L,N,rfl,o2,J⟩
      have v:=p.below J
      have z2:=J.size
      have f2:=oH o2 z2
      refine ⟨_,0,rfl,v,?_⟩
      refine mM (i:=4) (j:=6) ?_ ?_
      ·refine mN (U L N _ H v f2 z2) ?_
       rintro e y ⟨A,_,_,rfl,O,n3,k3⟩
       have m:=v.below k3
       have z3:=k3.size
       have Q:=m.below (al y)
       have z:=pz y _ m (A0 _ _)
       have f4:bi (w.heap.size+2) (y.alloc (.cells (pcs au zeroA 0) 128)).heap.size (y.alloc (.cells (pcs au zeroA 0) 128)) (aU d A):=(O.below (al y)).low s0 (by rw [u];omega)
       have n4:∀ q ∈ aU d A,q.v.ownBlock≠some y.heap.size:=λq hq e=>by have:=O.hi q hq _ e;omega
       refine ⟨_,0,rfl,m,?_⟩
       refine mM (i:=5) (j:=6) ?_ ?_
       ·refine nU 0 (QM d A y) m ?_
        refine eH 0 (F y) (hS:=λ_=>Q) ?_
        refine ak (iJ Q) {} 1 rfl ?_
        rintro _ rfl
        refine cP (K _ A _ z) ?_
        refine aO (R:=[]) trivial {} 1 ?_
        exact aH _ _ (fin _ _ A _ z f4 n4)
       ·refine nU 0 (F y) Q ?_
        refine ak (iJ Q) {} 2 rfl ?_
        rintro _ rfl
        refine cP (K _ A _ z) ?_
        refine aO (R:=[]) trivial {} 1 ?_
        exact aH _ _ (fin _ _ A _ z f4 n4)
      ·have m:=v.below (al H)
       refine nU 0 (F H) m ?_
       have O:=(f2.below (al H)).low (A5 _) (show H.heap.size<=(H.alloc (.cells (pcs au zeroA 0) 128)).heap.size by rw [u];omega)
       refine eI (U L N _ _ m O (by rw [u];omega)) ?_
       rintro e W4 ⟨A,_,_,rfl,f4,n4,k4⟩
       have Q:=m.below k4
       have z:=pz H _ v k4
       refine ⟨_,0,rfl,λ_=>Q,?_⟩
       refine ak (iJ Q) {} 2 rfl ?_
       rintro _ rfl
       refine cP (K _ A _ z) ?_
       refine aO (R:=[]) trivial {} 1 ?_
       exact aH _ _ (fin _ _ A _ z (f4.low s0 (A5 _)) λq hq e=>by
        rcases n4 q hq _ e with n|n
        ·rw [u] at n;omega
        ·have:=(o2.lt _ n).2;omega)
     ·have D:=p.below (al Z)
      refine nU 0 (F Z) D ?_
      refine eI (hcl _ D) ?_
      rintro e H ⟨L,N,rfl,o2,J⟩
      have v:=D.below J
      have z2:=J.size
      have f2:=oH o2 z2
      refine ⟨_,0,rfl,λ_=>v,?_⟩
      refine eI (U L N _ H v f2 z2) ?_
      rintro e y ⟨A,_,_,rfl,O,n3,k3⟩
      have m:=v.below k3
      have z:=pz Z _ p (ae J k3)
      rw [u] at z2
      refine ⟨_,0,rfl,λ_=>m,?_⟩
      refine ak (iJ m) {} 2 rfl ?_
      rintro _ rfl
      refine cP (K _ A _ z) ?_
      refine aO (R:=[]) trivial {} 1 ?_
      exact aH _ _ (fin _ _ A _ z (O.low (by rw [u];omega) (A5 _)) λq hq e=>by
       have:=((O.own q hq).lt _ e).1
       rw [u] at this
       omega)
theorem BY {P:Program} {o:Nat} {ty:I5} {cells:Array H8} (b:W.heap[L]?=some (.cells f e (0,0))) (c:(P.info? ty).map (·.size)=some cells.size) (d:o+cells.size<=f.size) (a:cells.all (·.oneCell')): (do X5 ty (.p L o) (.agg cells);pure Next.skip:Sem K0).run P W=.ok .skip (W.setRow L (f.toList.take o++cells.toList++f.toList.drop (o+cells.size)).toArray):=by have:=jO (P:=P) W L o e ty f cells b c d a;simp [X5,Instr.sureAddr,this,Result.andThen]
theorem Oa (h:W.ownsRow L 32 1 (.slice j w a) w (n.map (V4 .u64))):Sl .u64 W j n:=λi b=>by
 have f:n.length=w:=by have:=h.1;simpa using this
 obtain ⟨k,cap,e,d⟩:=iS h aa;cases e;have:=h.cells (g:=k) rfl i (.u (n.getD i 0)) (by simp [b]);exact ⟨k,0,rfl,(World.ownsRow.lt h k rfl).2,by rw [<- U2];exact this⟩
theorem Lt (h:W.ownsRow L 5 1 (.slice j w a) w (n.map (V4 .u8))):Sl .u8 W j n:=λi b=>by
 have f:n.length=w:=by have:=h.1;simpa using this
 obtain ⟨k,cap,e,d⟩:=iS h aa;cases e;have:=h.cells (g:=k) rfl i (.int .u8 (n.getD i 0)) (by simp [b]);exact ⟨k,0,rfl,(World.ownsRow.lt h k rfl).2,by rw [<- U2];exact this⟩
theorem Ob (ws:List Int) (size:Int):((iC ws size).getD []).length<=65536:=by
 cases h:iC ws size with
 | none=>simp
 | some c =>
   unfold iC at h;split at h;·rename_i a;have b:=of_decide_eq_true a;have:=Dj ws 0 _ _ h;simp at this ⊢;omega
   ·cases h
theorem xE {av:H8} (h:Bn M L b (iL m av k s) m n av A k s W) (E:∀ x ∈ n,0<=x/\x<=18446744073709551615) (hl:n.length<=1000): H2 prog 11 #[.p L 0] W λe q=>e=.returned (.tuple #[])/\∃ C,Bn M L b (iL (.slice none 0 0) av (qD ((iC n 8192).getD [])) C) (.slice none 0 0) [] av A (qD ((iC n 8192).getD [])) C q:=by
 obtain ⟨a,c,rfl⟩:=kl h.fw;obtain ⟨w0,l⟩:∃ r,r=(iC n 8192).getD []:=⟨_,rfl⟩;rw [<- l];refine bE (args:=[.p L 0]) (λ_=>True) func11 ?_;refine aY 0 1 ?_;refine aE (R:=[⟨L,iL (.slice a n.length c) av k s,[]⟩]) ⟨⟨_,_,h.row⟩,trivial⟩ {} 40 (wg a n.length c n 8192 W rfl aa (Oa h.fw) E ab) ?_;rintro e an ⟨v,rfl,f⟩;rw [<- l] at f;obtain ⟨u,y,rfl⟩:=kl f.1;refine ⟨_,0,rfl,?_⟩;have p:=h.below f.2;have D:w0.length<=1048576:=by have:=Ob n 8192;rw [<- l] at this;omega
 refine aE (R:=[⟨L,iL (.slice a n.length c) av k s,[]⟩]) ⟨⟨_,_,p.row⟩,trivial⟩ {} 60 (pu u w0.length y w0 an rfl D (Lt f.1)) ?_;rintro e t ⟨C,rfl,wv,w⟩;obtain ⟨N,B⟩:∃ N,N=qD w0:=⟨_,rfl⟩;rw [<- B] at wv ⊢;refine ⟨_,0,rfl,?_⟩;have g:=p.mach wv w;refine du (R:=[⟨L,iL (.slice a n.length c) av k s,[]⟩]) ⟨⟨_,_,g.row⟩,trivial⟩ {} 60 (BY (o:=1) (ty:=36) (cells:=aJ N C) g.row ab (by show 1+14<=16;decide) (cw _ _)) ?_;have j:=g.setr (iL (.slice a n.length c) av N C);have z:((iL (.slice a n.length c) av k s).toList.take 1++(aJ N C).toList++(iL (.slice a n.length c) av k s).toList.drop (1+(aJ N C).size)).toArray=iL (.slice a n.length c) av N C:=rfl;rw [z];generalize t.setRow L (iL (.slice a n.length c) av N C)=F at j ⊢;refine du (R:=[⟨L,iL (.slice a n.length c) av N C,[]⟩]) ⟨⟨_,_,j.row⟩,trivial⟩ {} 60 (jk (i:=0) (T:=31) (v:=.slice none 0 0) j.row (show 0<16 by decide) ab rfl) ?_;have d:=j.setc 0 (.slice none 0 0) (cs':=iL (.slice none 0 0) av N C) rfl;refine dq {} 40 ab ab rfl ⟨rfl,C,?_⟩;exact ⟨d.row,d.gb,d.bel,⟨rfl,.inl ⟨rfl,rfl⟩⟩,d.fa,d.fm,d.fg,(λws e=>ki),d.ga,d.lr⟩
theorem QN:(prog.info? 82).map (λi=>(i.zero,i.size,i.bytes))=some (some (.agg #[.i 0,.i 0]),2,16):=by kernel_rfl
theorem RY:(do pure (.value (<- Instr.buildSlice 83 1 #[(0,.agg #[.i q,.i r])])):Sem K0).run prog p=.ok (.value (.slice (some ⟨p.heap.size,0,none⟩) 1 1)) (p.alloc (.cells #[.i q,.i r] 82)):=by obtain ⟨b,a,e⟩:=Option.map_eq_some_iff.1 QN;simp only [Prod.mk.injEq] at e;have:=run_buildSlice (P:=prog) p 83 82 1 #[(0,.agg #[.i q,.i r])] #[.i q,.i r] b (.agg #[.i 0,.i 0]) underlying83 a e.1 ix ix (by rw [e.2.1];kernel_rfl);simp [this]
theorem QO:Es (p.alloc (.cells #[.i q,.i r] 82)) (some ⟨p.heap.size,0,none⟩) [(q,r)]:=λi a=>by
 have a:i=0:=by simp at a;omega
 subst a;have b:(p.alloc (.cells #[.i q,.i r] 82 (0,0))).heap[p.heap.size]?=some (.cells #[.i q,.i r] 82 (0,0)):=G3 _ _;exact ⟨_,_,rfl,by rw [V7];omega,by simp only [V8,b];rfl,by simp only [V8,b];rfl⟩
theorem Lu {av:H8} {ws:MA} (h:Bn M L b (iL m av k ws) m n av A k ws W) (an wv:Int) (hl:iW k) (w:DD k) (v:lY W) (hn:wv<=9223372036854775807): H2 prog 29 #[.p L 0,.i an,.i wv] W λe q=>e=.returned (.i ((jD k [(an,wv)]).2:Int))/\∃ C,Bn M L b (iL m av (jD k [(an,wv)]).1 C) m n av A (jD k [(an,wv)]).1 C q:=by obtain ⟨V,l⟩:∃ V,V=jD k [(an,wv)]:=⟨_,rfl⟩;rw [<- l];refine bE (args:=[.p L 0,.i an,.i wv]) (λ_=>True) func29 ?_;refine aY 0 1 ?_;refine eU (R:=[⟨L,iL m av k ws,[]⟩]) ⟨⟨_,_,h.row⟩,trivial⟩ {} 60 17 (RY W an wv) ?_;have d:=(A0 W.heap.size W).alloc (A5 _) (.cells #[.i an,.i wv] 82 (0,0));have g:=QO W an wv;have c:=h.below d;have w0:=v.below d;generalize W.alloc (.cells #[.i an,.i wv] 82 (0,0))=r at d g c w0 ⊢;refine aE (R:=[⟨L,iL m av k ws,[]⟩]) ⟨⟨_,_,c.row⟩,trivial⟩ {} 60 (zD k ws [(an,wv)] (some ⟨W.heap.size,0,none⟩) 1 r hl c.fm.msl w w0 g (λi=>by cases i with | zero=>exact hn | succ i=>exact (by decide:(0:Int)<=9223372036854775807))) ?_;rintro e s ⟨C,rfl,f,t⟩;rw [<- l] at f ⊢;dsimp only at f ⊢;obtain ⟨N,y⟩:=V;refine ⟨_,0,rfl,?_⟩;have j:=c.mach f t;refine du (R:=[⟨L,iL m av k ws,[]⟩]) ⟨⟨_,_,j.row⟩,trivial⟩ {} 60 (BY (o:=1) (ty:=36) (cells:=aJ N C) j.row ab (by show 1+14<=16;decide) (cw _ _)) ?_;have p:=j.setr (iL m av N C);have u:((iL m av k ws).toList.take 1++(aJ N C).toList++(iL m av k ws).toList.drop (1+(aJ N C).size)).toArray=iL m av N C:=rfl;rw [u];generalize s.setRow L (iL m av N C)=x at p ⊢;exact dD (R:=[]) trivial {} 60 ⟨rfl,C,p⟩
theorem Oc {av:H8} (J:BareDoes) (h:Bn M L b (iL m av k s) m n av A k s W) (x:ByteArray) (hx:x.size<=1048576) (I:Ins) (Y:∀ i t,PR x.data.toList i t->i=I/\t) (w:(Lit.int .i64 I.op).wf) (Z:Tp W) (hn:n.length<=900): H2 prog 14 #[.p L 0,.string x] W λe K=>e=.returned (.tuple #[])/\∃ p,Bn M L b (iL p av k s) p (n++[(tX I).1]) av A k s K:=by
 obtain ⟨a,c,rfl⟩:=kl h.fw;refine bE (args:=[.p L 0,.string x]) (λ_=>True) func14 ?_;refine aY 0 1 ?_;refine aE (R:=[]) trivial {} 60 (vU x hx W Z) ?_;rintro e w0 ⟨i,t,rfl,hp,O⟩;obtain ⟨rfl,rfl⟩:=Y i t hp;have p1:=h.below O;obtain ⟨j,g,ws,l,f⟩:=i;refine ⟨_,0,rfl,?_⟩;refine eU (R:=[]) trivial {} 60 2 (dV (T:=61) (z:=.agg #[.i 0,.i 0,.i 0,.i 0,.i 0]) ab w0) ?_;refine du (R:=[]) trivial {} 20 (aF (g:=w0.heap.size) (t:=61) (ty:=61) (old:=#[.i 0,.i 0,.i 0,.i 0,.i 0]) (cells:=#[.i j,.i g,.i ws,.i l,.i f]) (G3 _ _) ab rfl ab) ?_;have G:=oF w0 #[.i 0,.i 0,.i 0,.i 0,.i 0] #[.i j,.i g,.i ws,.i l,.i f] 61;have H:((w0.alloc (.cells #[.i 0,.i 0,.i 0,.i 0,.i 0] 61)).setRow w0.heap.size #[.i j,.i g,.i ws,.i l,.i f]).heap[w0.heap.size]?=some (.cells #[.i j,.i g,.i ws,.i l,.i f] 61 (0,0)):=H3 _ _ _ _ _ _ (G3 _ _);have C:=p1.below G;have S:(V5 #[.i 0,.i 0,.i 0,.i 0,.i 0]).cells=#[.i 0,.i 0,.i 0,.i 0,.i 0]:=rfl;rw [S];generalize (w0.alloc (.cells #[.i 0,.i 0,.i 0,.i 0,.i 0] 61)).setRow w0.heap.size #[.i j,.i g,.i ws,.i l,.i f]=N at G H C ⊢;have d:decide ((1000:Int)<=(n.length:Int))=false:=by rw [JZ7];omega
 refine aE (R:=[⟨L,iL (.slice a n.length c) av k s,[]⟩,⟨w0.heap.size,#[.i j,.i g,.i ws,.i l,.i f],[]⟩]) ⟨⟨_,_,C.row⟩,⟨_,_,H⟩,trivial⟩ {eq:=[(23,aD d)]} 80 (nz J ⟨j,g,ws,l,f⟩ w N) ?_;rintro e q ⟨rfl,P⟩;have r:=C.below P;obtain ⟨y,V⟩:∃ y,y=tX ⟨j,g,ws,l,f⟩:=⟨_,rfl⟩;unfold wL;rw [<- V];refine ⟨_,0,rfl,?_⟩;refine eU (R:=[⟨L,iL (.slice a n.length c) av k s,[]⟩]) ⟨⟨_,_,r.row⟩,trivial⟩ {} 60 38 (RQ q y.1) ?_;obtain ⟨v4,W4,o,B,X,F⟩:=tw underlying31 xA rfl ba r.fw r.bel.size (.u y.1) rfl aa;obtain ⟨an,u,rfl⟩:=kl B;have Q:Bw q (q.alloc (.cells #[.u y.1] 32 (0,0))):=bal _ _;have D:=r.below Q;have wv:n.length+1=(n++[y.1]).length:=bh
 have U:n.map (V4 .u64)++[.u y.1]=(n++[y.1]).map (V4 .u64):=bh
 rw [U,wv] at B;rw [wv] at F o;have E:=D.wrdTo B X F;refine eH 39 (od o) ?_;refine du (R:=[⟨L,iL (.slice a n.length c) av k s,[]⟩]) ⟨⟨_,_,E.row⟩,trivial⟩ {} 40 (jk (i:=0) (T:=31) (v:=.slice an (n++[y.1]).length u) E.row (show 0<16 by decide) ab rfl) ?_;have p5:=E.setc 0 (.slice an (n++[y.1]).length u) (cs':=iL (.slice an (n++[y.1]).length u) av k s) rfl;exact dq {} 40 ab ab rfl ⟨rfl,_,p5⟩
theorem Lw (c: -9223372036854775808<=t) (d:t<=9223372036854775807):(Lit.int .i64 t).wf:=by have b:IntKind.i64.min=-9223372036854775808:=rfl;have a:IntKind.i64.max=9223372036854775807:=rfl;simp only [Lit.wf,Bool.and_eq_true,JZ6];omega
theorem DZ (H:O.size<=1048576) (w:H1):H2 prog 62 #[.string O,.string ⟨#[32]⟩] w λe g=>(∃ k,g=w.drewN k) /\ (((32:UInt8) ∉ O.data.toList/\e=.returned (.tuple #[.string O,.string ⟨#[]⟩,.bool false]))\/∃ l r,O.data.toList=l++32::r/\(32:UInt8) ∉ l/\e=.returned (.tuple #[.string ⟨l.toArray⟩,.string ⟨r.toArray⟩,.bool true])):=by
 have d:O.data.toList.length=O.size:=by rw [Array.length_toList];rfl
 rcases qR O.data.toList 32 with ⟨c,f⟩|⟨a,b,c,f,y⟩
 ·have m:Hid ((32:UInt8) ∉ O.data.toList):=f;have o:Hid (∀ W:H1,CE 70 #[.string O,.string ⟨#[32]⟩] W (.i (-1))):=λW=>by have:=Tryz.stringslite_Index_one O 32 W;rw [c] at this;exact this
  clear c f;go_enter func62,ntmps62;go_wp2_with fail;refine (o.out _).mono ?_;rintro e G ⟨rfl,rfl⟩;go_wp2_with fail;go_ret3;exact ⟨⟨0,rfl⟩,Or.inl ⟨m.out,rfl⟩⟩
 ·have p:=congrArg T2 c;rw [d] at p;simp only [L6,M5] at p;obtain ⟨n,j⟩:∃ n,n=a.length:=⟨_,rfl⟩;have t:O.extract 0 n=⟨a.toArray⟩:=(by rw [nj,c,List.drop_zero,Nat.sub_zero,j,List.take_left]);have u:O.extract (n+1) O.size=⟨b.toArray⟩:=by
   rw [nj,c];have:(a++32::b).drop (n+1)=b:=by rw [j,<- T0,List.drop_left];rfl
   rw [this,R5 aa]
  have o:Hid (∀ W:H1,CE 70 #[.string O,.string ⟨#[32]⟩] W (.i (n:Int))):=λW=>by have:=Tryz.stringslite_Index_one O 32 W;rw [y,<- j] at this;exact this
  have B:Hid (O.data.toList=a++32::b):=c;have m:Hid ((32:UInt8) ∉ a):=f;have z:Hid (O.extract 0 n=⟨a.toArray⟩):=t;have A:Hid (O.extract (n+1) O.size=⟨b.toArray⟩):=u;have D:n+1<=O.size:=aa;have C:(0:Int)<=(n:Int):=aa;have F:wrap64 ((n:Int)+1)=((n+1:Nat):Int):=bw;clear c f y p j t u d;go_enter func62,ntmps62;go_wp2_with fail;refine (o.out _).mono ?_;rintro e G ⟨rfl,E⟩;have q:=E.symm;subst q;go_wp2_with fail;go_quiet (fail)
  go_wp2_with fail;go_ret3;refine ⟨⟨_,rfl⟩,Or.inr ⟨a,b,B.out,m.out,?_⟩⟩;rw [<- z.out,<- A.out];rfl
theorem vA (g:O.size<=1048576) (w:H1):H2 prog 37 #[.string O,.string ⟨#[32]⟩] w λe j=>(∃ k,j=w.drewN k) /\ (((32:UInt8) ∉ O.data.toList/\e=.returned (.tuple #[.string O,.string ⟨#[]⟩,.bool false]))\/∃ l r,O.data.toList=l++32::r/\(32:UInt8) ∉ l/\e=.returned (.tuple #[.string ⟨l.toArray⟩,.string ⟨r.toArray⟩,.bool true])):=by
 go_enter func37,ntmps37;go_wp2_with fail;refine (DZ O g _).mono ?_;rintro e m ⟨⟨k,rfl⟩,⟨b,rfl⟩|⟨l,r,b,d,rfl⟩⟩;·have c:Hid ((32:UInt8) ∉ O.data.toList):=b;clear b;go_wp2_with fail;go_ret3;exact ⟨⟨k,rfl⟩,Or.inl ⟨c.out,rfl⟩⟩
 ·have c:Hid (O.data.toList=l++32::r):=b;have f:Hid ((32:UInt8) ∉ l):=d;clear b d;go_wp2_with fail;go_ret3;exact ⟨⟨k,rfl⟩,Or.inr ⟨l,r,c.out,f.out,rfl⟩⟩
theorem Lx (c:o<18446744073709551616) (w:H1) (a:Tp w): CB 48 #[.u o,.i 10] w (.string (dn o)):=by refine bE (args:=[.u o,.i 10]) (λ_=>True) func48 ?_;refine aE (R:=[]) trivial {} 40 (I0 o c w a) ?_;rintro e W ⟨rfl,b⟩;exact ⟨_,0,rfl,dD (R:=[]) trivial {} 40 ⟨rfl,b⟩⟩
theorem oI (c:o<18446744073709551616) (w:H1) (a:Tp w): CB 23 #[.u o] w (.string (dn o)):=by refine bE (args:=[.u o]) (λ_=>True) func23 ?_;refine aE (R:=[]) trivial {} 40 (Lx o c w a) ?_;rintro e W ⟨rfl,b⟩;exact ⟨_,0,rfl,dD (R:=[]) trivial {} 40 ⟨rfl,b⟩⟩
theorem Hv (h:M=W\/∃ t,M=Lib.bytesWorld W 5 t):Bw W M:=by
 rcases h with rfl|⟨t,rfl⟩;·exact A0 _ _
 ·exact Lib.bytesWorld_below _ _ _
theorem pw (hx:O.size<=1048576) (l:T4 64 O.data.toList=.ok q) (k:(⟨(T5 q).toArray⟩:ByteArray)=O) (p: -999999999999999999<=q) (n:q<=999999999999999999) (w:H1) (i:Tp w): CB 38 #[.string O] w (.tuple #[.i q,.bool true]):=by
 refine bE (args:=[.string O]) (λ_=>True) func38 ?_;refine aE (R:=[]) trivial {} 40 (Tryz.strconv_ParseInt_10_at64_ok O aa q l w) ?_;rintro e W ⟨rfl,j⟩;have b:=Hv j;refine ⟨_,0,rfl,?_⟩;refine aE (R:=[]) trivial {} 60 (om q (Lw aa aa) W (i.below b)) ?_;rintro e o ⟨rfl,d⟩;rw [k];have f:(!(O.toList==O.toList))=false:=bh
 have g:decide ((999999999999999999:Int)<q)=false:=by rw [JZ7];omega
 have h:decide (q<(-999999999999999999:Int))=false:=by rw [JZ7];omega
 refine ⟨_,0,rfl,?_⟩;refine jM (R:=[]) trivial {eq:=[(17,aD f),(21,aD g),(25,aD h)]} 80 λa c=>⟨.tuple #[.i q,.bool true],?_,rfl,ae b d⟩;rw [results_tmp2 rfl,c.slot (v:=.i q) ab,c.slot (v:=.bool true) ab]
theorem Od (hn:y<=1000000):∃ cs:Array H8,cs.size=y/\(do pure (.value (<- Instr.makeSlice 26 (.i 0) (.i y))):Sem K0).run prog p=.ok (.value (.slice (some ⟨p.heap.size,0,none⟩) 0 y)) (p.alloc (.cells cs 9)):=by obtain ⟨g,f,e⟩:=Option.map_eq_some_iff.1 oe;simp only [Prod.mk.injEq] at e;obtain ⟨c,a,d⟩:=e;have b:=run_makeSlice (P:=prog) p 26 9 g _ underlying26 f c .i64 .i64 0 y aa aa (by rw [a];simp;omega) (by rw [d];omega) aa;rw [Int.toNat_natCast,a] at b;exact ⟨madeCells (V0 ⟨#[]⟩).cells (y*1),by simp [madeCells],by simp [b]⟩
theorem Hx (x:Nat) (hx:x<256) (a:Option Addr) (c:Nat) (w:H1) (hs:Sl .u8 w a [(x:Int)]) (Y:Tp w):H2 prog 25 #[.slice a 1 c] w λe N=>∃ b J,e=.returned (.slice (some ⟨b,0,none⟩) 1 J)/\1<=J/\N.cell? ⟨b,0,none⟩=some (.string (dn x))/\Bw w N:=by
 obtain ⟨m,n,rfl,s,q⟩:=hs 0 (Nat.zero_lt_one);refine bE (args:=[.slice (some ⟨m,n,none⟩) 1 c]) (λ_=>True) func25 ?_;obtain ⟨cs,hcs,E⟩:=Od w 1 aa;refine eU (R:=[]) trivial {} 60 8 E ?_;have f:=(A0 w.heap.size w).alloc (A5 _) (.cells cs 9 (0,0));have l:(w.alloc (.cells cs 9 (0,0))).ownsRow w.heap.size 9 1 (.slice (some ⟨w.heap.size,0,none⟩) 0 1) 0 []:=⟨rfl,.inr ⟨w.heap.size,1,cs,rfl,A5 _,G3 _ _,aa,ct,aa,rfl⟩⟩;generalize w.alloc (.cells cs 9 (0,0))=W1 at f l ⊢;refine aO (R:=[]) trivial {} 20 ?_;refine kf (λy:Option Addr × Nat × Nat=>[(3,.slice y.1 y.2.2 y.2.1,0),(9,.slice (some ⟨m,n,none⟩) 1 c,0),(10,.i (1:Nat),0),(11,.i (y.2.2:Nat),0)]) (λj y W=>y.2.2+j=1/\Bw w W/\W.ownsRow w.heap.size 9 1 (.slice y.1 y.2.2 y.2.1) y.2.2 (S5 y.2.2 (.string (dn x)))) 1 (some ⟨w.heap.size,0,none⟩,1,0) ab ab ⟨rfl,f,l⟩ ?_;clear f l;rintro j ⟨d,z,i⟩ W ⟨T,f,l⟩ R X;dsimp only at T f l ⊢;have C:=Y.below f;cases j with
 | zero =>
   obtain rfl:i=1:=aa;obtain ⟨b,cap,e,hb⟩:=iS l aa;cases e;have Z:=l.cells (g:=b) rfl 0 (.string (dn x)) rfl;have r:1<=z:=by
    rcases l.2 with ⟨B,_⟩|⟨b',K,Q,B,_,_,V,_⟩;·cases B
    ·cases B;exact V
   exact dD (R:=[]) trivial {} 60 (v:=.slice (some ⟨b,0,none⟩) 1 z) ⟨b,z,rfl,r,by simpa [Addr.add] using Z,f⟩
 | succ j =>obtain rfl:i=0:=aa;obtain rfl:j=0:=aa;have D:W.cell? ⟨m,n+0,none⟩=some (.int .u8 (x:Int)):=(f.cell (p:=⟨m,n+0,none⟩) s).trans q;have G:Uz.wrap (x:Int)=(x:Int):=gx;refine aE (R:=[]) trivial {eq:=[(17,ed .u64 G)],ov:=[(13,pA (a:=some ⟨m,n,none⟩) (b:=m) (o:=n) 1 c .i64 0 rfl aa underlying22 ab),(14,lw ⟨m,n+0,none⟩ (.int .u8 (x:Int)) underlying5 rfl (λW' h=>by subst h;exact D))]} 60 (oI x aa W C) ?_;rintro e t ⟨rfl,I⟩;have L:=aZ l I;have u:=ae f I;refine ⟨_,0,rfl,?_⟩;refine eU (R:=[]) trivial {} 20 19 (vt t (dn x)) ?_;obtain ⟨v3,H,F,M,U,_⟩:=tw underlying26 oe rfl ba L u.size (.string (dn x)) rfl aa;obtain ⟨S,A,rfl⟩:=kl M;have O:Bw t (t.alloc (.cells #[.string (dn x)] 9 (0,0))):=bal _ _;have P:Bw w H:=Below.grown (ae u O) U (by have:=u.size;rw [V7];omega) λk e=>(L.lt k e).1;refine eH 20 (od F) ?_;exact eE (R:=[]) trivial {} 60 λa hk=>X a H 0 (S,A,1) aa (hk.less ab) ⟨rfl,P,M⟩
def mi (g:Nat):Obj:=.cells #[.p g 0] 47 (0,0)
theorem Bn.rws (h:Bn M L b f R n m A k s W) (a:(w,mi L) ∈ b):fN W [⟨w,#[.p L 0],[(0,2)]⟩,⟨L,f,[]⟩]:=⟨⟨_,_,h.lr _ a⟩,⟨_,_,h.row⟩,trivial⟩
theorem Bn.eng {fn:Func} {Rs:K4->H1->Prop} (bx:(w,mi L) ∈ b):oR prog (λw0=>Bn W L b f R n m A k s w0) (λw0=>Bn W L b f R n m A k s w0/\Bw V w0) [⟨w,#[.p L 0],[(0,2)]⟩,⟨L,f,[]⟩] true (H5 prog fn Rs):=
 ⟨λ_ h=>h.1,λw0 h r a=>by
  rcases L4.1 a with rfl|a
  ·exact ⟨_,_,h.lr _ bx⟩
  ·rw [L5.1 a];exact ⟨_,_,h.row⟩,λ_ w0 h=>⟨h.1.below (A0 _ _).drew,ae h.2 (A0 _ _).drew⟩,cG⟩
def QP (bx g:Nat) (W:H1):Prop:=W.heap[bx]?=some (mi g)
theorem Fu {fn:Func} {Rs:K4->H1->Prop}:oR prog (QP w L) (λW=>QP w L W/\Bw V W) [⟨w,#[.p L 0],[(0,2)]⟩] true (H5 prog fn Rs):=
 ⟨λ_ h=>h.1,λW h r a=>by rw [L5.1 a];exact ⟨_,_,h⟩,λ_ W h=>⟨aA (A0 _ _).drew h.1,ae h.2 (A0 _ _).drew⟩,cG⟩
def Bf (w0:H1) (g:Nat) (L:List (Nat × Obj)) (ws:List Int) (M:MV) (an:List UInt8) (W:H1):Prop:=∃ wv av A,Bn w0 g L (iL wv av M A) wv ws av an M A W
def D1:ByteArray:=⟨#[111,107]⟩
theorem Of (h:Bf M L b n k A W) (c:(w,mi L) ∈ b) (l:∀ x ∈ n,0<=x/\x<=18446744073709551615) (hl:n.length<=1000) (hn:A.length<=800000): H2 prog 21 #[.p w 0] W λe d=>e=.returned (.tuple #[])/\Bf M L b [] (qD ((iC n 8192).getD [])) (A++D1.data.toList++[10]) d:=by obtain ⟨wv,av,ws,h⟩:=h;refine bE (args:=[.p w 0]) (λ_=>True) func21 ?_;refine aY 0 1 ?_;refine aE (h.rws c) {} 40 (xE h l hl) ?_;rintro e a ⟨rfl,C,g⟩;obtain ⟨N,an⟩:∃ N,N=qD ((iC n 8192).getD []):=⟨_,rfl⟩;rw [<- an] at g ⊢;refine ⟨_,0,rfl,?_⟩;refine eU (g.rws c) {} 40 4 (vt a D1) ?_;have i:=(A0 a.heap.size a).alloc (A5 _) (.cells #[.string D1] 9 (0,0));have j:(a.alloc (.cells #[.string D1] 9 (0,0))).cell? ⟨a.heap.size,0,none⟩=some (.string D1):=gF a _ _ 0 _ rfl;refine aE (R:=[]) trivial {} 40 (mb (g.below i) a.heap.size 1 D1 j (A5 _) (by have:D1.size=2:=rfl;omega)) ?_;rintro e bx ⟨rfl,f,m⟩;exact ⟨_,0,rfl,dq {} 40 ab ab rfl ⟨rfl,_,_,_,m⟩⟩
theorem RZ (h:Bf M L b n k A W) (c:(w,mi L) ∈ b) (bx:Int) (hn:bx<=9223372036854775807) (m:iW k) (G:DD k) (F:lY M) (E:Tp M) (o:(jD k [(1,bx)]).2<=1000) (hl:A.length<=800000): H2 prog 27 #[.i bx,.p w 0] W λe a=>e=.returned (.tuple #[])/\Bf M L b n (jD k [(1,bx)]).1 (A++T5 ((jD k [(1,bx)]).2:Int)++[10]) a:=by
 obtain ⟨wv,av,ws,h⟩:=h;obtain ⟨V,B⟩:∃ V,V=jD k [(1,bx)]:=⟨_,rfl⟩;have i:=λa (an:Bn M L b (iL wv av k ws) wv n av A k ws a/\Bw W a)=>Lu an.1 1 bx m G (F.below an.1.bel) hn;rw [<- B] at i o ⊢;obtain ⟨N,d⟩:=V;dsimp only at i o ⊢;refine bE (args:=[.i bx,.p w 0]) (QP w L) func27 ?_;refine aY 1 1 ?_;refine CX 6 ?_;have j:=(A0 W.heap.size W).drew;refine bF (Fu (V:=W.drew)) {} 40 ⟨aA j (h.lr _ c),A0 _ _⟩ (λa an=>i a ⟨h.below (ae j an.2),ae j an.2⟩) ?_;rintro H e s J ⟨rfl,C,f⟩;refine ⟨_,0,rfl,λ_=>f.lr _ c,?_⟩;refine bF (Fu (V:=s)) {} 40 ⟨f.lr _ c,A0 _ _⟩ (λa an=>om d (Lw aa aa) a (E.below (f.below an.2).bel)) ?_;rintro t e g D ⟨rfl,v⟩;have p:=f.below (ae D.2 v);obtain ⟨y,l⟩:∃ y:ByteArray,y=⟨(T5 (d:Int)).toArray⟩:=⟨_,rfl⟩;rw [<- l];refine ⟨_,0,rfl,λ_=>p.lr _ c,?_⟩;have w0:=(A0 g.heap.size g).alloc (A5 _) (.cells #[.string y] 9 (0,0));have q:=p.below w0;refine eH 8 (vt g y) ?_ (hS:=λ_=>q.lr _ c);have x:(g.alloc (.cells #[.string y] 9 (0,0))).cell? ⟨g.heap.size,0,none⟩=some (.string y):=gF g _ _ 0 _ rfl;have K:y.size<=21:=by rw [l];simpa [U3] using Lib.itoa_length_le (d:Int) aa aa
 refine eI (mb q g.heap.size 1 y x (A5 _) aa) ?_;rintro e I ⟨rfl,u,r⟩;have z:y.data.toList=T5 (d:Int):=by rw [l]
 rw [z] at r;exact ⟨_,0,rfl,jw ab,dq {} 40 ab ab rfl ⟨rfl,_,_,_,r⟩⟩
theorem R6 (h:Bf M L b n k A W) (l:(w,mi L) ∈ b) (j:iW k) (C:DD k) (B:Tp M) (x:Nat) (hx:x<256) (D:sT k=[(x:Int)]) (hl:A.length<=800000): H2 prog 24 #[.p w 0] W λe f=>e=.returned (.tuple #[])/\Bf M L b n k (A++T3 x++[10]) f:=by
 obtain ⟨wv,av,ws,h⟩:=h;refine bE (args:=[.p w 0]) (λW=>Bn M L b (iL wv av k ws) wv n av A k ws W) func24 ?_;refine aY 0 1 ?_;refine CX 7 ?_;have s:=(A0 W.heap.size W).drew;refine bF (Bn.eng (V:=W.drew) l) {} 40 ⟨h.below s,A0 _ _⟩ (λf an=>vz k ws f j an.1.fm.msl C.mw.cs) ?_;rintro E e q y ⟨a,c,rfl,m,t⟩;rw [D] at m ⊢;have bx:=y.1.below t;refine ⟨_,0,rfl,λ_=>bx,?_⟩;refine bF (Bn.eng (V:=q) l) {} 40 ⟨bx,A0 _ _⟩ (λf an=>Hx x hx a c f (Lt (aZ m an.2)) (B.below an.1.bel)) ?_;rintro F e G z ⟨g,v,rfl,i,d,u⟩;have o:=z.1.below u;refine ⟨_,0,rfl,λ_=>o,?_⟩;have I:(dn x).size<=21:=by have:=U0 x aa;have e:(dn x).size=(T3 x).length:=(by simp [dn,U3]);rw [e,T7];omega
 refine eI (mb o g v (dn x) d i aa) ?_;rintro e H ⟨rfl,r,p⟩;have w0:(dn x).data.toList=T3 x:=by simp [dn]
 rw [w0] at p;exact ⟨_,0,rfl,jw ab,dq {} 40 ab ab rfl ⟨rfl,_,_,_,p⟩⟩
theorem mj (h:o<18446744073709551616):(dn o).size<=21:=by
 have:=U0 o h;have e:(dn o).size=(T3 o).length:=by simp [dn,U3]
 rw [e,T7];omega
theorem rD:(dn o).data.toList=T3 o:=by simp [dn]
theorem R7 (h:Bf M L b n k A W) (d:(w,mi L) ∈ b) (C:DD k) (w0:Tp M) (bx:Int) (u:Nat) (f:u<18446744073709551616) (x:∀ j,0<=k.cs.getD j 0/\k.cs.getD j 0<18446744073709551616) (hb:lB k.cs.length k.cs bx 3) (hv:mI k.cs.length k.cs bx 3=(u:Int)) (hl:A.length<=800000): H2 prog 33 #[.i bx,.p w 0] W λe g=>e=.returned (.tuple #[])/\Bf M L b n k (A++T3 u++[10]) g:=by obtain ⟨wv,av,ws,h⟩:=h;refine bE (args:=[.i bx,.p w 0]) (λW=>Bn M L b (iL wv av k ws) wv n av A k ws W) func33 ?_;refine aY 1 1 ?_;refine aE (h.rws d) {} 60 (m0 ws.ac k.cs.length ws.cc k.cs bx 3 W rfl h.fm.msl.cs x) ?_;rintro e c ⟨rfl,q⟩;rw [hb,hv];have y:=h.below q;refine ⟨_,0,rfl,?_⟩;refine aO (R:=[]) trivial {} 60 ?_;refine CX 4 ?_;have p:=(A0 c.heap.size c).drew;refine bF (Bn.eng (V:=c.drew) d) {} 40 ⟨y.below p,A0 _ _⟩ (λg an=>oI u f g (w0.below an.1.bel)) ?_;rintro z e a v ⟨rfl,r⟩;have i:=v.1.below r;refine ⟨_,0,rfl,λ_=>i,?_⟩;have s:=(A0 a.heap.size a).alloc (A5 _) (.cells #[.string (dn u)] 9 (0,0));have l:=i.below s;refine eH 19 (vt a (dn u)) ?_ (hS:=λ_=>l);have t:(a.alloc (.cells #[.string (dn u)] 9 (0,0))).cell? ⟨a.heap.size,0,none⟩=some (.string (dn u)):=gF a _ _ 0 _ rfl;refine eI (mb l a.heap.size 1 (dn u) t (A5 _) (by have:=mj u f;omega)) ?_;rintro e B ⟨rfl,o,m⟩;rw [rD] at m;exact ⟨_,0,rfl,jw ab,dq {} 40 ab ab rfl ⟨rfl,_,_,_,m⟩⟩
def Ba (w0:H1) (g:Nat) (L:List (Nat × Obj)) (ws:List Int) (M:MV) (A:MA) (W:H1):Prop:=∃ wv av an,Bn w0 g L (iL wv av M A) wv ws av an M A W
theorem Ba.eng {g:List (Nat × Obj)} {fn:Func} {Rs:K4->H1->Prop} (a:(w,mi L) ∈ g):oR prog (Ba W L g n k s) (λw0=>Ba W L g n k s w0/\Bw V w0) [⟨w,#[.p L 0],[(0,2)]⟩] true (H5 prog fn Rs):=
 ⟨λ_ h=>h.1,λw0 ⟨_,_,_,h⟩ r hr=>by rw [L5.1 hr];exact ⟨_,_,h.lr _ a⟩,λ_ w0 ⟨⟨_,_,_,h⟩,b⟩=>⟨⟨_,_,_,h.below (A0 _ _).drew⟩,ae b (A0 _ _).drew⟩,cG⟩
theorem Ba.fx (h:Ba M L b n k s W):W.cell? ⟨L,2,none⟩=some (.slice s.ax k.x.length s.cx):=by obtain ⟨_,_,_,h⟩:=h;simp only [V8,h.row];rfl
theorem Ba.xs (h:Ba M g b n k s W) {w0 o:Nat} (a:s.ax=some ⟨w0,o,none⟩) (ws:Nat) (hk:ws<k.x.length):W.cell? ⟨w0,o+ws,none⟩=some (.u (k.x.getD ws 0)):=by obtain ⟨_,_,_,h⟩:=h;obtain ⟨d,f,e,_,c⟩:=h.fm.msl.x ws hk;rw [a] at e;cases e;exact c
theorem R8 (h:Bf M L b n k A W) (l:(w,mi L) ∈ b) (x:Tp M) (an:Nat) (hk:an=2\/an=5) (hx:k.x.length=32) (u:Nat) (m:u<18446744073709551616) (hv:k.x.getD an 0=(u:Int)) (hl:A.length<=800000): H2 prog 32 #[.i an,.p w 0] W λe d=>e=.returned (.tuple #[])/\Bf M L b n k (A++T3 u++[10]) d:=by
 obtain ⟨wv,av,ws,h⟩:=h;have w0:Ba M L b n k ws W:=⟨_,_,_,h⟩;obtain ⟨g,o,j,_,_⟩:=h.fm.msl.x 0 aa;rcases hk with rfl | rfl;·refine bE (args:=[.i 2,.p w 0]) (Ba M L b n k ws) func32 ?_;refine aY 1 1 ?_;refine bF (Ba.eng (V:=W) l) {ov:=[(8,lw ⟨L,2,none⟩ (.slice ws.ax k.x.length ws.cx) underlying31 rfl (λ_ h=>h.fx)),(12,pA k.x.length ws.cx .u64 2 j aa underlying31 ab),(13,lw ⟨g,o+2,none⟩ (.u u) underlying32 rfl (λ_ h=>hv ▸ h.xs j 2 aa))]} 60 ⟨w0,A0 _ _⟩ (λd an=>oI u m d (x.below (h.below an.2).bel)) ?_;rintro y e a t ⟨rfl,q⟩;have f:=h.below (ae t.2 q);refine ⟨_,0,rfl,λ_=>⟨_,_,_,f⟩,?_⟩;have r:=(A0 a.heap.size a).alloc (A5 _) (.cells #[.string (dn u)] 9 (0,0));have i:=f.below r;refine eH 15 (vt a (dn u)) ?_ (hS:=λ_=>⟨_,_,_,i⟩);have s:(a.alloc (.cells #[.string (dn u)] 9 (0,0))).cell? ⟨a.heap.size,0,none⟩=some (.string (dn u)):=gF a _ _ 0 _ rfl;refine eI (mb i a.heap.size 1 (dn u) s (A5 _) (by have:=mj u m;omega)) ?_;rintro e bx ⟨rfl,p,c⟩;rw [rD] at c;refine ⟨_,0,rfl,λ_=>⟨_,_,_,c⟩,?_⟩;refine ak (Ba.eng (V:=bx) l) {} 1 ⟨⟨_,_,_,c⟩,A0 _ _⟩ λz v=>?_;exact dq {} 40 ab ab rfl ⟨rfl,_,_,_,c.below v.2⟩
 ·refine bE (args:=[.i 5,.p w 0]) (Ba M L b n k ws) func32 ?_;refine aY 1 1 ?_;refine bF (Ba.eng (V:=W) l) {ov:=[(8,lw ⟨L,2,none⟩ (.slice ws.ax k.x.length ws.cx) underlying31 rfl (λ_ h=>h.fx)),(12,pA k.x.length ws.cx .u64 5 j aa underlying31 ab),(13,lw ⟨g,o+5,none⟩ (.u u) underlying32 rfl (λ_ h=>hv ▸ h.xs j 5 aa))]} 60 ⟨w0,A0 _ _⟩ (λd an=>oI u m d (x.below (h.below an.2).bel)) ?_;rintro y e a t ⟨rfl,q⟩;have f:=h.below (ae t.2 q);refine ⟨_,0,rfl,λ_=>⟨_,_,_,f⟩,?_⟩;have r:=(A0 a.heap.size a).alloc (A5 _) (.cells #[.string (dn u)] 9 (0,0));have i:=f.below r;refine eH 15 (vt a (dn u)) ?_ (hS:=λ_=>⟨_,_,_,i⟩);have s:(a.alloc (.cells #[.string (dn u)] 9 (0,0))).cell? ⟨a.heap.size,0,none⟩=some (.string (dn u)):=gF a _ _ 0 _ rfl;refine eI (mb i a.heap.size 1 (dn u) s (A5 _) (by have:=mj u m;omega)) ?_;rintro e bx ⟨rfl,p,c⟩;rw [rD] at c;refine ⟨_,0,rfl,λ_=>⟨_,_,_,c⟩,?_⟩;refine ak (Ba.eng (V:=bx) l) {} 1 ⟨⟨_,_,_,c⟩,A0 _ _⟩ λz v=>?_;exact dq {} 40 ab ab rfl ⟨rfl,_,_,_,c.below v.2⟩
theorem lj {V:I5} (val:H8) (h:prog.underlying e=some (.map 9 V)) (hb:W.heap[L]?=some (.map N a)) (T:X6 .string (.string O) N.toList 0=some none) (k:Below w M W) (hm:w<=L):∃ c,(do X3 e (.map (some L)) (.string O) val;pure Next.skip:Sem K0).run prog W=.ok .skip c/\c.heap[L]?=some (.map (N.push ⟨.string O,val,a⟩) (a+1))/\Below w M c/\∀ j,j≠L->c.heap[j]?=W.heap[j]?:=by have d:(X7 9 (.string O) N.toList).run prog W=.ok none W:=X0 underlying9 T;refine ⟨U6 W L (.map (N.push ⟨.string O,val,a⟩) (a+1)),?_,U8 hb _,⟨k.os,k.tape,k.output,by simpa [U6] using k.size,λn g=>(U7 hb _ aa).trans (k.block n g)⟩,λj f=>U7 hb _ f⟩;simp [X3,K1 h,V9 hb,jh,d,MapKept.run_setObj_map _ hb,Result.andThen,U6]
theorem Fv (T:I5) (w:H1):(do pure (.value (<- Instr.makeMap T none)):Sem K0).run prog w=.ok (.value (.map (some w.heap.size))) (w.alloc (.map #[] 0)):=rfl
def lE (f bx:Nat):Value:=.func (.func f) #[] #[.p bx 0]
def kQ:ByteArray:=⟨#[46,115,116,97,114,116]⟩
def Tk:ByteArray:=⟨#[46,112,99]⟩
def wF:ByteArray:=⟨#[46,111,117,116]⟩
def kRun:ByteArray:=⟨#[46,114,117,110]⟩
def OV:ByteArray:=⟨#[46,116,105,109,101]⟩
def OX:ByteArray:=⟨#[46,98,121,116,101]⟩
def kReg:ByteArray:=⟨#[46,114,101,103]⟩
def kCsr:ByteArray:=⟨#[46,99,115,114]⟩
def xF (bx:Nat):Array MapEntry:=#[⟨.string kQ,lE 21 bx,0⟩,⟨.string Tk,lE 22 bx,1⟩,⟨.string wF,lE 24 bx,2⟩]
def D2 (bx:Nat):Array MapEntry:=#[⟨.string kRun,lE 27 bx,0⟩,⟨.string OV,lE 30 bx,1⟩,⟨.string OX,lE 31 bx,2⟩,⟨.string kReg,lE 32 bx,3⟩,⟨.string kCsr,lE 33 bx,4⟩]
def Tl (g:Nat) (w:H1) (E:Nat->Array MapEntry) (n:Nat) (e:K4) (w':H1):Prop:=∃ bx m,e=.returned (.map (some m))/\w.heap.size<=bx/\w.heap.size<=m/\w'.heap[bx]?=some (mi g)/\w'.heap[m]?=some (.map (E bx) n)/\Bw w w'
theorem Ly:H2 prog 12 #[.p o 0] p (Tl o p xF 3):=by
 refine cF (S:=λ_=>True) (args:=[.p o 0]) [(#[.p o 0],47)] func12 ?_;have c:=Bs.start p [(#[.p o 0],47)];generalize dC p [(#[.p o 0],47)]=W at c ⊢;have e:W.heap[p.heap.size]?=some (mi o):=c.1 0 _ rfl;have j:=bZ e;have a:=c.2;refine eU (R:=[]) trivial {} 40 3 (Fv 39 W) ?_;have m1:(W.alloc (.map #[] 0)).heap[W.heap.size]?=some (.map #[] 0):=G3 _ _;have x1:(W.alloc (.map #[] 0)).heap[p.heap.size]?=some (mi o):=aA ((A0 W.heap.size W).alloc (A5 _) _) e;have d:=a.alloc a.size (.map #[] 0);generalize W.alloc (.map #[] 0)=r at m1 x1 d ⊢;obtain ⟨s,g,m2,f,k⟩:=lj kQ (lE 21 p.heap.size) underlying39 m1 rfl d a.size;refine du (R:=[]) trivial {} 40 g ?_;obtain ⟨t,w,n,h,l⟩:=lj Tk (lE 22 p.heap.size) underlying39 m2 ab f a.size;refine du (R:=[]) trivial {} 40 w ?_;obtain ⟨u,q,m4,i,m⟩:=lj wF (lE 24 p.heap.size) underlying39 n ab h a.size;refine du (R:=[]) trivial {} 40 q ?_;have b:p.heap.size≠W.heap.size:=aa
 exact dD (R:=[]) trivial {} 60 (v:=.map (some W.heap.size)) ⟨_,_,rfl,A5 _,a.size,(m _ b).trans ((l _ b).trans ((k _ b).trans x1)),m4,i⟩
theorem Og:H2 prog 13 #[.p o 0] p (Tl o p D2 5):=by
 refine cF (S:=λ_=>True) (args:=[.p o 0]) [(#[.p o 0],47)] func13 ?_;have c:=Bs.start p [(#[.p o 0],47)];generalize dC p [(#[.p o 0],47)]=W at c ⊢;have e:W.heap[p.heap.size]?=some (mi o):=c.1 0 _ rfl;have l:=bZ e;have a:=c.2;refine eU (R:=[]) trivial {} 40 3 (Fv 41 W) ?_;have m1:(W.alloc (.map #[] 0)).heap[W.heap.size]?=some (.map #[] 0):=G3 _ _;have x1:(W.alloc (.map #[] 0)).heap[p.heap.size]?=some (mi o):=aA ((A0 W.heap.size W).alloc (A5 _) _) e;have d:=a.alloc a.size (.map #[] 0);generalize W.alloc (.map #[] 0)=A at m1 x1 d ⊢;obtain ⟨B,t,m2,f,m⟩:=lj kRun (lE 27 p.heap.size) underlying41 m1 rfl d a.size;refine du (R:=[]) trivial {} 40 t ?_;obtain ⟨C,u,r,h,n⟩:=lj OV (lE 30 p.heap.size) underlying41 m2 ab f a.size;refine du (R:=[]) trivial {} 40 u ?_;obtain ⟨D,x,m4,i,g⟩:=lj OX (lE 31 p.heap.size) underlying41 r ab h a.size;refine du (R:=[]) trivial {} 40 x ?_;obtain ⟨E,y,s,j,w⟩:=lj kReg (lE 32 p.heap.size) underlying41 m4 ab i a.size;refine du (R:=[]) trivial {} 40 y ?_;obtain ⟨F,z,m6,k,q⟩:=lj kCsr (lE 33 p.heap.size) underlying41 s ab j a.size;refine du (R:=[]) trivial {} 40 z ?_;have b:p.heap.size≠W.heap.size:=aa
 exact dD (R:=[]) trivial {} 60 (v:=.map (some W.heap.size)) ⟨_,_,rfl,A5 _,a.size,(q _ b).trans ((w _ b).trans ((g _ b).trans ((n _ b).trans ((m _ b).trans x1)))),m6,k⟩
theorem og {V:I5} {i:Nat} {key:ByteArray} {v:H8} (T:prog.underlying e=some (.map 9 V)) (hb:W.heap[L]?=some (.map N w)) (d:X6 .string (.string key) N.toList 0=some (some (i,v))):(do pure (.value (<- X8 e (.map (some L)) (.string key) true)):Sem K0).run prog W=.ok (.value (.tuple #[v,.bool true])) W:=by
 have c:(X7 9 (.string key) N.toList).run prog W=.ok (some (i,v)) W:=X0 underlying9 d;have a:∀ b:Bool,(Instr.checkKey b 10000 9 (.string key)).run prog W=.ok () W:=λb=>by cases b<;>kernel_rfl
 simp [X8,K1 T,V9 hb,a,c]
theorem jE:Bw W (W.drewN o):=⟨rfl,rfl,rfl,A5 _,λ_ _=>rfl⟩
theorem vB {c:UInt8}:∀ {l a r b:List UInt8},l++c::r=a++c::b->c ∉ l->c ∉ a->l=a/\r=b
 | [],[],_,_,e,_,_=>⟨rfl,(List.cons.inj e).2⟩
 | [],y::a,_,_,e,_,h=>absurd (L4.2 (.inl (List.cons.inj e).1)) h
 | x::l,[],_,_,e,h,_=>absurd (L4.2 (.inl (List.cons.inj e).1.symm)) h
 | x::l,y::a,r,b,e,h,h'=>by
   obtain ⟨d,f⟩:=List.cons.inj e
   obtain ⟨g,i⟩:=vB f (λk=>h (M7 _ k)) (λk=>h' (M7 _ k))
   exact ⟨by rw [d,g],i⟩
theorem D3 (hm:W.heap[L]?=some (.map (xF a) 3)) (h:∀ V,Bw W V->H2 prog 21 #[.p a 0] V λe bx=>e=.returned (.tuple #[])/\B bx): H2 prog 15 #[.map (some L),.map (some w),.string kQ] W λe bx=>e=.returned (.bool true)/\B bx:=by
 refine bE (args:=[.map (some L),.map (some w),.string kQ]) (λ_=>True) func15 ?_;refine aE (R:=[]) trivial {} 40 (vA kQ ba W) ?_;rintro e b ⟨⟨d,j⟩,⟨f,rfl⟩ | ⟨l,r,f,m,rfl⟩⟩;·have c:Bw W b:=(by rw [j];exact jE d);have M1:=aA c hm;refine ⟨_,0,rfl,?_⟩;refine eU (R:=[]) trivial {} 60 27 (og (key:=kQ) (i:=0) (v:=lE 21 a) underlying39 M1 ab) ?_;refine aE (R:=[]) trivial {} 60 (h b c) ?_;rintro e k ⟨rfl,g⟩;exact ⟨_,0,rfl,dD (R:=[]) trivial {} 60 ⟨rfl,g⟩⟩
 ·exact absurd (show (32:UInt8) ∈ kQ.data.toList by rw [f];simp) ba
theorem Lz (hm:W.heap[L]?=some (.map (xF a) 3)) (h:∀ V,Bw W V->H2 prog 24 #[.p a 0] V λe bx=>e=.returned (.tuple #[])/\B bx): H2 prog 15 #[.map (some L),.map (some w),.string wF] W λe bx=>e=.returned (.bool true)/\B bx:=by
 refine bE (args:=[.map (some L),.map (some w),.string wF]) (λ_=>True) func15 ?_;refine aE (R:=[]) trivial {} 40 (vA wF ba W) ?_;rintro e b ⟨⟨d,j⟩,⟨f,rfl⟩ | ⟨l,r,f,m,rfl⟩⟩;·have c:Bw W b:=(by rw [j];exact jE d);have M1:=aA c hm;refine ⟨_,0,rfl,?_⟩;refine eU (R:=[]) trivial {} 60 27 (og (key:=wF) (i:=2) (v:=lE 24 a) underlying39 M1 ab) ?_;refine aE (R:=[]) trivial {} 60 (h b c) ?_;rintro e k ⟨rfl,g⟩;exact ⟨_,0,rfl,dD (R:=[]) trivial {} 60 ⟨rfl,g⟩⟩
 ·exact absurd (show (32:UInt8) ∈ wF.data.toList by rw [f];simp) ba
theorem LA (hx:P.size<=1000) (b:O.data.toList=kRun.data.toList++32::P.data.toList) (bx:T4 64 P.data.toList=.ok q) (A:(⟨(T5 q).toArray⟩:ByteArray)=P) (n: -999999999999999999<=q) (t:q<=999999999999999999) (m2:Tp W) (hm:W.heap[w]?=some (.map (D2 a) 5)) (y:∀ V,Bw W V->H2 prog 27 #[.i q,.p a 0] V λe h=>e=.returned (.tuple #[])/\B h): H2 prog 15 #[.map (some L),.map (some w),.string O] W λe h=>e=.returned (.bool true)/\B h:=by
 refine bE (args:=[.map (some L),.map (some w),.string O]) (λ_=>True) func15 ?_;have g:O.size<=1048576:=by have e:O.data.toList.length=O.size:=bh;have D:P.data.toList.length=P.size:=bh;have E:kRun.data.toList.length<=10:=ba;rw [<- e,b,L6,M5];omega
 refine aE (R:=[]) trivial {} 40 (vA O g W) ?_;rintro e j ⟨⟨d,z⟩,⟨f,rfl⟩|⟨l,r,f,s,rfl⟩⟩;·exact absurd (show (32:UInt8) ∈ O.data.toList by rw [b];simp) f
 ·obtain ⟨rfl,rfl⟩:=vB (f.symm.trans b) s ba;have p:(⟨P.data.toList.toArray⟩:ByteArray)=P:=bh;have o:(⟨kRun.data.toList.toArray⟩:ByteArray)=kRun:=bh;rw [p,o];have c:Bw W j:=(by rw [z];exact jE d);have M1:=aA c hm;refine ⟨_,0,rfl,?_⟩;refine eU (R:=[]) trivial {} 60 37 (og (key:=kRun) (i:=0) (v:=lE 27 a) underlying41 M1 ab) ?_;refine aE (R:=[]) trivial {} 60 (pw P q aa bx A n t j (m2.below c)) ?_;rintro e k ⟨rfl,m⟩;refine ⟨_,0,rfl,?_⟩;refine aE (R:=[]) trivial {} 80 (y k (ae c m)) ?_;exact t7
theorem LC (hx:P.size<=1000) (b:O.data.toList=kReg.data.toList++32::P.data.toList) (bx:T4 64 P.data.toList=.ok q) (A:(⟨(T5 q).toArray⟩:ByteArray)=P) (n: -999999999999999999<=q) (t:q<=999999999999999999) (m2:Tp W) (hm:W.heap[w]?=some (.map (D2 a) 5)) (y:∀ V,Bw W V->H2 prog 32 #[.i q,.p a 0] V λe h=>e=.returned (.tuple #[])/\B h): H2 prog 15 #[.map (some L),.map (some w),.string O] W λe h=>e=.returned (.bool true)/\B h:=by
 refine bE (args:=[.map (some L),.map (some w),.string O]) (λ_=>True) func15 ?_;have g:O.size<=1048576:=by have e:O.data.toList.length=O.size:=bh;have D:P.data.toList.length=P.size:=bh;have E:kReg.data.toList.length<=10:=ba;rw [<- e,b,L6,M5];omega
 refine aE (R:=[]) trivial {} 40 (vA O g W) ?_;rintro e j ⟨⟨d,z⟩,⟨f,rfl⟩|⟨l,r,f,s,rfl⟩⟩;·exact absurd (show (32:UInt8) ∈ O.data.toList by rw [b];simp) f
 ·obtain ⟨rfl,rfl⟩:=vB (f.symm.trans b) s ba;have p:(⟨P.data.toList.toArray⟩:ByteArray)=P:=bh;have o:(⟨kReg.data.toList.toArray⟩:ByteArray)=kReg:=bh;rw [p,o];have c:Bw W j:=(by rw [z];exact jE d);have M1:=aA c hm;refine ⟨_,0,rfl,?_⟩;refine eU (R:=[]) trivial {} 60 37 (og (key:=kReg) (i:=3) (v:=lE 32 a) underlying41 M1 ab) ?_;refine aE (R:=[]) trivial {} 60 (pw P q aa bx A n t j (m2.below c)) ?_;rintro e k ⟨rfl,m⟩;refine ⟨_,0,rfl,?_⟩;refine aE (R:=[]) trivial {} 80 (y k (ae c m)) ?_;exact t7
theorem LD (hx:P.size<=1000) (b:O.data.toList=kCsr.data.toList++32::P.data.toList) (bx:T4 64 P.data.toList=.ok q) (A:(⟨(T5 q).toArray⟩:ByteArray)=P) (n: -999999999999999999<=q) (t:q<=999999999999999999) (m2:Tp W) (hm:W.heap[w]?=some (.map (D2 a) 5)) (y:∀ V,Bw W V->H2 prog 33 #[.i q,.p a 0] V λe h=>e=.returned (.tuple #[])/\B h): H2 prog 15 #[.map (some L),.map (some w),.string O] W λe h=>e=.returned (.bool true)/\B h:=by
 refine bE (args:=[.map (some L),.map (some w),.string O]) (λ_=>True) func15 ?_;have g:O.size<=1048576:=by have e:O.data.toList.length=O.size:=bh;have D:P.data.toList.length=P.size:=bh;have E:kCsr.data.toList.length<=10:=ba;rw [<- e,b,L6,M5];omega
 refine aE (R:=[]) trivial {} 40 (vA O g W) ?_;rintro e j ⟨⟨d,z⟩,⟨f,rfl⟩|⟨l,r,f,s,rfl⟩⟩;·exact absurd (show (32:UInt8) ∈ O.data.toList by rw [b];simp) f
 ·obtain ⟨rfl,rfl⟩:=vB (f.symm.trans b) s ba;have p:(⟨P.data.toList.toArray⟩:ByteArray)=P:=bh;have o:(⟨kCsr.data.toList.toArray⟩:ByteArray)=kCsr:=bh;rw [p,o];have c:Bw W j:=(by rw [z];exact jE d);have M1:=aA c hm;refine ⟨_,0,rfl,?_⟩;refine eU (R:=[]) trivial {} 60 37 (og (key:=kCsr) (i:=4) (v:=lE 33 a) underlying41 M1 ab) ?_;refine aE (R:=[]) trivial {} 60 (pw P q aa bx A n t j (m2.below c)) ?_;rintro e k ⟨rfl,m⟩;refine ⟨_,0,rfl,?_⟩;refine aE (R:=[]) trivial {} 80 (y k (ae c m)) ?_;exact t7
inductive Ln:ByteArray->List Int->MV->List UInt8->List Int->MV->List UInt8->Prop
 | ins (x:ByteArray) (I:Ins) (c:UInt8) (rest:List UInt8) (ws:List Int) (M:MV) (an:List UInt8) (h1:x.data.toList=c::rest) (h2:c≠46) (h3:x.size<=1000) (h4:∀ i t,PR x.data.toList i t->i=I/\t) (h5:(Lit.int .i64 I.op).wf) (h6:ws.length<=900):Ln x ws M an (ws++[(tX I).1]) M an
 | start (ws:List Int) (M:MV) (an:List UInt8) (h1:∀ x ∈ ws,0<=x/\x<=18446744073709551615) (h2:ws.length<=1000) (h3:an.length<=800000):Ln kQ ws M an [] (qD ((iC ws 8192).getD [])) (an++D1.data.toList++[10])
 | out (ws:List Int) (M:MV) (an:List UInt8) (hl:iW M) (hf:DD M) (x:Nat) (hx:x<256) (ho:sT M=[(x:Int)]) (h3:an.length<=800000):Ln wF ws M an ws M (an++T3 x++[10])
 | run (line x:ByteArray) (n:Int) (ws:List Int) (M:MV) (an:List UInt8) (hx:x.size<=1000) (hline:line.data.toList=kRun.data.toList++32::x.data.toList) (hp:T4 64 x.data.toList=.ok n) (hi:(⟨(T5 n).toArray⟩:ByteArray)=x) (h0 : -999999999999999999<=n) (h9:n<=999999999999999999) (hl:iW M) (hf:DD M) (hc:(jD M [(1,n)]).2<=1000) (h3:an.length<=800000):Ln line ws M an ws (jD M [(1,n)]).1 (an++T5 ((jD M [(1,n)]).2:Int)++[10])
 | reg (line x:ByteArray) (k:Nat) (ws:List Int) (M:MV) (an:List UInt8) (hx:x.size<=1000) (hline:line.data.toList=kReg.data.toList++32::x.data.toList) (hp:T4 64 x.data.toList=.ok (k:Int)) (hi:(⟨(T5 (k:Int)).toArray⟩:ByteArray)=x) (hk:k=2\/k=5) (hl:M.x.length=32) (u:Nat) (hu:u<18446744073709551616) (hv:M.x.getD k 0=(u:Int)) (h3:an.length<=800000):Ln line ws M an ws M (an++T3 u++[10])
 | csr (line x:ByteArray) (n:Int) (ws:List Int) (M:MV) (an:List UInt8) (hx:x.size<=1000) (hline:line.data.toList=kCsr.data.toList++32::x.data.toList) (hp:T4 64 x.data.toList=.ok n) (hi:(⟨(T5 n).toArray⟩:ByteArray)=x) (h0 : -999999999999999999<=n) (h9:n<=999999999999999999) (hf:DD M) (u:Nat) (hu:u<18446744073709551616) (hU:∀ j,0<=M.cs.getD j 0/\M.cs.getD j 0<18446744073709551616) (hb:lB M.cs.length M.cs n 3) (hv:mI M.cs.length M.cs n 3=(u:Int)) (h3:an.length<=800000):Ln line ws M an ws M (an++T3 u++[10])
inductive Rs:List ByteArray->List Int->MV->List UInt8->List Int->MV->List UInt8->Prop
 | nil (ws:List Int) (M:MV) (an:List UInt8):Rs [] ws M an ws M an
 | cons {x:ByteArray} {l:List ByteArray} {ws ws1 ws2:List Int} {M M1 M2:MV} {an an1 an2:List UInt8} (h:Ln x ws M an ws1 M1 an1) (t:Rs l ws1 M1 an1 ws2 M2 an2):Rs (x::l) ws M an ws2 M2 an2
theorem Bf.below (h:Bf M g b n k A W) {V:H1} (w0:Bw W V):Bf M g b n k A V:=by obtain ⟨_,_,_,h⟩:=h;exact ⟨_,_,_,h.below w0⟩
theorem Bf.bel (h:Bf M L b n k A W):Bw M W:=by obtain ⟨_,_,_,h⟩:=h;exact h.bel
theorem Bf.lr (h:Bf M L b n k A W):∀ p ∈ b,W.heap[p.1]?=some p.2:=by obtain ⟨_,_,_,h⟩:=h;exact h.lr
theorem LE {m1 m2:Nat} {an1:List UInt8} (hn:T.data.toList.head?=some 46) (h:Ln T n k A x l an1) (g:Bf M L b n k A W) (hx:(w,mi L) ∈ b) (z:(a,mi L) ∈ b) (ws:(m1,Obj.map (xF w) 3) ∈ b) (y:(m2,Obj.map (D2 a) 5) ∈ b) (B:lY M) (p:Tp M): H2 prog 15 #[.map (some m1),.map (some m2),.string T] W λe C=>e=.returned (.bool true)/\Bf M L b x l an1 C:=by
 cases h with
 | ins T I c rest n k A d f i j an q=>rw [d] at hn;exact absurd (Option.some.inj hn) f
 | start n k A d f i=>exact D3 (g.lr _ ws) λV bx=>Of (g.below bx) hx d f i
 | out n k A d f ws1 i j an=>exact Lz (g.lr _ ws) λV bx=>R6 (g.below bx) hx d f p ws1 i j an
 | run m T by_ n k A d f i j an q r s t o=>exact LA _ T by_ d f i j an q (p.below g.bel) (g.lr _ y) λV bx=>RZ (g.below bx) z by_ aa r s B p t o
 | reg m T ws1 n k A d f i j an q u r s t=>exact LC _ T (ws1:Int) d f i j aa aa (p.below g.bel) (g.lr _ y) λV bx=>R8 (g.below bx) z p ws1 an q u r s t
 | csr m T by_ n k A d f i j an q r u s t o v w0=>exact LD _ T by_ d f i j an q (p.below g.bel) (g.lr _ y) λV bx=>R7 (g.below bx) z r p by_ u s t o v w0
theorem LH {an1:List UInt8} (t:BareDoes) {ws:ByteArray} {c:UInt8} {rest:List UInt8} (C:ws.data.toList=c::rest) (hn:c≠46) (h:Ln ws n k A x l an1) (z:Bf M L b n k A W) (B:Tp M): H2 prog 14 #[.p L 0,.string ws] W λe s=>e=.returned (.tuple #[])/\Bf M L b x l an1 s:=by
 have no:∀ {an y:List UInt8},ws.data.toList=46::an++y->False:=λ{an y} e=>by rw [C] at e;exact hn (List.cons.inj e).1
 cases h with
 | ins ws I c rest n k A d a f i j M1 =>obtain ⟨wv,av,ws1,p⟩:=z;refine (Oc t p ws aa I i j (B.below p.bel) M1).mono ?_;rintro e s ⟨rfl,E,D⟩;exact ⟨rfl,_,_,_,D⟩
 | start n k A d a f=>exact absurd rfl (λ_:(1:Nat)=1=>no (an:=[115,116,97,114,116]) (y:=[]) rfl)
 | out n k A d a an f i j=>exact absurd rfl (λ_:(1:Nat)=1=>no (an:=[111,117,116]) (y:=[]) rfl)
 | run w0 ws g n k A d a f i j M1 o q r m=>exact absurd rfl (λ_:(1:Nat)=1=>no (an:=[114,117,110]) a)
 | reg w0 ws an n k A d a f i j M1 u o q r=>exact absurd rfl (λ_:(1:Nat)=1=>no (an:=[114,101,103]) a)
 | csr w0 ws g n k A d a f i j M1 o u q r m v w=>exact absurd rfl (λ_:(1:Nat)=1=>no (an:=[99,115,114]) a)
theorem Oh {an1:List UInt8} (h:Ln T n k A x l an1):∃ c rest,T.data.toList=c::rest:=by
 cases h with
 | ins T I c rest n k A d a e f g j=>exact ⟨c,rest,d⟩
 | start n k A d a e=>exact ⟨_,_,rfl⟩
 | out n k A d a an e f g=>exact ⟨_,_,rfl⟩
 | run b T ws n k A d a e f g j M m o i=>exact ⟨_,_,a⟩
 | reg b T an n k A d a e f g j u M m o=>exact ⟨_,_,a⟩
 | csr b T ws n k A d a e f g j M u m o i p q=>exact ⟨_,_,a⟩
theorem R9 (h:T.data.toList=A):T=⟨A.toArray⟩:=by apply U5;apply Array.toList_inj.1;simpa using h
theorem Oi {c:UInt8} (h:T.data.toList=c::A) (W:H1):(do pure (.value (<- Instr.index 9 (.string T) (.i 0))):Sem K0).run prog W=.ok (.value (.int .u8 (c.toNat:Int))) W:=by
 rw [R9 h];have e:(⟨(c::A).toArray⟩:ByteArray)[(0:Nat)]?=some c:=by rw [getElem?_pos _ _ (by show 0<(c::A).toArray.size;simp)];rfl
 have:=run_index_string (P:=prog) (w:=W) 9 ⟨(c::A).toArray⟩ .i64 0 underlying9;have a:(0:Int)<((⟨(c::A).toArray⟩:ByteArray).size:Int):=by show (0:Int)<(((c::A).toArray.size:Nat):Int);simp
 rw [dif_pos ⟨Int.le_refl _,a⟩] at this;simp only [Sem.run_bind,this,Result.andThen_ok,Sem.run_pure];rfl
def Tm {S:H1->Prop} {s:ByteArray} {c:UInt8} {rest:List UInt8} (h:s.data.toList=c::rest):Ov prog S:=⟨_,.int .u8 (c.toNat:Int),0,λW _=>Oi h W⟩
theorem Oj (h:W.ownsRow L 5 1 (.slice j A.length w) A.length (A.map byV)) (hn:0<A.length):(do pure (.value (<- convert 22 9 (.slice j A.length w))):Sem K0).run prog W=.ok (.value (.string ⟨A.toArray⟩)) W:=by obtain ⟨k,cap,e,d⟩:=iS h hn;cases e;have:=run_convert_bytes_back (P:=prog) W 22 9 5 ⟨k,0,none⟩ w A underlying22 underlying5 underlying9 (λa b=>h.cells (g:=k) rfl a _ (by simp [b,byV]));simp [this]
theorem Ok {c:Type} {l:List c} {x:c} {t:List c} (h:l.drop L=x::t):L<l.length/\l[L]?=some x/\l.drop (L+1)=t:=by
 have b:L<l.length:=by
  rcases F0 L l.length with a|a;·exact a
  ·rw [S1 a] at h;cases h
 have e:=List.drop_eq_getElem_cons b;rw [h] at e;obtain ⟨d,f⟩:=List.cons.inj e;exact ⟨b,by rw [R4 b,d],f.symm⟩
section
variable {w0 W : H1} {g bx by_ m1 m2 lb : Nat} {L : List (Nat × Obj)} {ws wsF : List Int} {an anF : List UInt8} {M MF : MV}
structure Bl (w0:H1) (g:Nat) (L:List (Nat × Obj)) (ls:List ByteArray) (wsF:List Int) (MF:MV) (anF:List UInt8) (j i:Nat) (W:H1):Prop where
 ej:i+j=ls.length
 st:∃ ws M an,Bf w0 g L ws M an W/\Rs (ls.drop i) ws M an wsF MF anF
theorem LM (O:BareDoes) {S:H1->Prop} {k:List ByteArray} (n:Bf w0 g L ws M an W) (r:Rs k ws M an wsF MF anF) (U:0<anF.length) (I:k.length<=200) (hl:(lb,Obj.cells (k.map V0).toArray 9 (0,0)) ∈ L) (hx:(bx,mi g) ∈ L) (X:(by_,mi g) ∈ L) (Q:(m1,Obj.map (xF bx) 3) ∈ L) (z:(m2,Obj.map (D2 by_) 5) ∈ L) (T:lY w0) (K:Tp w0) {c:Nat}:Wg prog S (H5 prog Tryz.f8 λe Y=>e=.returned (.string ⟨anF.toArray⟩)/\Bw w0 Y) Tryz.f8.ntmps [.code (cQ 7 (bI Tryz.f8))] [(3,.slice (some ⟨lb,0,none⟩) k.length c,0),(4,.p g 0,0),(5,.map (some m1),0),(6,.map (some m2),0)] W:=by
 refine aO (R:=[]) trivial {} 20 ?_;refine kf (λi:Nat=>[(4,.p g 0,1),(5,.map (some m1),0),(6,.map (some m2),0),(22,.slice (some ⟨lb,0,none⟩) k.length c,0),(23,.i (k.length:Nat),0),(24,.i (i:Nat),0)]) (Bl w0 g L k wsF MF anF) k.length 0 ab ab ⟨aa,ws,M,an,n,r⟩ ?_;clear n r;rintro j i V ⟨ej,ws,M,an,n,r⟩ R J;cases j with
 | zero =>have d:decide ((i:Int)<(k.length:Int))=false:=i6;have P:k.drop i=[]:=S1 aa;rw [P] at r;cases r;obtain ⟨wv,av,A,p⟩:=n;obtain ⟨G,H,rfl⟩:=kl p.fa;exact dD (R:=[⟨g,iL wv (.slice G anF.length H) MF A,[]⟩]) ⟨⟨_,_,p.row⟩,trivial⟩ {eq:=[(25,aD d)],ov:=[(45,⟨do pure (.value (<- convert 22 9 (.slice G anF.length H))),.string ⟨anF.toArray⟩,0,λZ h=>by subst h;exact Oj p.fa U⟩)]} 80 ⟨rfl,p.bel⟩
 | succ j =>
   have d:decide ((i:Int)<(k.length:Int)):=ib;cases C:k.drop i with
   | nil=>have:=congrArg T2 C;simp at this;omega
   | cons x t =>
     rw [C] at r;obtain ⟨hi,F,u⟩:=Ok C;cases r with
     | cons B s =>
       obtain ⟨v,rest,m⟩:=Oh B;have l:V.cell? ⟨lb,0+((i:Nat):Int).toNat,none⟩=some (.string x):=(by simp only [V8,n.lr _ hl];simp [F]);have N:(x.toList==(⟨#[]⟩:ByteArray).toList)=false:=(by rw [Go.ByteArray.toList_eq,Go.ByteArray.toList_eq,m];rfl);cases f:(((v.toNat:Int)) != 46) with
       | true =>refine aE (R:=[]) trivial {eq:=[(25,aD d),(29,aD N),(32,aD f)],ov:=[(26,pA (a:=some ⟨lb,0,none⟩) (b:=lb) (o:=0) k.length c .i64 (i:Nat) rfl aa underlying26 ab),(27,lw ⟨lb,0+((i:Nat):Int).toNat,none⟩ (.string x) underlying9 rfl (λ_ h=>by subst h;exact l)),(31,Tm m)]} 80 (LH O m (by rintro rfl;exact absurd f ba) B n K) ?_;rintro e w ⟨rfl,q⟩;refine ⟨_,0,rfl,?_⟩;have E:IntKind.i64.wrap ((i:Int)+1)=((i+1:Nat):Int):=eg;exact eE (R:=[]) trivial {eq:=[(42,ed .i64 E)]} 40 λa D=>J a w j (i+1) aa (D.less ab) ⟨aa,_,_,_,q,u ▸ s⟩
       | false =>have y:v=46:=(by have h:=eq_of_beq (by simpa [bne] using f:((v.toNat:Int)==46));have z:v.toNat=46:=aa;exact UInt8.toNat_inj.1 z);refine aE (R:=[]) trivial {eq:=[(25,aD d),(29,aD N),(32,aD f)],ov:=[(26,pA (a:=some ⟨lb,0,none⟩) (b:=lb) (o:=0) k.length c .i64 (i:Nat) rfl aa underlying26 ab),(27,lw ⟨lb,0+((i:Nat):Int).toNat,none⟩ (.string x) underlying9 rfl (λ_ h=>by subst h;exact l)),(31,Tm m)]} 80 (LE (by rw [m,y];rfl) B n hx X Q z T K) ?_;rintro e w ⟨rfl,q⟩;refine ⟨_,0,rfl,?_⟩;have E:IntKind.i64.wrap ((i:Int)+1)=((i+1:Nat):Int):=eg;exact eE (R:=[]) trivial {eq:=[(42,ed .i64 E)]} 40 λa D=>J a w j (i+1) aa (D.less ab) ⟨aa,_,_,_,q,u ▸ s⟩
theorem Bf.addL (h:Bf w0 g L ws M an W) {V:H1} (b:Bw W V) (c:List (Nat × Obj)) (hk:∀ p ∈ c,W.heap.size<=p.1/\V.heap[p.1]?=some p.2):Bf w0 g (c++L) ws M an V:=by
 obtain ⟨wv,av,A,h⟩:=h
 have p:=h.below b
 have out:∀ k,k<W.heap.size->∀ q ∈ c++L,(∀ q ∈ L,q.1≠k)->q.1≠k:=λk f q a d=>by
  rcases N1.1 a with a|a
  ·have:=(hk q a).1;omega
  ·exact d q a
 exact ⟨wv,av,A,p.row,p.gb,p.bel,p.fw,p.fa,p.fm,⟨p.fg.1,λq a=>out g (bZ h.row) q a p.fg.2⟩,λk e=>⟨(p.gw k e).1,(p.gw k e).2.1,(p.gw k e).2.2.1,λq a=>out k (h.fw.lt k e).2 q a (p.gw k e).2.2.2⟩,λk e=>⟨(p.ga k e).1,(p.ga k e).2.1,λq a=>out k (h.fa.lt k e).2 q a (p.ga k e).2.2⟩,λq a=>by
  rcases N1.1 a with a|a
  ·exact (hk q a).2
  ·exact p.lr q a⟩
theorem LN (k:Nat):∀ q ∈ aU au zeroA,q.v.ownBlock≠some k:=λq a=>by simp only [aU,L4,L7,or_false] at a;rcases a with rfl | rfl | rfl | rfl | rfl<;>simp [aK,aI,zeroA,Value.ownBlock]
theorem Bn.zero {W:H1} (f:W.heap[g]?=some (.cells (iL (.slice none 0 0) (.slice none 0 0) au zeroA) 38 (0,0))) (d:w0.heap.size<=g) (b:Bw w0 W) (c:∀ p ∈ L,p.1≠g/\W.heap[p.1]?=some p.2):Bn w0 g L (iL (.slice none 0 0) (.slice none 0 0) au zeroA) (.slice none 0 0) [] (.slice none 0 0) [] au zeroA W :=
 ⟨f,d,b,⟨rfl,.inl ⟨rfl,rfl⟩⟩,⟨rfl,.inl ⟨rfl,rfl⟩⟩,fH _ _ _,⟨LN g,λp a=>(c p a).1⟩,(λk e=>ki),(λk e=>ki),λp a=>(c p a).2⟩
theorem Hy (H:BareDoes) (s T:ByteArray) (f:List ByteArray) (w:H1) (hs:s.size<=20000) (v:w.ShapedOpen prog) (V:lY w) (U:Tp w) (S:(⟨(U1 s.data.toList [10]).toArray⟩:ByteArray)=T) (W:T.size<=20000) (u:T8 ⟨#[10]⟩ 0 (T6 T ⟨#[10]⟩) T=f) (Y:T6 T ⟨#[10]⟩+1=f.length) (hl:f.length<=200) (D:Rs f [] (qD ((iC [] 8192).getD [])) [] wsF MF anF) (X:0<anF.length):CB 8 #[.string s] w (.string ⟨anF.toArray⟩):=by
 have M:decide ((20000:Int)<(s.size:Int))=false:=by rw [JZ7];omega
 have O:decide ((200:Int)<(f.length:Int))=false:=by rw [JZ7];omega
 refine bE (args:=[.string s]) (λ_=>True) func8 ?_
 refine aE (R:=[]) trivial {eq:=[(11,aD M)]} 60 (Tryz.strings_TrimSuffix s ⟨#[10]⟩ w aa) ?_
 rintro e b ⟨rfl,y⟩
 subst y
 have i:(⟨(U1 s.data.toList (⟨#[10]⟩:ByteArray).data.toList).toArray⟩:ByteArray)=T:=S
 rw [i]
 refine ⟨_,0,rfl,?_⟩
 refine aE (R:=[]) trivial {} 60 (Tryz.strings_Split_shaped T ⟨#[10]⟩ b v aa ba) ?_
 rintro e a ⟨rfl,c⟩
 rw [u] at c
 rw [Y]
 refine ⟨_,0,rfl,?_⟩
 have B:Bw b a:=by rw [c];exact bal _ _
 have E:a.heap[b.heap.size]?=some (.cells (f.map V0).toArray 9 (0,0)):=by rw [c];exact G3 _ _
 clear c
 refine eU (R:=[]) trivial {eq:=[(17,aD O)]} 80 4 (dV (T:=38) (z:=.agg (iL (.slice none 0 0) (.slice none 0 0) au zeroA)) ab a) ?_
 refine du (R:=[]) trivial {} 20 (aF (g:=a.heap.size) (t:=38) (ty:=38) (old:=iL (.slice none 0 0) (.slice none 0 0) au zeroA) (cells:=iL (.slice none 0 0) (.slice none 0 0) au zeroA) (G3 _ _) ab rfl ab) ?_
 have h:Bw a ((a.alloc (.cells (iL (.slice none 0 0) (.slice none 0 0) au zeroA) 38)).setRow a.heap.size (iL (.slice none 0 0) (.slice none 0 0) au zeroA)):=aN (bal _ _) (A5 _) _
 have G:((a.alloc (.cells (iL (.slice none 0 0) (.slice none 0 0) au zeroA) 38)).setRow a.heap.size (iL (.slice none 0 0) (.slice none 0 0) au zeroA)).heap[a.heap.size]?=some (.cells (iL (.slice none 0 0) (.slice none 0 0) au zeroA) 38 (0,0)):=H3 _ _ _ _ _ _ (G3 _ _)
 have P:(V5 (iL (.slice none 0 0) (.slice none 0 0) au zeroA)).cells=iL (.slice none 0 0) (.slice none 0 0) au zeroA:=rfl
 rw [P]
 generalize (a.alloc (.cells (iL (.slice none 0 0) (.slice none 0 0) au zeroA) 38)).setRow a.heap.size (iL (.slice none 0 0) (.slice none 0 0) au zeroA)=I at h G ⊢
 have lt1:=bZ E
 have p2:Bn b a.heap.size [(b.heap.size,Obj.cells (f.map V0).toArray 9 (0,0))] _ _ [] _ [] _ _ I:=Bn.zero G B.size (ae B h) λp d=>by
  rw [L5.1 d]
  exact ⟨ca,aA h E⟩
 refine aE (R:=[]) trivial {} 40 (xE p2 (λx Z=>by cases Z) ba) ?_
 rintro e A ⟨rfl,C,F⟩
 obtain ⟨N,Q⟩:∃ N,N=qD ((iC [] 8192).getD []):=⟨_,rfl⟩
 rw [<- Q] at F D
 refine ⟨_,0,rfl,?_⟩
 refine aE (R:=[]) trivial {} 40 (Ly a.heap.size A) ?_
 rintro e J ⟨bx,m1,rfl,j,k,l,m,K⟩
 have p4:=(show Bf b a.heap.size _ [] N [] A from ⟨_,_,_,F⟩).addL K [(bx,mi a.heap.size),(m1,.map (xF bx) 3)] (λp d=>by
  rcases L4.1 d with rfl|d
  ·exact ⟨j,l⟩
  ·rw [L5.1 d];exact ⟨k,m⟩)
 refine ⟨_,0,rfl,?_⟩
 refine aE (R:=[]) trivial {} 40 (Og a.heap.size J) ?_
 rintro e W5 ⟨by_,m2,rfl,n,o,q,r,L⟩
 have p5:=p4.addL L [(by_,mi a.heap.size),(m2,.map (D2 by_) 5)] (λp d=>by
  rcases L4.1 d with rfl|d
  ·exact ⟨n,q⟩
  ·rw [L5.1 d];exact ⟨o,r⟩)
 refine ⟨_,0,rfl,?_⟩
 refine aO (R:=[]) trivial {} 3 ?_
 refine aH [.code (cQ 7 (bI Tryz.f8))] [(3,.slice (some ⟨b.heap.size,0,none⟩) f.length f.length,0),(4,.p a.heap.size 0,0),(5,.map (some m1),0),(6,.map (some m2),0)] ?_
 exact LM H p5 D X hl (lb:=b.heap.size) bh (bx:=bx) (by_:=by_) bh bh bh bh V U
end
def gP:List UInt8->List (List UInt8)->List UInt8
 | l,[]=>l
 | l,m::t=>l++10::gP m t
theorem Sb (l:List UInt8):T9 ⟨l.toArray⟩ ⟨#[10]⟩=Lib.indexByte l 10:=by exact Lib.index_one l 10
theorem Ol (h:(10:UInt8) ∉ A):T9 ⟨A.toArray⟩ ⟨#[10]⟩=-1:=by
 rw [Sb];rcases qR A 10 with ⟨c,_⟩|⟨a,b,c,_⟩;·exact c
 ·exact absurd (by rw [c];simp) h
theorem QQ {r:List UInt8} (h:(10:UInt8) ∉ A):T9 ⟨(A++10::r).toArray⟩ ⟨#[10]⟩=(A.length:Int):=by
 rw [Sb];rcases qR (A++10::r) 10 with ⟨_,c⟩|⟨a,b,d,c,e⟩;·exact absurd bh c
 ·obtain ⟨rfl,rfl⟩:=vB d h c;exact e
theorem vC:∀ (a:List (List UInt8)) (l:List UInt8),(∀ x ∈ l::a,(10:UInt8) ∉ x)->T8 ⟨#[10]⟩ 0 a.length ⟨(gP l a).toArray⟩=(l::a).map (λx=>(⟨x.toArray⟩:ByteArray))/\T6 ⟨(gP l a).toArray⟩ ⟨#[10]⟩=a.length
 | [],l,h=>⟨rfl,Lib.countB_miss _ _ (Ol (h l (S2 ..)))⟩
 | m::t,l,h=>by
   obtain ⟨g,i⟩:=vC t m λx j=>h x (M7 _ j)
   have c:=QQ (r:=gP m t) (h l (S2 ..))
   have d:(⟨(l++10::gP m t).toArray⟩:ByteArray).extract 0 (l.length+0)=⟨l.toArray⟩:=by
    rw [nj]
    simp
   have b:(⟨(l++10::gP m t).toArray⟩:ByteArray).extract (l.length+(⟨#[10]⟩:ByteArray).size) (⟨(l++10::gP m t).toArray⟩:ByteArray).size=⟨(gP m t).toArray⟩:=by
    rw [nj]
    have:(⟨#[10]⟩:ByteArray).size=1:=rfl
    rw [this]
    have e:(⟨(l++10::gP m t).toArray⟩:ByteArray).data.toList.drop (l.length+1)=gP m t:=by
     show ((l++10::gP m t).toArray.toList).drop (l.length+1)=_
     rw [<- T0]
     simp
    rw [e,R5]
    have f:(⟨(l++10::gP m t).toArray⟩:ByteArray).size=(l++10::gP m t).length:=by simp [U3]
    rw [f,L6,M5]
    omega
   refine ⟨?_,?_⟩
   ·show T8 ⟨#[10]⟩ 0 (t.length+1) ⟨(l++10::gP m t).toArray⟩=_
    rw [Lib.splitB_hit _ _ _ _ l.length c,d,b,g]
    rfl
   ·show T6 ⟨(l++10::gP m t).toArray⟩ ⟨#[10]⟩=t.length+1
    rw [Lib.countB_hit _ _ l.length ba c,b,i]
    omega
def Om (a b:Int):List Int:=[147,0,a,b,19,1,0,0,51,1,17,0,147,128,240,255,227,156,0,254,183,1,0,16,35,128,33,0,23,2,0,0,19,2,2,1,115,16,82,48,115,0,0,0,147,2,112,0]++S5 8144 0
def eR (a b pc x1 x2 x3 h i d e f g c:Int) (ys:List Int):MV:=⟨pc,[0,x1,x2,x3,h,i,0,0,0,0,0,0,0,0,0,0,0,0,0,0,0,0,0,0,0,0,0,0,0,0,0,0],3,[d,0,0,0,e,0,f,g,0,128,0,0,0,0,0,0,0,0,0,0,0,c],Om a b,⟨0,0,false,[],ys,0⟩,0,false,false⟩
def sU (n:Nat):Int:=((n%16*16:Nat):Int)
def sV (n:Nat):Int:=((n/16:Nat):Int)
section
variable (a b x1 x2 x3 c : Int) (ys : List Int)
set_option maxRecDepth 100000
theorem SU:cj (eR a b 2147483652 x1 0 0 0 0 0 0 0 0 c [])=(eR a b 2147483656 x1 0 0 0 0 0 0 0 0 (Uz.wrap (c+1)) [],1):=by kernel_rfl
theorem SV:cj (eR a b 2147483656 x1 x2 0 0 0 0 0 0 0 c [])=(eR a b 2147483660 x1 (Uz.wrap (x2+x1)) 0 0 0 0 0 0 0 (Uz.wrap (c+1)) [],1):=by kernel_rfl
theorem SW:cj (eR a b 2147483660 x1 x2 0 0 0 0 0 0 0 c [])=(eR a b 2147483664 (Uz.wrap (x1+18446744073709551615)) x2 0 0 0 0 0 0 0 (Uz.wrap (c+1)) [],1):=by kernel_rfl
theorem SX (k:Nat):cj (eR a b 2147483664 (Int.ofNat (k+1)) x2 0 0 0 0 0 0 0 c [])=(eR a b 2147483656 (Int.ofNat (k+1)) x2 0 0 0 0 0 0 0 (Uz.wrap (c+1)) [],1):=by kernel_rfl
theorem SY:cj (eR a b 2147483664 0 x2 0 0 0 0 0 0 0 c [])=(eR a b 2147483668 0 x2 0 0 0 0 0 0 0 (Uz.wrap (c+1)) [],1):=by kernel_rfl
theorem SZ:cj (eR a b 2147483668 0 x2 0 0 0 0 0 0 0 c [])=(eR a b 2147483672 0 x2 268435456 0 0 0 0 0 0 (Uz.wrap (c+1)) [],1):=by kernel_rfl
theorem S7:cj (eR a b 2147483672 0 x2 268435456 0 0 0 0 0 0 c [])=(eR a b 2147483676 0 x2 268435456 0 0 0 0 0 0 (Uz.wrap (c+1)) [IntKind.u8.wrap x2],1):=by kernel_rfl
theorem S8:cj (eR a b 2147483676 0 x2 268435456 0 0 0 0 0 0 c ys)=(eR a b 2147483680 0 x2 268435456 2147483676 0 0 0 0 0 (Uz.wrap (c+1)) ys,1):=by kernel_rfl
theorem S9:cj (eR a b 2147483680 0 x2 268435456 2147483676 0 0 0 0 0 c ys)=(eR a b 2147483684 0 x2 268435456 2147483692 0 0 0 0 0 (Uz.wrap (c+1)) ys,1):=by kernel_rfl
theorem Sd (n:Nat) (h:1<=n/\n<=40):cj (eR a b 2147483684 0 x2 268435456 2147483692 0 0 0 0 0 ((3*n+6:Nat):Int) ys)=(eR a b 2147483688 0 x2 268435456 2147483692 0 0 2147483692 0 0 (Uz.wrap (((3*n+6:Nat):Int)+1)) ys,1):=by
 obtain rfl|rfl|rfl|rfl|rfl|rfl|rfl|rfl|rfl|rfl|rfl|rfl|rfl|rfl|rfl|rfl|rfl|rfl|rfl|rfl|rfl|rfl|rfl|rfl|rfl|rfl|rfl|rfl|rfl|rfl|rfl|rfl|rfl|rfl|rfl|rfl|rfl|rfl|rfl|rfl:n=1\/n=2\/n=3\/n=4\/n=5\/n=6\/n=7\/n=8\/n=9\/n=10\/n=11\/n=12\/n=13\/n=14\/n=15\/n=16\/n=17\/n=18\/n=19\/n=20\/n=21\/n=22\/n=23\/n=24\/n=25\/n=26\/n=27\/n=28\/n=29\/n=30\/n=31\/n=32\/n=33\/n=34\/n=35\/n=36\/n=37\/n=38\/n=39\/n=40:=aa
 all_goals kernel_rfl
theorem Ta (n:Nat) (h:1<=n/\n<=40):cj (eR (sU n) (sV n) 2147483648 0 0 0 0 0 0 0 0 0 0 [])=(eR (sU n) (sV n) 2147483652 n 0 0 0 0 0 0 0 0 1 [],1):=by
 obtain rfl|rfl|rfl|rfl|rfl|rfl|rfl|rfl|rfl|rfl|rfl|rfl|rfl|rfl|rfl|rfl|rfl|rfl|rfl|rfl|rfl|rfl|rfl|rfl|rfl|rfl|rfl|rfl|rfl|rfl|rfl|rfl|rfl|rfl|rfl|rfl|rfl|rfl|rfl|rfl:n=1\/n=2\/n=3\/n=4\/n=5\/n=6\/n=7\/n=8\/n=9\/n=10\/n=11\/n=12\/n=13\/n=14\/n=15\/n=16\/n=17\/n=18\/n=19\/n=20\/n=21\/n=22\/n=23\/n=24\/n=25\/n=26\/n=27\/n=28\/n=29\/n=30\/n=31\/n=32\/n=33\/n=34\/n=35\/n=36\/n=37\/n=38\/n=39\/n=40:=aa
 all_goals kernel_rfl
theorem OY:cj (eR a b 2147483688 0 x2 268435456 2147483692 0 0 2147483692 0 0 c ys)=(eR a b 2147483692 0 x2 268435456 2147483692 0 6144 2147483692 2147483688 11 c ys,2):=by kernel_rfl
theorem Se:cj (eR a b 2147483692 0 x2 268435456 2147483692 0 6144 2147483692 2147483688 11 c ys)=(eR a b 2147483696 0 x2 268435456 2147483692 7 6144 2147483692 2147483688 11 (Uz.wrap (c+1)) ys,1):=by kernel_rfl
end
def Rn (k:Nat) (M N:MV):Prop:=∀ r,(bJ (k+r) M).1=(bJ r N).1/\oL (bJ (k+r) M).2=k+oL (bJ r N).2
theorem Rn.one (h:cj k=(l,t)) (a:(t != 4)):Rn 1 k l:=λr=>by
 rw [F3 1 r];have e:bJ (r+1) k=if ((cj k).2==4)=true then ((cj k).1,[(cj k).2]) else ((bJ r (cj k).1).1,(cj k).2::(bJ r (cj k).1).2):=rfl
 rw [h,JZ9 eo] at e;rw [e];exact ⟨rfl,by unfold oL;rw [List.countP_cons,JZ8 a,F3]⟩
theorem Rn.trans {O:MV} (h:Rn L k l) (g:Rn w l O):Rn (L+w) k O:=λr=>by obtain ⟨a,b⟩:=h (w+r);obtain ⟨c,d⟩:=g r;rw [<- A6] at a b;exact ⟨a.trans c,by rw [b,d,A6]⟩
def je:Nat->Nat
 | 0=>0
 | n+1=>(n+1)+je n
theorem wr (h:o<18446744073709551616):Uz.wrap (o:Int)=o:=by rw [V6];omega
theorem wc (h:L+1<18446744073709551616):Uz.wrap ((L:Int)+1)=((L+1:Nat):Int):=by rw [V6];omega
theorem Fw (s c:Nat) (f:s+(y+1)<18446744073709551616) (i:c+2<18446744073709551616):Rn 2 (eR q r 2147483656 ((y+1:Nat):Int) s 0 0 0 0 0 0 0 c []) (eR q r 2147483664 (y:Int) ((s+(y+1):Nat):Int) 0 0 0 0 0 0 0 ((c+2:Nat):Int) []):=by
 have d:=SV q r ((y+1:Nat):Int) s c;have g:Uz.wrap ((s:Int)+((y+1:Nat):Int))=((s+(y+1):Nat):Int):=by rw [<- wr (s+(y+1)) f];congr 1
 rw [g,wc aa] at d;have e:=SW q r ((y+1:Nat):Int) ((s+(y+1):Nat):Int) ((c+1:Nat):Int);have h:Uz.wrap (((y+1:Nat):Int)+18446744073709551615)=(y:Int):=by rw [V6];omega
 rw [h,wc aa] at e;exact (Rn.one d rfl).trans (Rn.one e rfl)
theorem LO:∀ (s c:Nat),s+je (y+1)<18446744073709551616->c+3*(y+1)<18446744073709551616->Rn (3*(y+1)) (eR q r 2147483656 ((y+1:Nat):Int) s 0 0 0 0 0 0 0 c []) (eR q r 2147483668 0 ((s+je (y+1):Nat):Int) 0 0 0 0 0 0 0 ((c+3*(y+1):Nat):Int) []):=by
 induction y with
 | zero =>intro s c d h;have e:je (0+1)=0+1:=rfl;rw [e] at d ⊢;have g:=SY q r ((s+(0+1):Nat):Int) ((c+2:Nat):Int);rw [wc aa] at g;exact (Fw q r 0 s c d aa).trans (Rn.one g rfl)
 | succ y i =>intro s c d h;have e:je (y+1+1)=(y+1+1)+je (y+1):=rfl;have f:=SX q r ((s+(y+1+1):Nat):Int) ((c+2:Nat):Int) y;rw [wc aa] at f;have b:=(Fw q r (y+1) s c aa aa).trans ((Rn.one f rfl).trans (i (s+(y+1+1)) (c+2+1) aa aa));have j:2+(1+3*(y+1))=3*(y+1+1):=aa;have l:s+(y+1+1)+je (y+1)=s+je (y+1+1):=(by rw [e];omega);have m:c+2+1+3*(y+1)=c+3*(y+1+1):=aa;rw [j,l,m] at b;exact b
theorem vD:∀ n,n<=40->je n<=820:=by decide
theorem Fx (h:1<=o/\o<=40):(bJ (3*o+9) (eR (sU o) (sV o) 2147483648 0 0 0 0 0 0 0 0 0 0 [])).1=eR (sU o) (sV o) 2147483696 0 (je o) 268435456 2147483692 7 6144 2147483692 2147483688 11 ((3*o+8:Nat):Int) [IntKind.u8.wrap (je o)]/\oL (bJ (3*o+9) (eR (sU o) (sV o) 2147483648 0 0 0 0 0 0 0 0 0 0 [])).2=3*o+9:=by
 obtain ⟨k,rfl⟩:∃ k,o=k+1:=⟨o-1,aa⟩;have x:=vD (k+1) h.2;obtain ⟨a,v⟩:∃ a,sU (k+1)=a:=⟨_,rfl⟩;obtain ⟨b,w⟩:∃ b,sV (k+1)=b:=⟨_,rfl⟩;have i:=Ta (k+1) h;rw [v,w] at i ⊢;have j:=SU a b ((k+1:Nat):Int) ((1:Nat):Int);rw [wc aa] at j;have l:=LO a b k 0 2 aa aa;have u:(2+3*(k+1):Nat)=3*(k+1)+2:=aa
 rw [Nat.zero_add,u] at l;have m:=SZ a b (je (k+1)) ((3*(k+1)+2:Nat):Int);rw [wc aa] at m;have f:=S7 a b (je (k+1)) ((3*(k+1)+3:Nat):Int);rw [wc aa] at f;obtain ⟨ys,g⟩:∃ ys,[IntKind.u8.wrap ((je (k+1):Nat):Int)]=ys:=⟨_,rfl⟩;rw [g] at f ⊢;have n:=S8 a b (je (k+1)) ((3*(k+1)+4:Nat):Int) ys;rw [wc aa] at n;have p:=S9 a b (je (k+1)) ((3*(k+1)+5:Nat):Int) ys;rw [wc aa] at p;have e:=Sd a b (je (k+1)) ys (k+1) h;have c:=OY a b (je (k+1)) ((3*(k+1)+7:Nat):Int) ys;rw [wc aa] at e;have c:=OY a b (je (k+1)) ((3*(k+1)+7:Nat):Int) ys;have d:=Se a b (je (k+1)) ((3*(k+1)+7:Nat):Int) ys;rw [wc aa] at d;have r:=(Rn.one i rfl).trans ((Rn.one j rfl).trans (l.trans ((Rn.one m rfl).trans ((Rn.one f rfl).trans ((Rn.one n rfl).trans ((Rn.one p rfl).trans ((Rn.one e rfl).trans ((Rn.one c rfl).trans (Rn.one d rfl)))))))));obtain ⟨s,t⟩:=r 0;have q:1+(1+(3*(k+1)+(1+(1+(1+(1+(1+(1+1))))))))+0=3*(k+1)+9:=aa
 rw [q] at s t;refine ⟨s,?_⟩;rw [t];show 1+(1+(3*(k+1)+(1+(1+(1+(1+(1+(1+1))))))))+0=_;omega
def QR (n:Int):List Ins:=[⟨22,1,0,0,n⟩,⟨22,2,0,0,0⟩,⟨35,2,2,1,0⟩,⟨22,1,1,0,-1⟩,⟨6,0,1,0,-8⟩,⟨1,3,0,0,268435456⟩,⟨18,0,3,2,0⟩,⟨2,4,0,0,0⟩,⟨22,4,4,0,16⟩,⟨87,0,4,0,773⟩,⟨93,0,0,0,0⟩,⟨22,5,0,0,7⟩]
def Hz (n:Nat):List Int:=[((1048576*n+147:Nat):Int),275,1114419,4293951635,4261453027,268435895,2195491,535,16908819,810684531,115,7340691]
theorem BZ {P:Int->Prop} (b:P 0) (h:∀ y ∈ n,P y) (j:Nat):P (n.getD j 0):=by
 rcases F0 j n.length with a|a;·rw [P2,R4 a];exact h _ (List.getElem_mem a)
 ·rw [P2,List.getElem?_eq_none a];exact b
theorem B4 (pc x1 x2 x3 i j e f g h c:Int) (ys:List Int) (k:ys.length<=10):iW (eR q r pc x1 x2 x3 i j e f g h c ys):=
 ⟨(by decide:32<=1048576),(by decide:22<=1048576),(by show (Om q r).length<=_;rw [Om,L6,List.length_replicate];exact (by decide:48+8144<=1048576)),Nat.zero_le _,(by show ys.length<=_;omega)⟩
theorem B5 {b pc x1 x2 x3 k l e f g i c:Int} (s:0<=t/\t<=255) (hb:0<=b/\b<=255) (d:U pc) (ys:U x1) (o:U x2) (p:U x3) (q:U k) (r:U l) (a:U e) (u:U f) (v:U g) (w:U i) (x:U c) (m:∀ y ∈ n,0<=y/\y<=255):DD (eR t b pc x1 x2 x3 k l e f g i c n):=by
 have u0:U 0:=⟨ba,ba⟩;have u128:U 128:=⟨ba,ba⟩;refine ⟨⟨λj=>BZ u0 (λy h=>?_) j,λy h=>uL ?_,(λy h=>hh),λy h=>uL (m y h)⟩,λj=>BZ u0 (λy h=>?_) j,d,u0,u0,u0⟩;·simp only [eR,L4,L7,or_false] at h;rcases h with rfl | rfl | rfl | rfl | rfl | rfl | rfl | rfl | rfl | rfl | rfl | rfl | rfl | rfl | rfl | rfl | rfl | rfl | rfl | rfl | rfl | rfl<;>assumption
 ·simp only [eR,Om,N1,L4,L7,or_false,List.mem_replicate] at h;omega
 ·simp only [eR,L4,L7,or_false] at h;rcases h with rfl|rfl|rfl|rfl|rfl|rfl|rfl|rfl|rfl|rfl|rfl|rfl|rfl|rfl|rfl|rfl|rfl|rfl|rfl|rfl|rfl|rfl|rfl|rfl|rfl|rfl|rfl|rfl|rfl|rfl|rfl|rfl<;>assumption
set_option maxRecDepth 100000
theorem QS:eW (eR q r 2147483648 0 0 0 0 0 0 0 0 0 0 []):=by kernel_rfl
theorem Fy:IntKind.u8.wrap (je o:Nat)=((je o%256:Nat):Int):=by rw [IntKind.wrap_u8];omega
theorem On (h:1<=o/\o<=40) (N:MV) (a:N=eR (sU o) (sV o) 2147483696 0 (je o) 268435456 2147483692 7 6144 2147483692 2147483688 11 ((3*o+8:Nat):Int) [IntKind.u8.wrap (je o)]):eW N/\(lB N.cs.length N.cs 834 3/\mI N.cs.length N.cs 834 3=((11:Nat):Int))/\lB N.cs.length N.cs 833 3/\mI N.cs.length N.cs 833 3=((2147483688:Nat):Int):=by
 subst a;obtain rfl|rfl|rfl|rfl|rfl|rfl|rfl|rfl|rfl|rfl|rfl|rfl|rfl|rfl|rfl|rfl|rfl|rfl|rfl|rfl|rfl|rfl|rfl|rfl|rfl|rfl|rfl|rfl|rfl|rfl|rfl|rfl|rfl|rfl|rfl|rfl|rfl|rfl|rfl|rfl:o=1\/o=2\/o=3\/o=4\/o=5\/o=6\/o=7\/o=8\/o=9\/o=10\/o=11\/o=12\/o=13\/o=14\/o=15\/o=16\/o=17\/o=18\/o=19\/o=20\/o=21\/o=22\/o=23\/o=24\/o=25\/o=26\/o=27\/o=28\/o=29\/o=30\/o=31\/o=32\/o=33\/o=34\/o=35\/o=36\/o=37\/o=38\/o=39\/o=40:=aa
 all_goals exact ⟨ab,⟨ab,ab⟩,ab,ab⟩
theorem H0 (h:1<=o/\o<=40):qD ((iC (Hz o) 8192).getD [])=eR (sU o) (sV o) 2147483648 0 0 0 0 0 0 0 0 0 0 []:=by
 obtain rfl|rfl|rfl|rfl|rfl|rfl|rfl|rfl|rfl|rfl|rfl|rfl|rfl|rfl|rfl|rfl|rfl|rfl|rfl|rfl|rfl|rfl|rfl|rfl|rfl|rfl|rfl|rfl|rfl|rfl|rfl|rfl|rfl|rfl|rfl|rfl|rfl|rfl|rfl|rfl:o=1\/o=2\/o=3\/o=4\/o=5\/o=6\/o=7\/o=8\/o=9\/o=10\/o=11\/o=12\/o=13\/o=14\/o=15\/o=16\/o=17\/o=18\/o=19\/o=20\/o=21\/o=22\/o=23\/o=24\/o=25\/o=26\/o=27\/o=28\/o=29\/o=30\/o=31\/o=32\/o=33\/o=34\/o=35\/o=36\/o=37\/o=38\/o=39\/o=40:=aa
 all_goals kernel_rfl
