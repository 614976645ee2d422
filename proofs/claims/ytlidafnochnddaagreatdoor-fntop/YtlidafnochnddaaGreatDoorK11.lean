/- Own lemmas. -/
import Derived.Test.YtlidafnochnddaaGreatDoorAut
import Derived.Test.YtlidafnochnddaaGreatDoorK09
import Derived.Test.YtlidafnochnddaaGreatDoorK10
import Derived.Stop.Asserts
import Derived.Handy
set_option maxRecDepth 100000
set_option maxHeartbeats 4000000
namespace Go.Proofs.YtlidafnochnddaaGreatDoor
open Go.RowKit Tryz
open IntKind renaming u64->Uz
open Below renaming refl->U2,heap_alloc->U3,alloc->U5
open Bool renaming and_eq_true->N1,and_false->P2,true_and->R4,or_eq_false_iff->R5,false_and->S1,and_true->S2
open Go renaming bits->A0,World->A5,Calls->A6,heap_alloc_new->F0,Value->F3,setRow_heap->G3,TypeId->H1,wpList_store_rowTo->H2,bodyPost_ret->H3,frozen_of_row->H5,run_typeAssert_lacksB->H8,cell_of_row->I4,Addr->I5,run_typeAssert_hasB->K0,Program->K1,results_cell_row->K4,run_underlying->L4,Oper->L5
open Go.RowKit renaming wrap64->T2
open Instr renaming typeAssert->T7,index->T8
open Int renaming toNat_natCast->T3
open List renaming replicate->T9,getElem?_eq_getElem->U0,getD->U1
open Nat renaming le_refl->M5,lt_of_lt_of_le->M7
open Result renaming andThen_ok->U8,andThen->V0
open Sem renaming run_bind->U6,run_pure->U7
open Value renaming int->L6,agg->L7
open World renaming block_lt_of_cell?->T4,setCell->T5,ownsRow->T6
open _root_.Array renaming replicate->S5,getElem?_eq_some_iff->T0
set_option linter.unusedVariables false
variable {l:Nat} {x:A5} {w:List Int} {n:Array L5} {m:Exit->Act->A5->Prop} {k:K1} {a:List L5} {y:Act} {p:H1} (c:Int) (f:Option I5) (t b:Nat) (g:List Int) (Q e:Int) (P:A5) (s:Nat)
theorem Rf {P:K1} {n:Nat} {fn:Func} {Rs:Ending->A5->Prop} {k:List KI} {F:Fr} {w W:A5} {bs:List (Array F3 × H1)} (hS:Bs w bs W) (H:Hn P (Bs w bs) (Bs w bs)) (m:Nat) {i:Nat} {old:Array F3} {t T:H1} {d:TypeDesc} {cs:Array F3} {p:Nat} (hb:bs[i]?=some (old,t)) (o:old.size=cs.size) (j:(P.info? T).map (·.size)=some cs.size) (c:cs.all (·.oneCell')) (q:P.underlying T=some d) (hd:(match d with | .struct _ | .array _ _=>true | _=>false)=true) (e:fn.results=#[.cell p T]) (hx:(λ(y:Bool × List KI × Fr)=>(y.1,Gg n y.2.2 y.2.1,wQ y.2.2 y.2.1,gM (oS y.2.2 y.2.1))) (aP P (kD w.heap.size bs) H n true m k F).1=(false,some (do Instr.storeAt T (.p (w.heap.size+i) 0) (.agg cs);pure Next.skip),false,true)) (he:(aP P (kD w.heap.size bs) H n true m k F).2.map Prod.fst=(aP P (kD w.heap.size bs) H n true m k F).2.map Prod.snd) (f:∀ X,(λ(z:(Bool × List KI × Fr) × List (Oe × Oe))=>(z.1.1,(lk z.1.2.2 p).map Prod.fst,z.2.map Prod.fst)) (aP P [] ({}:Hn P (λx=>x=X) (λx=>x=X)) n false m (oS (aP P (kD w.heap.size bs) H n true m k F).1.2.2 (aP P (kD w.heap.size bs) H n true m k F).1.2.1) (qG (aP P (kD w.heap.size bs) H n true m k F).1.2.2 (aP P (kD w.heap.size bs) H n true m k F).1.2.1 undef 0))=(true,some (.p (w.heap.size+i) 0),(aP P [] ({}:Hn P (λx=>x=X) (λx=>x=X)) n false m (oS (aP P (kD w.heap.size bs) H n true m k F).1.2.2 (aP P (kD w.heap.size bs) H n true m k F).1.2.1) (qG (aP P (kD w.heap.size bs) H n true m k F).1.2.2 (aP P (kD w.heap.size bs) H n true m k F).1.2.1 undef 0)).2.map Prod.snd)) (h:∀ V,Bw w V->Rs (.returned (.agg cs)) V):Wg P (Bs w bs) (bodyPost P fn Rs) n k F W:=by simp only [Prod.mk.injEq] at hx f;refine ak Bs.eng H m hS (hret:=hx.1) (he:=he) λr g=>?_;have b:=g.1 i _ hb;refine cP (hx:=hx.2.1) (aF b j o c) (hS:=jw hx.2.2.1) ?_;refine jM (R:=[]) trivial {} m (hx:=by rw [hx.2.2.2,(f _).1]) (he:=(f _).2.2) λa l=>⟨_,K4 e _ _ _ _ _ _ _ (l.slot (f _).2.1) (G3 _ _ _ _ _ _ b) q hd j,h _ (ay g.2 aa _)⟩
theorem mD:U (wantV c Q):=by
 unfold wantV;split;·exact af _ _ _
 ·exact af _ _ _
def g9 (kind:Int):Bool:=decide (1<=kind/\kind<=3)
def mE (n m:Nat) (l:List Int) (p kind:Int):Bool:=bA n&&aQ m l p&&g9 kind
def Eo (zs:List Int) (n m:Nat) (l:List Int) (p va kind:Int):Int:=if mE n m l p kind=true then (walkV zs n l p va kind).addr else 0
def Ep (zs:List Int) (n m:Nat) (l:List Int) (p va kind:Int):Int:=if mE n m l p kind=true then (walkV zs n l p va kind).code else if g9 kind=true then faultC kind else 1
def bG (zs:List Int) (f:Fd):List Int:=if f.marked=true then iM zs (f.at_-2147483648).toNat f.entry 8 else zs
def ur (zs:List Int) (n m:Nat) (l:List Int) (p va kind:Int):List Int:=if mE n m l p kind=true then bG zs (walkV zs n l p va kind) else []
theorem nL (f:Fd):(bG g f).length=g.length:=by
 unfold bG;split;·rw [gQ]
 ·rfl
theorem nM {o:Obj} (h:x.heap[l]?=some o) (a:Obj):(x.alloc a).heap[l]?=some o:=(U3 x a l (T0.1 h).1).trans h
theorem CY (hb:s<=P.heap.size) (o:Obj) (a:o=.cells #[] 5 (0,0)):(P.alloc o).ownsRow s 5 1 (.slice (some ⟨P.heap.size,0,none⟩) 0 0) 0 (([]:List Int).map (L6 .u8)):=by subst a;exact World.ownsRow_lit P #[] 0 hb ct rfl
def iX (kind:Int):Int:=if kind=1 then 17 else if kind=2 then 21 else 23
def qV (kind:Int):Int:=if kind=1 then 16 else if kind=2 then 20 else 22
def dc (M:MV) (R:List Int):MV:=⟨M.pc,M.x,M.pr,M.cs,R,M.d,M.hd,M.hl,M.wt⟩
def dg (M:MV) (D:DV):MV:=⟨M.pc,M.x,M.pr,M.cs,M.ram,D,M.hd,M.hl,M.wt⟩
def ut (M:MV):MV:=⟨M.pc,M.x,M.pr,M.cs,M.ram,M.d,0,false,M.wt⟩
def yA (M:MV) (pa:Int):Bool:=M.hl&&(A0 .andNot .u64 M.hd 7==A0 .andNot .u64 pa 7)
def nf (M:MV) (pa:Int):MV:=if yA M pa=true then ut M else M
def rS (M:MV) (pa size kind x:Int):Int × MV × Int :=
 if iP M.ram.length pa size=true then
  (if (kind==3)=true then (0,nf (dc M (iM M.ram (pa-2147483648).toNat x size.toNat)) pa,0) else (le M.ram (pa-2147483648).toNat size.toNat,M,0))
 else if (kind==2)=true then
  (if (ml M.d (ic pa size)).2.2=true then ((ml M.d (ic pa size)).1,dU (dg M (ml M.d (ic pa size)).2.1),0) else (0,M,iX kind))
 else if (kind==3)=true then
  (if (fy M.d x (ic pa size)).2=true then (0,nf (dU (dg M (fy M.d x (ic pa size)).1)) pa,0) else (0,M,iX kind))
 else (0,M,iX kind)
def Gk (l:List Int) (p pa size kind:Int):Bool:=decide (lastOf pa size<pa)||!permRest l p pa (lastOf pa size) kind 4 0
def yB (M:MV) (p addr size kind x:Int) (F:Fd):Int × MV × Int :=
 if (F.code != 0)=true then (0,dc M (bG M.ram F),T2 (F.code+16))
 else if Gk M.cs p F.addr size kind=true then (0,dc M (bG M.ram F),iX kind)
 else rS (dc M (bG M.ram F)) F.addr size kind x
def aT (M:MV) (addr size kind x:Int):Int × MV × Int :=
 if (addr%size != 0)=true then (0,M,qV kind)
 else yB M (il M.cs M.pr kind) addr size kind x (walkV M.ram M.ram.length M.cs (il M.cs M.pr kind) addr kind)
def jz (n:Nat) (x:List Int):Bool:=decide (n=32)&&(x.getD 0 0==0)
def ly (M:MV):Bool:=A0 .and .u64 (M.cs.getD 9 0) 2184==dK M.d
def eW (M:MV):Bool:=(A0 .and .u64 M.pc 3==0)&&jz M.x.length M.x&&aQ M.cs.length M.cs M.pr&&bA M.ram.length&&lm M.d.xs.length M.d.ys.length M.d.ir&&(M.hl||(M.hd==0))&&ly M
theorem nN {p:Int} (h:aQ l w p):l=22:=by unfold aQ bp at h;simp only [N1,JZ6] at h;exact h.1.1
inductive CK where
 | plain (b:Int) | mst | mie | mip | satp | cfg | addr (e:Nat)
def CK.ty:CK->Nat
 | .plain _=>182 | .mst=>180 | .mie=>183 | .mip=>184 | .satp=>185 | .cfg=>186 | .addr _=>188
def CK.val:CK->F3
 | .plain b=>.agg #[.u b] | .mst=>.agg #[] | .mie=>.agg #[] | .mip=>.agg #[] | .satp=>.agg #[] | .cfg=>.agg #[] | .addr e=>.agg #[.i e]
def QV:List (Int × CK):=[(768,.mst),(770,.plain 46079),(771,.plain 546),(772,.mie),(773,.plain 18446744073709551613),(832,.plain 18446744073709551615),(833,.plain 18446744073709551612),(834,.plain 9223372036854775823),
 (835,.plain 18446744073709551615),(836,.mip),(261,.plain 18446744073709551613),(320,.plain 18446744073709551615),(321,.plain 18446744073709551612),(322,.plain 9223372036854775823),(323,.plain 18446744073709551615),(384,.satp),
 (928,.cfg),(944,.addr 0),(945,.addr 1),(946,.addr 2),(947,.addr 3),(2818,.plain 18446744073709551615)]
def yC (r:Int × CK):List Value:=[.i r.1,.iface r.2.ty r.2.val]
def fi:Array Value:=(QV.flatMap yC).toArray
def qd:Array Value:=(T9 22 [L6 .i64 0,.nilIface]).flatten.toArray
theorem yD:qd.size=44:=by kernel_rfl
theorem lz:fi.size=44:=by kernel_rfl
theorem yE:(prog.info? 134).bind (·.zero)=some (.agg qd):=by kernel_rfl
theorem yF:fi.all (·.oneCell'):=by kernel_rfl
theorem qe:(prog.info? 134).map (·.size)=some 44:=by kernel_rfl
def mF (P:K1):List L5->Act->Option Act
 | [],a=>some a
 | o::l,a =>
   match o.guard,o.op with
   | none,.build t parts =>
     match P.built t (parts.map λ(i,x)=>(i,a.eval x)).toList with
     | some cells=>mF P l (a.put o.dst (.agg cells))
     | none=>none
   | none,.makeInterface t x=>if P.concrete t=true then mF P l (a.put o.dst (.iface t (a.eval x))) else none
   | _,_=>none
theorem uu {b:Array L5}:∀ (l rest:List L5) (a c:Act),mF k l a=some c->wpList k b m rest c x->wpList k b m (l++rest) a x:=by
 intro l;induction l with
 | nil=>intro rest a c h d;simp [mF] at h;subst h;exact d
 | cons o l i =>
   intro rest a c h d;unfold mF at h;split at h
   ·rename_i t parts f g;split at h;·rename_i cells e;exact wpList_buildTo f t parts g o.dst rfl cells e (i _ _ _ h d)
    ·cases h
   ·rename_i t w f g;split at h;·rename_i e;exact xO f o.dst rfl (.iface t (a.eval w)) (by simp [execOp,g,run_makeInterface x t _ e]) (i _ _ _ h d)
    ·cases h
   ·cases h
theorem qW {c:Array L5} (n:Nat) (v w:F3) (h:(mF k (a.take t) y).map (λs=>(s.tmps.getD b undef,s.tmps.getD n undef,s.defers))=some (v,w,[])) (e:∀ s:Act,s.tmps.getD b undef=v->s.tmps.getD n undef=w->s.defers=[]->wpList k c m (a.drop t) s x):wpList k c m a y x:=by
 rw [<- List.take_append_drop t a];cases d:mF k (a.take t) y with
 | none=>rw [d] at h;cases h
 | some s =>rw [d] at h;simp only [Option.map_some,Option.some.injEq,Prod.mk.injEq] at h;exact uu _ _ _ _ d (e s h.1 h.2.1 h.2.2)
theorem Au:CB 83 #[] P (.agg fi):=by go_enter func83,ntmps83;apply wp_seq_k;intro c b;apply wp_region_list;refine bL rfl 134 rfl (some 0) rfl _ yE ?_;apply wpList_nil;refine b _ _ ?_;clear b c;apply wp_seq_k;intro c b;apply wp_region_lit;refine qW 67 0 67 (.p P.heap.size 0) (.agg fi) ab ?_;intro m f d j;have g:(P.alloc (.cells (L7 qd).cells 134)).heap[P.heap.size]?=some (.cells qd 134 (0,0)):=F0 _ _;refine H2 rfl 134 (.tmp 0) (.tmp 67) rfl rfl P.heap.size fi f d 134 qd g (by rw [qe,lz]) (by rw [yD,lz]) yF ?_;apply wpList_nil;refine b _ _ ?_;clear b c;apply wp_ret;refine H3 (K4 results83 _ _ _ _ _ _ _ f (G3 _ _ _ _ _ _ g) underlying134 rfl (by rw [qe,lz])) j ⟨rfl,?_⟩;exact ay (bal _ _) (M5 _) _
theorem ou:A6 prog 83 #[] P λe a=>∃ T,e=.returned T/\Hid (T=.agg fi)/\Bw P a :=
 (Au P).mono λe a h=>⟨.agg fi,h.1,(rfl:L7 fi=.agg fi),h.2⟩
theorem yG:QV.length=22:=by rfl
def eO (k:Nat):Int × CK:=QV.getD k (0,.mst)
theorem Jd (h:t<22):QV[t]'(by rw [yG];exact h)=eO t:=by simp [eO,U1,U0 (show t<QV.length by rw [yG];exact h)]
theorem vX (h:t<22):fi.extract (t*2) (t*2+2)=(yC (eO t)).toArray:=by have:=qH yC 2 QV (by intro x _;rfl) t (by rw [yG];exact h);rw [Jd t h] at this;rw [<- this];simp [fi]
theorem CZ (kk:IntKind) (k:Nat) (hk:k<22):(T8 134 (.agg fi) (.int kk (k:Int))).run prog P=.ok (.agg #[.i (eO k).1,.iface (eO k).2.ty (eO k).2.val]) P:=by
 have f:(sizeOf 133).run prog P=.ok 2 P:=by
  obtain ⟨g,e,a⟩:∃ i,prog.info? 133=some i/\i.size=2:=by
   have h:(prog.info? 133).map (·.size)=some 2:=ab;cases b:prog.info? 133 with
   | none=>rw [b] at h;cases h
   | some i=>rw [b] at h;exact ⟨i,rfl,dd⟩
  simp [sizeOf,typeInfo,e,a]
 have c:(isAgg 133).run prog P=.ok true P:=by simp [isAgg,L4 underlying133]
 have d:(0:Int)<=(k:Int)/\(k:Int)<((22:Nat):Int):=aa
 unfold T8;simp only [asIntOf,U6,U7,U8,L4 underlying134];rw [JZ8 d];simp only [U6,f,U8,part,c,T3,if_true,U7];rw [vX k hk];rfl
theorem fE {o:L5} {T:F3} (e:Hid (T=.agg fi)) (kk:IntKind) (k:Nat) (hk:k<22) (r:Int × CK) (l:Hid (r=eO k)) (f:o.guard=none) (w i:Operand) (j:o.op=.index 134 w i) (hx:y.eval w=T) (g:y.eval i=.int kk (k:Int)) (h:wpList prog n m a (y.put o.dst (.agg #[.i r.1,.iface r.2.ty r.2.val])) x):wpList prog n m (o::a) y x:=by
 refine wpList_plain f λK d=>?_;have b:(execOp y.eval o).run prog x=.ok (.value (.agg #[.i r.1,.iface r.2.ty r.2.val])) x:=by simp [execOp,j,hx,g,e.out,l.out,CZ x kk k hk]
 unfold Oper.wp;rw [b,Oper.upon_value];exact d _ _ h
def fZ (x:Int):Bool:=(aG x 60 4==0)||(aG x 60 4==8)
def Av (x:Int) (k:Nat):Int:=if (A0 .and .u64 (A0 .and .u64 (aG x (8*k) 8) 159) 1==0)=true then A0 .andNot .u64 (A0 .and .u64 (aG x (8*k) 8) 159) 2 else A0 .and .u64 (aG x (8*k) 8) 159
def pj (x:Int):Nat->Int
 | 0=>0
 | k+1=>A0 .or .u64 (pj x k) (Uz.wrap (Av x k*2^(8*k)))
def fT:CK->Int->Int
 | .plain b,x=>A0 .and .u64 x b
 | .mst,x=>if (A0 .and .u64 x 6144==4096)=true then A0 .andNot .u64 (A0 .and .u64 x 924074) 6144 else A0 .and .u64 x 924074
 | .mie,x=>A0 .and .u64 x 2730
 | .mip,x=>A0 .and .u64 x 2730
 | .satp,x=>if fZ x=true then x else 0
 | .cfg,x=>pj x 4
 | .addr _,x=>A0 .and .u64 x 18014398509481983
def eK (c:Int) (e:Nat):Bool:=(A0 .and .u64 (aG c (8*e) 8) 128 != 0)
def gC (c:Int) (e:Nat):Int:=aG c (8*e+3) 2
def fz (c:Int):Nat->Int
 | 0=>0
 | k+1=>if eK c k=true then A0 .or .u64 (fz c k) (Uz.wrap (255*2^(8*k))) else fz c k
def iy (c:Int):CK->Int->Int
 | .mip,_=>2184
 | .satp,x=>if fZ x=true then 0 else 18446744073709551615
 | .cfg,_=>fz c 4
 | .addr e,_=>if (eK c e||(eK c (e+1)&&(gC c (e+1)==1)))=true then 18446744073709551615 else 0
 | _,_=>0
def CK.fitF:CK->Nat
 | .plain _=>295 | .mst=>293 | .mie=>296 | .mip=>298 | .satp=>301 | .cfg=>304 | .addr _=>307
def CK.staysF:CK->Nat
 | .mip=>299 | .satp=>302 | .cfg=>305 | .addr _=>308 | _=>0
def CK.viewF:CK->Nat
 | .mst=>294 | .mie=>297 | .mip=>300 | _=>0
theorem nO (g:0<=c) (j:c<18446744073709551616) (w:A5):A6 prog 303 #[.u c] w λe x=>e=.returned (.bool (fZ c))/\x=w.drew:=by
 have d:Hid (∀ w,A6 prog 73 #[.u c,.i 60,.i 4] w λe x=>e=.returned (.u (aG c 60 4))/\x=w.drew):=λw=>aL c 60 4 g j aa aa w;have F:Hid (fZ c=((aG c 60 4==0)||(aG c 60 4==8))):=(rfl:fZ c=_);generalize aG c 60 4=y at *;cases f:(y==0) with
 | true =>rw [f] at F;go_enter func303,ntmps303;go_wp2_with fail;refine (d.out _).mono ?_;rintro e l ⟨rfl,b⟩;exact ob
 | false =>rw [f] at F;go_enter func303,ntmps303;go_wp2_with fail;refine (d.out _).mono ?_;rintro e l ⟨rfl,b⟩;exact ob
theorem nP (hk:t<5) (g:0<=c) (j:c<18446744073709551616) (w:A5):A6 prog 264 #[.u c,.i t] w λe x=>e=.returned (.u (aG c (8*t) 8))/\x=w.drew:=by
 obtain ⟨q,d⟩:∃ q,8*t=q:=⟨_,rfl⟩;have l:T2 (8*(t:Int))=(q:Int):=by unfold T2;omega
 rw [d];have f:Hid (∀ w,A6 prog 73 #[.u c,.i q,.i 8] w λe x=>e=.returned (.u (aG c q 8))/\x=w.drew):=λw=>aL c q 8 g j aa aa w;clear d hk;generalize aG c q 8=y at *;go_enter func264,ntmps264;go_wp2_with fail;refine (f.out _).mono ?_;rintro e m ⟨rfl,b⟩;subst b;exact oj
theorem qf (hk:t<5) (l:0<=c) (m:c<18446744073709551616) (w:A5):A6 prog 270 #[.u c,.i t] w λe f=>e=.returned (.u (gC c t))/\f=w.drew:=by
 obtain ⟨q,g⟩:∃ q,8*t+3=q:=⟨_,rfl⟩;obtain ⟨b,x⟩:∃ b,8*t=b:=⟨_,rfl⟩;have p:T2 (8*(t:Int))=(b:Int):=by unfold T2;omega
 have o:T2 ((b:Int)+3)=(q:Int):=by unfold T2;omega
 unfold gC;rw [g];have j:Hid (∀ w,A6 prog 73 #[.u c,.i q,.i 2] w λe f=>e=.returned (.u (aG c q 2))/\f=w.drew):=λw=>aL c q 2 l m aa aa w;clear g x hk;generalize aG c q 2=y at *;go_enter func270,ntmps270;go_wp2_with fail;refine (j.out _).mono ?_;rintro e r ⟨rfl,d⟩;subst d;exact oj
theorem lA (hk:t<5) (f:0<=c) (g:c<18446744073709551616) (w:A5):A6 prog 306 #[.u c,.i t] w λe x=>e=.returned (.bool (eK c t))/\x=w.drew:=by have d:Hid (∀ w,A6 prog 264 #[.u c,.i t] w λe x=>e=.returned (.u (aG c (8*t) 8))/\x=w.drew):=λw=>nP c t hk f g w;have F:Hid (eK c t=(A0 .and .u64 (aG c (8*t) 8) 128 != 0)):=(rfl:eK c t=_);generalize aG c (8*t) 8=q at *;go_enter func306,ntmps306;go_wp2_with fail;refine (d.out _).mono ?_;rintro e j ⟨rfl,b⟩;exact ob
theorem Gl:CB 295 #[.agg #[.u c],.u Q] P (.u (A0 .and .u64 Q c)):=by go_enter func295,ntmps295;go_wp2_with fail;go_ret;exact ⟨rfl,bal _ _⟩
theorem Je:CB 307 #[.agg #[.i t],.u Q] P (.u (A0 .and .u64 Q 18014398509481983)):=by go_enter func307,ntmps307;go_wp2_with fail;go_ret;exact ⟨rfl,bal _ _⟩
theorem Ms:CB 296 #[.agg #[],.u c] P (.u (A0 .and .u64 c 2730)):=by go_enter func296,ntmps296;go_wp2_with fail;go_ret;exact ⟨rfl,by go_grown⟩
theorem Mt:CB 298 #[.agg #[],.u c] P (.u (A0 .and .u64 c 2730)):=by go_enter func298,ntmps298;go_wp2_with fail;go_ret;exact ⟨rfl,by go_grown⟩
theorem Mu:CB 293 #[.agg #[],.u c] P (.u (fT .mst c)):=by
 have b:fT .mst c=if (A0 .and .u64 c 6144==4096)=true then A0 .andNot .u64 (A0 .and .u64 c 924074) 6144 else A0 .and .u64 c 924074:=rfl
 cases d:(A0 .and .u64 c 6144==4096) with
 | true =>rw [JZ8 d] at b;have F:Hid (fT .mst c=A0 .andNot .u64 (A0 .and .u64 c 924074) 6144):=b;clear b;go_enter func293,ntmps293;go_wp2_with fail;go_ret;exact ⟨bc,by go_grown⟩
 | false =>rw [JZ9 (by rw [d];decide)] at b;have F:Hid (fT .mst c=A0 .and .u64 c 924074):=b;clear b;go_enter func293,ntmps293;go_wp2_with fail;go_ret;exact ⟨bc,by go_grown⟩
theorem Jf (j:0<=c) (l:c<18446744073709551616) (w:A5):CB 301 #[.agg #[],.u c] w (.u (fT .satp c)):=by
 have f:Hid (∀ w,A6 prog 303 #[.u c] w λe g=>e=.returned (.bool (fZ c))/\g=w.drew):=λw=>nO c j l w;have x:fT .satp c=if fZ c=true then c else 0:=rfl
 cases d:fZ c with
 | true =>rw [JZ8 d] at x;rw [d] at f;have F:Hid (fT .satp c=c):=x;clear x;go_enter func301,ntmps301;go_wp2_with fail;refine (f.out _).mono ?_;rintro e m ⟨rfl,b⟩;subst b;go_wp2_with fail;go_ret;exact ⟨bc,by go_grown⟩
 | false =>rw [JZ9 (by rw [d];decide)] at x;rw [d] at f;have F:Hid (fT .satp c=0):=x;clear x;go_enter func301,ntmps301;go_wp2_with fail;refine (f.out _).mono ?_;rintro e m ⟨rfl,b⟩;subst b;go_wp2_with fail;go_ret;exact ⟨bc,by go_grown⟩
theorem Mv (D:0<=c) (E:c<18446744073709551616) (w:A5):CB 304 #[.agg #[],.u c] w (.u (fT .cfg c)):=by
 have C:Hid (∀ k:Nat,k<5->∀ w,A6 prog 264 #[.u c,.i k] w λe m=>e=.returned (.u (aG c (8*k) 8))/\m=w.drew):=λk u w=>nP c k u D E w;have B:Hid (fT .cfg c=pj c 4):=(rfl:fT .cfg c=_);go_enter func304,ntmps304;go_wp2_with fail;go_loopw [5,8] (λy i wr=>∃ k:Nat,k<=4/\i=.i k/\y=.u (pj c k)/\Bw w wr)
  (λ_ i _=>4-(intOf i).toNat)
 case atStart=>exact ⟨0,aa,rfl,rfl,by go_grown⟩
 case round =>
  obtain ⟨k,u,rfl,rfl,x⟩:=hrel;by_cases bZ:k<4
  ·have f:pj c (k+1)=A0 .or .u64 (pj c k) (Uz.wrap (Av c k*2^(8*k))):=rfl;unfold Av at f;have g:=C.out k aa;generalize aG c (8*k) 8=z at *;obtain ⟨q,o⟩:∃ q,8*k=q:=⟨_,rfl⟩;have I:T2 (8*(k:Int))=(q:Int):=bw;have A:q<64:=aa;rw [o] at f;have d:decide ((k:Int)<4):=bb;obtain ⟨b,G⟩:∃ b,A0 .and .u64 z 159=b:=⟨_,rfl⟩;obtain ⟨y,p⟩:∃ y,y=pj c k:=⟨_,rfl⟩;rw [G,<- p] at f;rw [<- p];cases t:(A0 .and .u64 b 1==0) with
   | true =>
     rw [JZ8 t] at f;have F:Hid (pj c (k+1)=A0 .or .u64 y (Uz.wrap (A0 .andNot .u64 b 2*2^q))):=f;have j:Hid (∀ w,A6 prog 264 #[.u c,.i k] w λe m=>e=.returned (.u z)/\m=w.drew):=g;have r:Hid (8*k=q):=o;clear f p g o;go_wp2_with fail;refine (j.out _).mono ?_;rintro e H ⟨rfl,l⟩;subst l;go_wp2_with fail;go_roundw;case rel=>exact ⟨k+1,aa,by go_num,by rw [F.out,r.out],x.drew⟩
     case measure=>simp [intOf];omega
   | false =>
     rw [JZ9 (by rw [t];decide)] at f;have F:Hid (pj c (k+1)=A0 .or .u64 y (Uz.wrap (b*2^q))):=f;have j:Hid (∀ w,A6 prog 264 #[.u c,.i k] w λe m=>e=.returned (.u z)/\m=w.drew):=g;have r:Hid (8*k=q):=o;clear f p g o;go_wp2_with fail;refine (j.out _).mono ?_;rintro e H ⟨rfl,l⟩;subst l;go_wp2_with fail;go_roundw;case rel=>exact ⟨k+1,aa,by go_num,by rw [F.out,r.out],x.drew⟩
     case measure=>simp [intOf];omega
  ·have s:k=4:=aa;subst s;generalize pj c 4=y at *;go_wp2_with fail;go_ret;exact ⟨by rw [B.out];rfl,x⟩
theorem Er (k:CK) (x:Int) (a:0<=x) (c:x<18446744073709551616) (w:A5):CB k.fitF #[k.val,.u x] w (.u (fT k x)):=by
 cases k with
 | plain b=>exact Gl b x w
 | mst=>exact Mu x w
 | mie=>exact Ms x w
 | mip=>exact Mt x w
 | satp=>exact Jf x a c w
 | cfg=>exact Mv x a c w
 | addr e=>exact Je e x w
theorem Gm:CB 299 #[.agg #[],.slice f 22 t,.u Q] P (.u 2184):=by go_enter func299,ntmps299;go_wp2_with fail;go_ret;exact ⟨rfl,by go_grown⟩
theorem C0 (a:Option I5) (cap:Nat) (c x:Int) (l:0<=x) (m:x<18446744073709551616) (w:A5):CB 302 #[.agg #[],.slice a 22 cap,.u x] w (.u (iy c .satp x)):=by
 have g:Hid (∀ w,A6 prog 303 #[.u x] w λe j=>e=.returned (.bool (fZ x))/\j=w.drew):=λw=>nO x l m w;have f:iy c .satp x=if fZ x=true then 0 else 18446744073709551615:=rfl
 cases d:fZ x with
 | true =>rw [JZ8 d] at f;rw [d] at g;have F:Hid (iy c .satp x=0):=f;clear f;go_enter func302,ntmps302;go_wp2_with fail;refine (g.out _).mono ?_;rintro e o ⟨rfl,b⟩;subst b;go_wp2_with fail;go_ret;exact ⟨bc,by go_grown⟩
 | false =>rw [JZ9 (by rw [d];decide)] at f;rw [d] at g;have F:Hid (iy c .satp x=18446744073709551615):=f;clear f;go_enter func302,ntmps302;go_wp2_with fail;refine (g.out _).mono ?_;rintro e o ⟨rfl,b⟩;subst b;go_wp2_with fail;go_ret;exact ⟨bc,by go_grown⟩
theorem Gn (a:Option I5) (cap:Nat) (l:List Int) (x:Int) (w:A5) (hz:l.length=22) (G:Sl .u64 w a l) (hl:∀ j,0<=l.getD j 0/\l.getD j 0<18446744073709551616):CB 305 #[.agg #[],.slice a 22 cap,.u x] w (.u (iy (l.getD 16 0) .cfg x)):=by
 obtain ⟨K,B,rfl,u,z⟩:=G 16 aa;have E:=hl 16;have H:Hid (iy (l.getD 16 0) .cfg x=fz (l.getD 16 0) 4):=(rfl:iy (l.getD 16 0) .cfg x=_);generalize l.getD 16 0=c at *;have I:Hid (∀ k:Nat,k<5->∀ w,A6 prog 306 #[.u c,.i k] w λe r=>e=.returned (.bool (eK c k))/\r=w.drew):=λk C w=>lA c k C E.1 E.2 w;clear G hl hz;go_enter func305,ntmps305;go_wp2_with fail;go_loopw [7,9] (λy i wr=>∃ k:Nat,k<=4/\i=.i k/\y=.u (fz c k)/\Bw w wr)
  (λ_ i _=>4-(intOf i).toNat)
 case atStart=>exact ⟨0,aa,rfl,rfl,by go_grown⟩
 case round =>
  obtain ⟨k,C,rfl,rfl,b⟩:=hrel;by_cases bZ:k<4
  ·have m:fz c (k+1)=if eK c k=true then A0 .or .u64 (fz c k) (Uz.wrap (255*2^(8*k))) else fz c k:=rfl
   have f:=I.out k aa;have L:wr.cell? ⟨K,B+16,none⟩=some (.u c):=(b.cell (by exact u)).trans z;obtain ⟨q,s⟩:∃ q,8*k=q:=⟨_,rfl⟩;have N:T2 (8*(k:Int))=(q:Int):=bw;have D:q<64:=aa;rw [s] at m;have d:decide ((k:Int)<4):=bb;obtain ⟨y,t⟩:∃ y,y=fz c k:=⟨_,rfl⟩;rw [<- t] at m;rw [<- t];cases g:eK c k with
   | true =>
     rw [JZ8 g] at m;rw [g] at f;have F:Hid (fz c (k+1)=A0 .or .u64 y (Uz.wrap (255*2^q))):=m;have o:Hid (∀ w,A6 prog 306 #[.u c,.i k] w λe r=>e=.returned (.bool true)/\r=w.drew):=f;have J:Hid (8*k=q):=s;clear m t f s z g;go_wp2_with fail;refine (o.out _).mono ?_;rintro e M ⟨rfl,p⟩;subst p;go_wp2_with fail;go_roundw;case rel=>exact ⟨k+1,aa,by go_num,by rw [F.out,J.out],b.drew⟩
     case measure=>simp [intOf];omega
   | false =>
     rw [JZ9 (by rw [g];decide)] at m;rw [g] at f;have F:Hid (fz c (k+1)=y):=m;have o:Hid (∀ w,A6 prog 306 #[.u c,.i k] w λe r=>e=.returned (.bool false)/\r=w.drew):=f;clear m t f s z g;go_wp2_with fail;refine (o.out _).mono ?_;rintro e M ⟨rfl,p⟩;subst p;go_wp2_with fail;go_roundw;case rel=>exact ⟨k+1,aa,by go_num,by rw [F.out],b.drew⟩
     case measure=>simp [intOf];omega
  ·have A:k=4:=aa;subst A;generalize fz c 4=y at *;go_wp2_with fail;go_ret;exact ⟨by rw [H.out];rfl,b⟩
theorem C1 (f:Nat) (E:f<4) (a:Option I5) (cap:Nat) (l:List Int) (x:Int) (w:A5) (hz:l.length=22) (C:Sl .u64 w a l) (hl:∀ j,0<=l.getD j 0/\l.getD j 0<18446744073709551616):CB 308 #[.agg #[.i f],.slice a 22 cap,.u x] w (.u (iy (l.getD 16 0) (.addr f) x)):=by
 obtain ⟨D,A,rfl,z,t⟩:=C 16 aa;have s:=hl 16;have I:∀ o,(w.alloc o).cell? ⟨D,A+16,none⟩=some (.u (l.getD 16 0)):=λo=>(((U2 w.heap.size w).alloc (M5 _) o).cell (by exact z)).trans t;have m:iy (l.getD 16 0) (.addr f) x=if (eK (l.getD 16 0) f||(eK (l.getD 16 0) (f+1)&&(gC (l.getD 16 0) (f+1)==1)))=true then 18446744073709551615 else 0:=rfl
 generalize l.getD 16 0=c at *;have u:Hid (∀ w,A6 prog 306 #[.u c,.i f] w λe q=>e=.returned (.bool (eK c f))/\q=w.drew):=λw=>lA c f aa s.1 s.2 w;have y:Hid (∀ w,A6 prog 306 #[.u c,.i ((f:Int)+1)] w λe q=>e=.returned (.bool (eK c (f+1)))/\q=w.drew):=λw=>lA c (f+1) aa s.1 s.2 w;have B:Hid (∀ w,A6 prog 270 #[.u c,.i ((f:Int)+1)] w λe q=>e=.returned (.u (gC c (f+1)))/\q=w.drew):=λw=>qf c (f+1) aa s.1 s.2 w;generalize iy c (.addr f) x=g at *;generalize eK c f=G at *;generalize eK c (f+1)=H at *;generalize gC c (f+1)=r at *;clear C hl hz t;cases G with
 | true =>have F:Hid (g=18446744073709551615):=(by show g=_;rw [m];rfl);clear m;go_enter func308,ntmps308;go_wp2_with fail;refine (u.out _).mono ?_;rintro e p ⟨rfl,b⟩;subst b;go_wp2_with fail;go_ret;exact ⟨bc,by go_grown⟩
 | false =>
   cases H with
   | false =>have F:Hid (g=0):=(by show g=_;rw [m];rfl);clear m;go_enter func308,ntmps308;go_wp2_with fail;refine (u.out _).mono ?_;rintro e p ⟨rfl,b⟩;subst b;go_wp2_with fail;refine (y.out _).mono ?_;rintro e p ⟨rfl,b⟩;subst b;go_wp2_with fail;go_ret;exact ⟨bc,by go_grown⟩
   | true =>
     cases d:(r==1) with
     | true =>have F:Hid (g=18446744073709551615):=(by show g=_;rw [m,d];rfl);clear m;go_enter func308,ntmps308;go_wp2_with fail;refine (u.out _).mono ?_;rintro e p ⟨rfl,b⟩;subst b;go_wp2_with fail;refine (y.out _).mono ?_;rintro e p ⟨rfl,b⟩;subst b;go_wp2_with fail;refine (B.out _).mono ?_;rintro e p ⟨rfl,b⟩;subst b;go_wp2_with fail;go_ret;exact ⟨bc,by go_grown⟩
     | false =>have F:Hid (g=0):=(by show g=_;rw [m,d];rfl);clear m;go_enter func308,ntmps308;go_wp2_with fail;refine (u.out _).mono ?_;rintro e p ⟨rfl,b⟩;subst b;go_wp2_with fail;refine (y.out _).mono ?_;rintro e p ⟨rfl,b⟩;subst b;go_wp2_with fail;refine (B.out _).mono ?_;rintro e p ⟨rfl,b⟩;subst b;go_wp2_with fail;go_ret;exact ⟨bc,by go_grown⟩
def CK.sees:CK->Bool
 | .mst=>true | .mie=>true | .mip=>true | _=>false
def CK.holds:CK->Bool
 | .mip=>true | .satp=>true | .cfg=>true | .addr _=>true | _=>false
def mZ:CK->Int
 | .mst=>256 | .mie=>260 | .mip=>324 | _=>0
def uw (m:Int):CK->Int
 | .mst=>786722 | .mie=>m | .mip=>m | _=>0
def uz (m:Int):CK->Int
 | .mst=>786722 | .mie=>m | .mip=>A0 .and .u64 m 2 | _=>0
theorem Jg (k:CK) (hk:k.sees) (m:Int) (w:A5):CB k.viewF #[k.val,.u m] w (.agg #[.i (mZ k),.u (uw m k),.u (uz m k)]):=by
 cases k with
 | plain b=>cases hk
 | satp=>cases hk
 | cfg=>cases hk
 | addr e=>cases hk
 | mst =>simp only [CK.viewF,CK.val,mZ,uw,uz];go_enter func294,ntmps294;go_wp2_with fail;go_returns;exact ⟨rfl,by go_grown⟩
 | mie =>simp only [CK.viewF,CK.val,mZ,uw,uz];go_enter func297,ntmps297;go_wp2_with fail;go_returns;exact ⟨rfl,by go_grown⟩
 | mip =>simp only [CK.viewF,CK.val,mZ,uw,uz];go_enter func300,ntmps300;go_wp2_with fail;go_returns;exact ⟨rfl,by go_grown⟩
def cH (l:List Int):Nat->Nat->Bool
 | 0,_=>true
 | n+1,k=>(fT (eO k).2 (l.getD k 0)==l.getD k 0)&&cH l n (k+1)
def iY (n:Nat) (l:List Int):Bool:=decide (n=22)&&cH l 22 0
theorem yH (hk:s<22) (h:(fT (eO s).2 (g.getD s 0)==g.getD s 0)):cH g (22-s) s=cH g (22-(s+1)) (s+1):=by rw [show 22-s=(22-(s+1))+1 from aa,cH,h,R4]
theorem Aw (hk:s<22) (h:(fT (eO s).2 (g.getD s 0)==g.getD s 0)=false):cH g (22-s) s=false:=by rw [show 22-s=(22-(s+1))+1 from aa,cH,h,S1]
theorem xb (k:CK) (w:A5):(method 461 k.ty k.val "loop.example/g00134/impl.fit").run prog w=.ok (k.fitF,k.val) w:=by cases k<;>kernel_rfl
theorem qi (h:(prog.funcs[l]?).map (λa=>(a.name == "runtime.NumGoroutine",a.body.isSome))=some (false,true)) (args:Array F3) (w:A5):(callFunc l args).run prog w=.ok (.enter l args) w:=by
 cases b:prog.funcs[l]? with
 | none=>rw [b] at h;cases h
 | some a =>rw [b] at h;simp only [Option.map_some,Option.some.injEq,Prod.mk.injEq] at h;have d:a.name≠ "runtime.NumGoroutine":=(by simpa using h.1);obtain ⟨c,e⟩:=Option.isSome_iff_exists.mp h.2;simp [callFunc,b,d,e,mark]
theorem uA (k:CK):(prog.funcs[k.fitF]?).map (λa=>(a.name == "runtime.NumGoroutine",a.body.isSome))=some (false,true):=by cases k<;>kernel_rfl
theorem Gp (k:CK) (x:Int) (c:0<=x) (d:x<18446744073709551616) (w:A5) (p q:I5) (u v:F3) (a:w.cell? p=some u/\w.cell? q=some v) :
 A6 prog k.fitF #[k.val,.u x] w λe b=>e=.returned (.u (fT k x))/\Bw w b/\b.cell? p=some u/\b.cell? q=some v :=
 (Er k x c d w).mono λe b h=>⟨h.1,h.2,(h.2.cell (T4 _ _ a.1)).trans a.1,(h.2.cell (T4 _ _ a.2)).trans a.2⟩
theorem kE (a:Option I5) (n cap:Nat) (l:List Int) (w:A5) (hz:l.length=n) (I:Sl .u64 w a l) (hl:∀ j,0<=l.getD j 0/\l.getD j 0<18446744073709551616):CB 52 #[.slice a n cap] w (.bool (iY n l)):=by
 by_cases C:n=22
 ·have p:iY n l=cH l 22 0:=(by simp [iY,C]);rw [p];have O:Hid (l.length=n):=hz;have L:Hid (∀ j,0<=l.getD j 0/\l.getD j 0<18446744073709551616):=hl;subst C;clear hz p hl;go_enter func52,ntmps52;go_wp2_with fail;refine (ou _).mono ?_;rintro e w1 ⟨T,rfl,N,Q⟩;go_wp2_with fail;go_loopw [9] (λi wr=>∃ k:Nat,k<=22/\i=.i k/\Hid (cH l (22-k) k=cH l 22 0)/\Bw w wr)
   (λi _=>22-(intOf i).toNat)
  case atStart=>exact ⟨0,aa,rfl,(rfl:cH l (22-0) 0=cH l 22 0),Q⟩
  case round =>
   obtain ⟨k,Z,rfl,A,c⟩:=hrel;by_cases bZ:k<22
   ·obtain ⟨b,g,rfl,z,R⟩:=I k (by rw [O.out];exact bZ);have J:=L.out k;obtain ⟨r,s⟩:∃ r,r=eO k:=⟨_,rfl⟩;have M:Hid (r=eO k):=s;have m:(fT r.2 (l.getD k 0)==l.getD k 0)->Hid (cH l (22-(k+1)) (k+1)=cH l 22 0):=λh=>(yH l k bZ (by rw [<- s];exact h)).symm.trans A.out;have H:(fT r.2 (l.getD k 0)==l.getD k 0)=false->Hid (cH l 22 0=false):=λh=>A.out.symm.trans (Aw l k bZ (by rw [<- s];exact h));have f:Hid ((fT r.2 (l.getD k 0)==l.getD k 0)->Hid (cH l (22-(k+1)) (k+1)=cH l 22 0)):=m;have q:Hid ((fT r.2 (l.getD k 0)==l.getD k 0)=false->Hid (cH l 22 0=false)):=H;clear s m H;have Y:decide ((k:Int)<22):=bb;have U:(0:Int)<=(k:Int):=aa;have V:(k:Int)<22:=aa;have W:=xb r.2;have P:=qi (uA r.2);have S:wr.cell? ⟨b,g+k,none⟩=some (.u (l.getD k 0)):=(c.cell (by exact z)).trans R;generalize l.getD k 0=x at *;go_wp2_with (first | refine fE N .i64 k bZ r M rfl (.tmp 8) (.tmp 9) rfl rfl rfl ?_);go_region_held3 (λt=>t.cell? ⟨wr.heap.size,1,none⟩=some (.iface r.2.ty r.2.val)/\t.cell? ⟨b,g+k,none⟩=some (.u x)) (go_keep) (first | (refine (Gp r.2 x J.1 J.2 _ ⟨wr.heap.size,1,none⟩ ⟨b,g+k,none⟩ (.iface r.2.ty r.2.val) (.u x) ?_).mono ?_;(first | assumption | (simp [*]));rintro e X ⟨rfl,o,D,E⟩));have G:Hid (Bw w X):=(by show Below _ _ _;refine ae (w1:=(wr.alloc (Obj.cells #[.i r.1,.iface r.2.ty r.2.val] 133)).drew) ?_ o;exact (c.alloc c.size _).drew);clear o D E W P;obtain ⟨y,K⟩:∃ y,fT r.2 x=y:=⟨_,rfl⟩;rw [K] at f q ⊢;clear K;cases d:(y==x) with
    | true =>
      have F:=f.out d;have u:(y != x)=false:=(by simp [bne,d]);clear f q d;rw [u];go_wp2_with fail;go_roundw;case rel=>exact ⟨k+1,aa,by go_num,F,G.out⟩
      case measure=>simp [intOf];omega
    | false =>have F:=q.out d;have u:(y != x):=(by simp [bne,d]);clear f q d;rw [u];go_wp2_with fail;go_ret;exact ⟨bc,G.out⟩
   ·have B:k=22:=aa;subst B;have F:Hid (cH l 22 0):=A.out.symm;go_wp2_with fail;go_ret;exact ⟨bc,c⟩
 ·have F:Hid (iY n l=false):=(by show _=_;simp [iY,C]);have d:((n:Int) != 22):=bb;clear hz I;go_enter func52,ntmps52;go_wp2_with fail;go_ret;exact ⟨bc,U2 _ _⟩
structure Vw where
 at_:Int
 num:Int
 rd:Int
 wr:Int
 ok:Bool
def Vw.cells (v:Vw):Array Value:=#[.i v.num,.u v.rd,.u v.wr]
def bU (n m:Int):Nat->Nat->Vw
 | 0,_=>⟨-1,0,0,0,false⟩
 | f+1,k=>if ((eO k).1==n)=true then ⟨k,n,18446744073709551615,18446744073709551615,true⟩
   else if ((eO k).2.sees&&(mZ (eO k).2==n))=true then ⟨k,mZ (eO k).2,uw m (eO k).2,uz m (eO k).2,true⟩ else bU n m f (k+1)
theorem Gq (hk:s<22) (r:Int × CK) (a:r=eO s) (h:(r.1==c)):bU c Q (22-s) s=⟨s,c,18446744073709551615,18446744073709551615,true⟩:=by subst a;rw [show 22-s=(22-(s+1))+1 from aa,bU,JZ8 h]
theorem C4 (hk:s<22) (r:Int × CK) (n:r=eO s) (h:(r.1==c)=false) (a:r.2.sees) (b:(mZ r.2==c)):bU c Q (22-s) s=⟨s,mZ r.2,uw Q r.2,uz Q r.2,true⟩:=by subst n;rw [show 22-s=(22-(s+1))+1 from aa,bU,JZ9 (by rw [h];decide),a,b];rfl
theorem uB (hk:s<22) (r:Int × CK) (b:r=eO s) (h:(r.1==c)=false) (a:(r.2.sees&&(mZ r.2==c))=false):bU c Q (22-s) s=bU c Q (22-(s+1)) (s+1):=by subst b;rw [show 22-s=(22-(s+1))+1 from aa,bU,JZ9 (by rw [h];decide),a,JZ9 ba]
theorem C5 (k:CK) (hk:k.sees) (w:A5):(method 461 k.ty k.val "loop.example/g00134/impl.view").run prog w=.ok (k.viewF,k.val) w:=by cases k<;>first | (cases hk;done) | kernel_rfl
theorem Ax (k:CK) (hk:k.sees):(prog.funcs[k.viewF]?).map (λa=>(a.name == "runtime.NumGoroutine",a.body.isSome))=some (false,true):=by cases k<;>first | (cases hk;done) | kernel_rfl
theorem Jh (k:CK) (hk:k.sees) (a:H1) (w:A5):(T7 (.iface k.ty k.val) a 140 true).run prog w=.ok (.tuple #[.iface k.ty k.val,.bool true]) w:=by cases k<;>first | (cases hk;done) | exact K0 underlying140 ab _ a w
theorem C6 (k:CK) (hk:k.sees=false) (a:H1) (w:A5):(T7 (.iface k.ty k.val) a 140 true).run prog w=.ok (.tuple #[.nilIface,.bool false]) w:=by cases k<;>first | (cases hk;done) | exact H8 underlying140 ab ab _ a w
theorem nQ {P:K1} {fn:Func} {s p u:Tmp} {ty:H1} (h:fn.results=#[.tmp s,.cell p ty,.tmp u]) (tmps:Array F3) (w:A5) (g:Nat) (t:H1) (cs:Array F3) (e:Nat × Nat) (d:TypeDesc) (k:tmps.getD p undef=.p g 0) (i:w.heap[g]?=some (.cells cs t e)) (l:P.underlying ty=some d) (hd:(match d with | .struct _ | .array _ _=>true | _=>false)=true) (j:(P.info? ty).map (·.size)=some cs.size):(results fn tmps).run P w=.ok (.tuple #[tmps.getD s undef,.agg cs,tmps.getD u undef]) w:=by
 have f:(results fn tmps).run P w=((asAddr (tmps.getD p undef)).run P w).andThen λa b=>((loadVar ty a).run P b).andThen λv c=>.ok (.tuple #[tmps.getD s undef,v,tmps.getD u undef]) c:=by simp only [results,h];simp [U6,V0]
 rw [f,k];simp [asAddr,run_loadVar_row w g t ty cs e d i l hd j]
theorem mG {cs:Array F3} {a:Nat × Nat} (h:x.heap[l]?=some (.cells cs p a)) (i:Nat) (v:F3): (x.setCell ⟨l,i,none⟩ v).heap[l]?=some (.cells (cs.setIfInBounds i v) p a):=by simp [T5,Array.getElem?_modify,h]
theorem qj:(prog.info? 87).map (·.size)=some 3:=by kernel_rfl
theorem Ji:(#[L6 .i64 c,.u Q,.u e]:Array F3).all (·.oneCell'):=by simp [Value.oneCell']
theorem uC: CB 54 #[.i c,.u Q] P (.tuple #[.i (bU c Q 22 0).at_,.agg (bU c Q 22 0).cells,.bool (bU c Q 22 0).ok]):=by
 obtain ⟨V,U⟩:∃ V,V=bU c Q 22 0:=⟨_,rfl⟩;rw [<- U];obtain ⟨l,j⟩:∃ l,l=P.alloc (.cells #[.i 0,.u 0,.u 0] 87):=⟨_,rfl⟩;have HW0:Hid (l=P.alloc (.cells #[.i 0,.u 0,.u 0] 87)):=j;have W:Hid (bU c Q (22-0) 0=V):=U.symm;have J:l.heap[P.heap.size]?=some (.cells #[.i 0,.u 0,.u 0] 87 (0,0)):=by rw [j];exact F0 _ _
 have A:Hid (l.heap[P.heap.size]?=some (.cells #[.i 0,.u 0,.u 0] 87 (0,0))):=J;have n:P.heap.size<l.heap.size:=by rw [j];simp
 have s:Hid (Bw P l):=by show Below _ _ _;rw [j];exact bal _ _
 clear U J;go_enter func54,ntmps54;go_wp2_with fail;rw [<- j];clear j;refine (ou _).mono ?_;rintro e w1 ⟨T,rfl,m,hb⟩;go_wp2_with fail;go_loopw [13] (λi wr=>∃ k:Nat,k<=22/\i=.i k/\Hid (bU c Q (22-k) k=V)/\Bw l wr)
  (λi _=>22-(intOf i).toNat)
 case atStart=>exact ⟨0,aa,rfl,W,hb⟩
 case round =>
  obtain ⟨k,hk,rfl,I,b⟩:=hrel;by_cases bZ:k<22
  ·obtain ⟨r,hr⟩:∃ r,r=eO k:=⟨_,rfl⟩;have B:Hid (r=eO k):=hr;clear hr;have dk:decide ((k:Int)<22):=bb;have g:wr.heap[P.heap.size]?=some (.cells #[.i 0,.u 0,.u 0] 87 (0,0)):=(by rw [b.block _ n];exact A.out);cases N:(r.1==c) with
   | true =>have F:Hid (V=⟨k,c,18446744073709551615,18446744073709551615,true⟩):=I.out.symm.trans (Gq c Q k bZ r B.out N);have u:∀ o,(wr.alloc o).heap[P.heap.size]?=some (.cells #[.i 0,.u 0,.u 0] 87 (0,0)):=(by intro o;rw [((U2 wr.heap.size wr).alloc (M5 _) o).block _ (M7 n b.size)];exact g);have p:Hid (∀ o,(wr.alloc o).heap[P.heap.size]?=some (.cells #[.i 0,.u 0,.u 0] 87 (0,0))):=u;clear g u;go_wp2_with (first | refine fE m .i64 k bZ r B rfl (.tmp 12) (.tmp 13) rfl rfl rfl ?_ | (refine H2 rfl 87 (.tmp 5) (.tmp 23) rfl rfl P.heap.size #[.i c,.u 18446744073709551615,.u 18446744073709551615] rfl rfl 87 _ (p.out _) qj rfl (Ji _ _ _) ?_));refine H3 (nQ results54 _ _ P.heap.size _ _ _ _ rfl (G3 _ _ _ _ _ _ (p.out _)) underlying87 rfl qj) rfl ⟨bc,?_⟩;exact ay (U5 (ae s.out b) (ae s.out b).size _) (M5 _) _
   | false =>
     cases t:r.2.sees with
     | false =>
       have F:Hid (bU c Q (22-(k+1)) (k+1)=V):=(uB c Q k bZ r B.out N (by rw [t];rfl)).symm.trans I.out;have hla:=C6 r.2 t;clear g;go_wp2_with (first | refine fE m .i64 k bZ r B rfl (.tmp 12) (.tmp 13) rfl rfl rfl ?_);go_roundw;case rel=>exact ⟨k+1,aa,by go_num,F,b.alloc b.size _⟩
       case measure=>simp [intOf];omega
     | true =>
       have X:=Jh r.2 t;have mf:=C5 r.2 t;have en:=qi (Ax r.2 t);clear g;go_wp2_with (first | refine fE m .i64 k bZ r B rfl (.tmp 12) (.tmp 13) rfl rfl rfl ?_);refine (Jg r.2 t Q _).mono ?_;rintro e d ⟨rfl,H⟩;have M:Bw l d:=ae (b.alloc b.size _) H;have z:Hid (Bw l d):=M;have C:d.heap[P.heap.size]?=some (.cells #[.i 0,.u 0,.u 0] 87 (0,0)):=(by rw [M.block _ n];exact A.out);have y:P.heap.size<d.heap.size:=M7 n M.size;have f:Hid (d.heap[P.heap.size]?=some (.cells #[.i 0,.u 0,.u 0] 87 (0,0))):=C;have K:∀ o,(d.alloc o).heap[P.heap.size]?=some (.cells #[.i 0,.u 0,.u 0] 87 (0,0)):=(by intro o;rw [((U2 d.heap.size d).alloc (M5 _) o).block _ y];exact C);have HG3:Hid (∀ o,(d.alloc o).heap[P.heap.size]?=some (.cells #[.i 0,.u 0,.u 0] 87 (0,0))):=K;have vn:Hid (r.1==c)=Hid (r.1==c):=rfl;obtain ⟨G,q⟩:∃ v,mZ r.2=v:=⟨_,rfl⟩;obtain ⟨O,D⟩:∃ v,uw Q r.2=v:=⟨_,rfl⟩;obtain ⟨w,E⟩:∃ v,uz Q r.2=v:=⟨_,rfl⟩;have R:Hid ((G==c)=false->Hid (bU c Q (22-(k+1)) (k+1)=V)):=λh=>(uB c Q k bZ r B.out N (by rw [t,q,h];rfl)).symm.trans I.out;have S:Hid ((G==c)->Hid (V=⟨k,G,O,w,true⟩)):=λh=>I.out.symm.trans (by rw [C4 c Q k bZ r B.out N t (by rw [q];exact h),q,D,E]);rw [q,D,E];clear vn q D E C K M H mf en X;cases d3:(G==c) with
       | false =>
         have F:=R.out d3;clear R S;go_wp2_with fail;go_roundw;case rel=>exact ⟨k+1,aa,by go_num,F,z.out.alloc z.out.size _⟩
         case measure=>simp [intOf];omega
       | true =>
         have F:=S.out d3;clear R S;have c0:d.cell? ⟨P.heap.size,0,none⟩=some (.i 0):=I4 _ _ _ _ _ _ f.out;have c1:d.cell? ⟨P.heap.size,1,none⟩=some (.u 0):=I4 _ _ _ _ _ _ f.out;have c2:d.cell? ⟨P.heap.size,2,none⟩=some (.u 0):=I4 _ _ _ _ _ _ f.out;have f0:d.frozen? ⟨P.heap.size,0,none⟩=false:=H5 _ _ _ _ _ f.out;have f1:d.frozen? ⟨P.heap.size,1,none⟩=false:=H5 _ _ _ _ _ f.out;have f2:d.frozen? ⟨P.heap.size,2,none⟩=false:=H5 _ _ _ _ _ f.out;go_wp2_with fail;go_region;all_goals go_wp2_with fail
         have L:((((d.setCell ⟨P.heap.size,0,none⟩ (.i G)).setCell ⟨P.heap.size,1,none⟩ (.u O)).setCell ⟨P.heap.size,2,none⟩ (.u w)).alloc (.cells #[.i G,.u O,.u w] 87)).drew.heap[P.heap.size]?=some (.cells #[.i G,.u O,.u w] 87 (0,0)):=(by show (World.alloc _ _).heap[P.heap.size]?=_;rw [(bal _ _).block _ (by simpa [T5] using y)];exact mG (mG (mG f.out 0 _) 1 _) 2 _);refine H3 (nQ results54 _ _ P.heap.size _ _ _ _ rfl L underlying87 rfl qj) rfl ⟨bc,?_⟩;have Z:=ae s.out z.out;refine Below.drew (U5 (((Z.setCell (M5 _) _).setCell (M5 _) _).setCell (M5 _) _) ?_ _);simpa [T5] using Z.size
  ·have Y:k=22:=aa;subst Y;have F:Hid (V=⟨-1,0,0,0,false⟩):=I.out.symm;have g:wr.heap[P.heap.size]?=some (.cells #[.i 0,.u 0,.u 0] 87 (0,0)):=(by rw [b.block _ n];exact A.out);have p:Hid (wr.heap[P.heap.size]?=some (.cells #[.i 0,.u 0,.u 0] 87 (0,0))):=g;clear g;go_wp2_with (first | (refine H2 rfl 87 (.tmp 5) (.tmp 41) rfl rfl P.heap.size #[.i 0,.u 0,.u 0] rfl rfl 87 _ p.out qj rfl (Ji _ _ _) ?_));refine H3 (nQ results54 _ _ P.heap.size _ _ _ _ rfl (G3 _ _ _ _ _ _ p.out) underlying87 rfl qj) rfl ⟨bc,?_⟩;exact ay (ae s.out b) (M5 _) _
def CK.goodB:CK->Bool
 | .addr e=>decide (e<4) | _=>true
theorem Mw:∀ k,k<22->(eO k).2.goodB:=by decide
theorem Gr (k:CK) (hk:k.holds) (g:k.goodB) (a:Option I5) (cap:Nat) (l:List Int) (x:Int) (w:A5) (hz:l.length=22) (c:Sl .u64 w a l) (hl:∀ j,0<=l.getD j 0/\l.getD j 0<18446744073709551616) (d:0<=x) (f:x<18446744073709551616):CB k.staysF #[k.val,.slice a 22 cap,.u x] w (.u (iy (l.getD 16 0) k x)):=by
 cases k with
 | plain b=>cases hk
 | mst=>cases hk
 | mie=>cases hk
 | mip=>exact Gm a cap x w
 | satp=>exact C0 a cap _ x d f w
 | cfg=>exact Gn a cap l x w hz c hl
 | addr e=>exact C1 e (by simpa [CK.goodB] using g) a cap l x w hz c hl
theorem Ay (k:CK) (hk:k.holds) (w:A5):(method 461 k.ty k.val "loop.example/g00134/impl.stays").run prog w=.ok (k.staysF,k.val) w:=by cases k<;>first | (cases hk;done) | kernel_rfl
theorem yI (k:CK) (hk:k.holds):(prog.funcs[k.staysF]?).map (λa=>(a.name == "runtime.NumGoroutine",a.body.isSome))=some (false,true):=by cases k<;>first | (cases hk;done) | kernel_rfl
theorem Gs (k:CK) (hk:k.holds) (a:H1) (w:A5):(T7 (.iface k.ty k.val) a 331 true).run prog w=.ok (.tuple #[.iface k.ty k.val,.bool true]) w:=by cases k<;>first | (cases hk;done) | exact K0 underlying331 ab _ a w
theorem Az (k:CK) (hk:k.holds=false) (a:H1) (w:A5):(T7 (.iface k.ty k.val) a 331 true).run prog w=.ok (.tuple #[.nilIface,.bool false]) w:=by cases k<;>first | (cases hk;done) | exact H8 underlying331 ab ab _ a w
def kF (c:Int) (k:CK) (wr x:Int):Int:=if k.holds=true then A0 .andNot .u64 wr (iy c k x) else wr
def j4 (l:List Int) (k:Nat) (wr x:Int):Int :=
 A0 .or .u64 (A0 .andNot .u64 (l.getD k 0) (kF (l.getD 16 0) (eO k).2 wr x)) (A0 .and .u64 (fT (eO k).2 x) (kF (l.getD 16 0) (eO k).2 wr x))
theorem uD (k:CK) (x:Int) (c:0<=x) (d:x<18446744073709551616) (w:A5) (p:I5) (u:F3) (b:w.cell? p=some u) :
 A6 prog k.fitF #[k.val,.u x] w λe a=>e=.returned (.u (fT k x))/\Bw w a/\a.cell? p=some u :=
 (Er k x c d w).mono λe a h=>⟨h.1,h.2,(h.2.cell (T4 _ _ b)).trans b⟩
theorem C7 (t:H1) (v:F3) (w:A5):(Instr.field 133 (.agg #[.i c,.iface t v]) 1).run prog w=.ok (.iface t v) w:=by kernel_rfl
theorem C8 (a:Option I5) (cap:Nat) (l:List Int) (k:Nat) (hk:k<22) (wr x:Int) (w:A5) (hz:l.length=22) (A:Sl .u64 w a l) (hl:∀ j,0<=l.getD j 0/\l.getD j 0<18446744073709551616) (E:0<=x) (G:x<18446744073709551616):CB 227 #[.slice a 22 cap,.i k,.u wr,.u x] w (.u (j4 l k wr x)):=by
 have g:j4 l k wr x=A0 .or .u64 (A0 .andNot .u64 (l.getD k 0) (kF (l.getD 16 0) (eO k).2 wr x)) (A0 .and .u64 (fT (eO k).2 x) (kF (l.getD 16 0) (eO k).2 wr x)):=rfl;have z:=Mw k hk;have J:=A k aa;have m:Hid (∀ (K:CK),K.holds->K.goodB->∀ w,Sl .u64 w a l->CB K.staysF #[K.val,.slice a 22 cap,.u x] w (.u (iy (l.getD 16 0) K x))):=λK V W w A=>Gr K V W a cap l x w hz A hl E G;have S:Hid (Sl .u64 w a l):=A;obtain ⟨r,M⟩:∃ r,r=eO k:=⟨_,rfl⟩;have P:Hid (r=eO k):=M;rw [<- M] at g z;obtain ⟨b,c,rfl,u,Q⟩:=J;generalize l.getD k 0=y at *;have Z:(0:Int)<=(k:Int):=aa
 have hk1:(k:Int)<22:=aa
 have mf:=xb r.2;have en:=qi (uA r.2);have X:=C7 r.1 r.2.ty r.2.val;clear M hz hl A;cases d:r.2.holds with
 | false =>have q:kF (l.getD 16 0) r.2 wr x=wr:=(by simp [kF,d]);rw [q] at g;have F:Hid (j4 l k wr x=A0 .or .u64 (A0 .andNot .u64 y wr) (A0 .and .u64 (fT r.2 x) wr)):=g;clear g q m;have hla:=Az r.2 d;go_enter func227,ntmps227;go_wp2_with fail;refine (ou _).mono ?_;rintro e w1 ⟨T,rfl,D,t⟩;have I:w1.cell? ⟨b,c+k,none⟩=some (.u y):=(t.cell (by exact u)).trans Q;go_wp2_with (first | refine fE D .i64 k hk r P rfl (.tmp 12) (.tmp 13) rfl rfl rfl ?_);go_region_held3 (λf=>f.cell? ⟨b,c+k,none⟩=some (.u y)) (go_keep) (first | (refine (uD r.2 x E G _ ⟨b,c+k,none⟩ (.u y) ?_).mono ?_;(first | assumption | (simp [*]));rintro e w2 ⟨rfl,o,L⟩));go_wp2_with fail;go_ret;exact ⟨bc,ae (w1:=w1.drew) t.drew o⟩
 | true =>obtain ⟨B,p⟩:∃ B,iy (l.getD 16 0) r.2 x=B:=⟨_,rfl⟩;have q:kF (l.getD 16 0) r.2 wr x=A0 .andNot .u64 wr B:=(by unfold kF;rw [JZ8 d,p]);rw [q] at g;obtain ⟨C,N⟩:∃ C,A0 .andNot .u64 wr B=C:=⟨_,rfl⟩;rw [N] at g;have F:Hid (j4 l k wr x=A0 .or .u64 (A0 .andNot .u64 y C) (A0 .and .u64 (fT r.2 x) C)):=g;have s:Hid (∀ w,Sl .u64 w (some ⟨b,c,none⟩) l->CB r.2.staysF #[r.2.val,.slice (some ⟨b,c,none⟩) 22 cap,.u x] w (.u B)):=(by rw [<- p];exact m.out r.2 d z);clear g q m p;have Y:=Gs r.2 d;have mf2:=Ay r.2 d;have U:=qi (yI r.2 d);go_enter func227,ntmps227;go_wp2_with fail;refine (ou _).mono ?_;rintro e w1 ⟨T,rfl,D,t⟩;go_wp2_with (first | refine fE D .i64 k hk r P rfl (.tmp 12) (.tmp 13) rfl rfl rfl ?_);refine (s.out _ (S.out.below t)).mono ?_;rintro e R ⟨rfl,H⟩;have O:=ae t H;have I:R.cell? ⟨b,c+k,none⟩=some (.u y):=(O.cell (by exact u)).trans Q;go_wp2_with fail;go_region_held3 (λf=>f.cell? ⟨b,c+k,none⟩=some (.u y)) (go_keep) (first | (refine (uD r.2 x E G _ ⟨b,c+k,none⟩ (.u y) ?_).mono ?_;(first | assumption | (simp [*]));rintro e w2 ⟨rfl,o,L⟩));go_wp2_with fail;go_ret;exact ⟨bc,ae (w1:=R.drew) O.drew o⟩
theorem uE (p:Int) (w:A5):CE 84 #[.i p] w (.bool (di p)):=by
 have F:Hid (di p=((p==0)||(p==1)||(p==3))):=(rfl:di p=_);cases b:(p==0) with
 | true =>rw [b] at F;exact ow
 | false =>
   cases c:(p==1) with
   | true =>rw [b,c] at F;exact ow
   | false =>rw [b,c] at F;exact ow
def mH (n p:Int):Bool:=di p&&decide (A0 .and .i64 (n/256) 3<=p)
theorem qk:CE 53 #[.i c,.i Q] P (.bool (mH c Q)):=by
 have d:Hid (∀ P,CE 84 #[.i Q] P (.bool (di Q))):=uE Q;have F:Hid (mH c Q=(di Q&&decide (A0 .and .i64 (c/256) 3<=Q))):=(rfl:mH c Q=_);generalize di Q=q at *;cases q with
 | false =>go_enter func53,ntmps53;go_wp2_with fail;refine (d.out _).mono ?_;rintro e f ⟨rfl,b⟩;exact ob
 | true =>go_enter func53,ntmps53;go_wp2_with fail;refine (d.out _).mono ?_;rintro e f ⟨rfl,b⟩;exact ob
def rT (n:Int):Bool:=(A0 .and .i64 (n/1024) 3==3)
theorem yJ:CE 226 #[.i c] P (.bool (rT c)):=by have F:Hid (rT c=(A0 .and .i64 (c/1024) 3==3)):=(rfl:rT c=_);go_enter func226,ntmps226;exact o6
def uF (n:Int):Bool:=(n==769)||(n==3860)
def vY (n:Int):Int:=if n=769 then 9223372036856090881 else 0
theorem ql (n:Int) (w:A5):CE 55 #[.i n] w (.tuple #[.u (vY n),.bool (uF n)]):=by
 by_cases b:n=769;·subst b;go_enter func55,ntmps55;go_wp2_with fail;go_ret2;exact ⟨rfl,rfl⟩
 ·by_cases c:n=3860;·subst c;go_enter func55,ntmps55;go_wp2_with fail;go_ret2;exact ⟨rfl,rfl⟩
  ·have f:(n==769)=false:=mx;have g:(n==3860)=false:=(by simpa using c);have F:Hid (vY n=0/\uF n=false):=⟨by simp [vY,b],by simp [uF,b,c]⟩;clear b c;go_enter func55,ntmps55;go_wp2_with fail;go_ret2;exact ⟨by rw [F.out.1,F.out.2];rfl,rfl⟩
theorem qm:P.ownsRow s 32 1 (.slice none 0 0) 0 (([]:List Int).map (L6 .u64)):=⟨rfl,.inl ⟨rfl,rfl⟩⟩
theorem sL:A6 prog 45 #[] P λe o=>e=.returned (.slice (some ⟨P.heap.size,0,none⟩) 22 22) /\ o.ownsRow P.heap.size 32 1 (.slice (some ⟨P.heap.size,0,none⟩) 22 22) 22 ((T9 22 (0:Int)).map (L6 .u64))/\Bw P o:=by
 obtain ⟨m,p,j,l,d⟩:=info_parts zN;have f:m.bytes*22<=281474976710656:=by rw [d];omega
 have g:22<=maxLen:=by unfold maxLen;omega
 clear d;go_enter func45,ntmps45;go_wp2_with (at_make;refine wpList_make_full _ rfl (.const (.i 22)) (.const (.i 22)) 31 rfl P.heap.size 32 m (.u 0) 1 underlying31 p j l .i64 .i64 _ _ 22 rfl rfl rfl rfl f g (M5 _) ?_;intro q c b);go_ret;refine ⟨rfl,?_,(U2 _ _).grown b (M5 _) l1⟩;have e:(T9 22 (0:Int)).map (L6 .u64)=T9 22 (.u 0):=bh
 rw [e,<- toList_madeCells_one];simpa [Value.cells] using c
theorem AA:∀ f k,k+f<=22->(bU c Q f k).ok->∃ j:Nat,j<22/\(bU c Q f k).at_=(j:Int):=by
 intro f;induction f with
 | zero=>intro k _ h;cases h
 | succ f a =>
   intro k b;unfold bU;split;·intro _;exact ⟨k,aa,rfl⟩
   ·split;·intro _;exact ⟨k,aa,rfl⟩
    ·exact a (k+1) aa
def C9 (m:Nat) (l:List Int) (n p:Int):Bool:=iY m l&&mH n p
def lB (m:Nat) (l:List Int) (n p:Int):Bool:=C9 m l n p&&((bU n (l.getD 2 0) 22 0).ok||uF n)
def mI (m:Nat) (l:List Int) (n p:Int):Int :=
 if C9 m l n p=true then (if (bU n (l.getD 2 0) 22 0).ok=true then A0 .and .u64 (l.getD (bU n (l.getD 2 0) 22 0).at_.toNat 0) (bU n (l.getD 2 0) 22 0).rd else vY n) else 0
theorem uG (h:iY l w):l=22:=by simp only [iY,N1,JZ6] at h;exact h.1
theorem m0 (m cap:Nat) (l:List Int) (n p:Int) (w:A5) (hz:l.length=m) (r:Sl .u64 w f l) (hl:∀ j,0<=l.getD j 0/\l.getD j 0<18446744073709551616): CB 34 #[.slice f m cap,.i n,.i p] w (.tuple #[.u (mI m l n p),.bool (lB m l n p)]):=by
 have q:=λW (K:Bw w W)=>kE f m cap l W hz (r.below K) hl;have x:=qk n p;refine cF (S:=Bs w []) (args:=[.slice f m cap,.i n,.i p]) [] func34 ?_;unfold mI lB C9;generalize mH n p=N at *;cases i:iY m l<;>rw [i] at q;case' true=>cases N
 case true.true =>
  have M:=uG i;subst M;have H:=ql n;have A:=uC n (l.getD 2 0);have a:=AA n (l.getD 2 0) 22 0 aa;obtain ⟨b,c,rfl,d,I⟩:=r 2 aa;generalize bU n (l.getD 2 0) 22 0=V at *;generalize l.getD 2 0=v at *;generalize vY n=U at *;generalize uF n=Q at *;obtain ⟨Y,D,E,F,O⟩:=V;simp only [Vw.cells] at A a;refine ak Bs.eng {ov:=[(24,lw ⟨b,c+2,none⟩ (.u v) underlying32 rfl λW h=>(h.2.cell (by exact d)).trans I)],cv:=[(12,fu q),(17,wU λW _=>x W),(25,fu λW _=>A W)]} 60 (Bs.start _ _) λW h=>?_;refine eH 1 (dV (T:=87) (z:=.agg #[.i 0,.u 0,.u 0]) ab W) ?_;refine du (R:=[]) trivial {} 9 (aF (g:=W.heap.size) (t:=87) (ty:=87) (cells:=#[.i D,.u E,.u F]) (F0 _ _) ab rfl ab) ?_;refine bO (R1 w W.heap.size #[.i D,.u E,.u F] 87) ?_;cases O;case true =>obtain ⟨k,X,u⟩:=a rfl;subst u;obtain ⟨P,C,e,L,J⟩:=r k aa;cases e;rw [T3];generalize l.getD k 0=y at *;exact kZ (t:=6) (s:=7) R1.eng {ov:=[(37,pA (a:=some ⟨b,c,none⟩) (b:=b) (o:=c) 22 cap .i64 (k:Int) rfl ⟨aa,aa⟩ underlying31 ab),(38,lw ⟨b,c+(k:Int).toNat,none⟩ (.u y) underlying32 rfl λW h=>(h.2.cell (by exact d)).trans J)]} 60 (R1.new h.2) (λB h=>⟨rfl,h.2⟩)
  exact kZ (t:=6) (s:=7) R1.eng {cv:=[(32,jF R1.below λW _=>(H W).mono λe G h=>⟨h.1,lh⟩)]} 60 (R1.new h.2) (λB h=>⟨rfl,h.2⟩)
 all_goals exact kZ (t:=6) (s:=7) Bs.eng {cv:=[(12,fu q),(17,wU λW _=>x W)]} 60 (Bs.start _ _) (λB h=>⟨rfl,h.2⟩)
def ox (m:Nat) (l:List Int) (n p:Int):Bool:=C9 m l n p&&!rT n&&((bU n (l.getD 2 0) 22 0).ok||uF n)
def mJ (l:List Int) (n x:Int):List Int :=
 if (bU n (l.getD 2 0) 22 0).ok=true then l.set (bU n (l.getD 2 0) 22 0).at_.toNat (j4 l (bU n (l.getD 2 0) 22 0).at_.toNat (bU n (l.getD 2 0) 22 0).wr x) else l
def mK (m:Nat) (l:List Int) (n p x:Int):List Int:=if ox m l n p=true then mJ l n x else []
theorem Et {g n:Nat} (hb:l<=g) (hz:w.length=n) (hn:n<=maxLen) (h:x.heap[g]?=some (.cells (w.map (L6 .u64)).toArray p (0,0))):x.ownsRow l p 1 (.slice (some ⟨g,0,none⟩) n n) n (w.map (L6 .u64)):=
 ⟨mr,.inr ⟨g,n,_,rfl,hb,h,M5 _,hn,mr,by subst hz;simp [List.take_of_length_le]⟩⟩
theorem qX (m cap:Nat) (l:List Int) (n p x:Int) (w:A5) (hz:l.length=m) (I:Sl .u64 w f l) (hl:∀ j,0<=l.getD j 0/\l.getD j 0<18446744073709551616) (h0:0<=x) (h1:x<18446744073709551616): A6 prog 208 #[.slice f m cap,.i n,.i p,.u x] w λe w'=>∃ (a':Option I5) (c:Nat),e=.returned (.tuple #[.slice a' (mK m l n p x).length c,.bool (ox m l n p)]) /\ w'.ownsRow w.heap.size 32 1 (.slice a' (mK m l n p x).length c) (mK m l n p x).length ((mK m l n p x).map (L6 .u64))/\Bw w w':=by
 have K:=λW (H:Bw w W)=>kE f m cap l W hz (I.below H) hl
 have U:=qk n p
 have Z:=yJ n
 refine cF (S:=Bs w []) (args:=[.slice f m cap,.i n,.i p,.u x]) [] func208 ?_
 have F:ox m l n p=(iY m l&&mH n p&&!rT n&&((bU n (l.getD 2 0) 22 0).ok||uF n)):=rfl
 have J:mJ l n x=if (bU n (l.getD 2 0) 22 0).ok=true then l.set (bU n (l.getD 2 0) 22 0).at_.toNat (j4 l (bU n (l.getD 2 0) 22 0).at_.toNat (bU n (l.getD 2 0) 22 0).wr x) else l:=rfl
 unfold mK
 generalize mH n p=re at *
 generalize rT n=on at *
 generalize ox m l n p=wb at *
 generalize mJ l n x=L at *
 cases D:iY m l<;>rw [D] at K F
 case' true=>cases re;case' true=>cases on
 case true.true.false =>
  have hm:=uG D
  subst hm
  have HF:=ql n
  have HV:=uC n (l.getD 2 0)
  have C:=AA n (l.getD 2 0) 22 0 aa
  obtain ⟨b,r,rfl,O,c2⟩:=I 2 aa
  generalize bU n (l.getD 2 0) 22 0=V at *
  generalize l.getD 2 0=Q at *
  generalize vY n=fv at *
  generalize uF n=G at *
  obtain ⟨va,A,B,d,E⟩:=V
  simp only [Vw.cells] at HV C F J
  refine ak Bs.eng {ov:=[(33,lw ⟨b,r+2,none⟩ (.u Q) underlying32 rfl λW h=>(h.2.cell (by exact O)).trans c2)],cv:=[(17,fu K),(22,wU λW _=>U W),(27,wU λW _=>Z W),(34,fu λW _=>HV W)]} 60 (Bs.start _ _) λW h=>?_
  refine eH 1 (dV (T:=87) (z:=.agg #[.i 0,.u 0,.u 0]) ab W) ?_
  refine du (R:=[]) trivial {} 9 (aF (g:=W.heap.size) (t:=87) (ty:=87) (cells:=#[.i A,.u B,.u d]) (F0 _ _) ab rfl ab) ?_
  refine bO (R1 w W.heap.size #[.i A,.u B,.u d] 87) ?_
  have hF:∀ X,R1 w W.heap.size #[.i A,.u B,.u d] 87 X->_:=λX _=>(HF X).mono λe w' (h:_/\w'=X)=>(⟨h.1,lh⟩:_/\Bw X w')
  have ho:wb=(E||G):=F
  subst ho
  obtain rfl|⟨rfl,rfl⟩|⟨rfl,rfl⟩:E\/(E=false/\G)\/E=false/\G=false:=by cases E<;>cases G<;>simp
  case inr.inr=>exact kZ (t:=8) (s:=9) R1.eng {cv:=[(40,jF R1.below hF)]} 60 (R1.new h.2) (λM h=>⟨none,0,rfl,qm _ _,h.2⟩)
  all_goals
   refine ak R1.eng {cv:=[(40,jF R1.below hF)]} 60 (R1.new h.2) λX a=>?_
   refine eH 1 (s:=do pure (.value (<- Instr.makeSlice 31 (.i 22) (.i 22)))) (v:=.slice (some ⟨X.heap.size,0,none⟩) 22 22) (w':=X.alloc (.cells (S5 22 (.u 0)) 32)) ab ?_
   have H:=a.2.alloc a.2.size (.cells (S5 22 (.u 0)) 32)
   refine eU (R:=[]) trivial {} 30 0 (s:=do pure (.value (<- Builtin.copy_ #[31,31] 3 #[.slice (some ⟨X.heap.size,0,none⟩) 22 22,.slice (some ⟨b,r,none⟩) 22 cap]))) (v:=goInt (l.map (L6 .u64)).length) (w':=(X.alloc (.cells (S5 22 (.u 0)) 32)).setRow X.heap.size (l.map (L6 .u64)).toArray) ?_ ?_
   ·have hc:=run_copy_row (P:=prog) _ 31 31 3 32 X.heap.size 0 22 22 ⟨b,r,none⟩ 22 cap _ _ (l.map (L6 .u64)) underlying31 ab (F0 X (.cells (S5 22 (.u 0)) 32)) mr (λj v h=>by
     rw [List.getElem?_map] at h
     obtain ⟨y,hy,rfl⟩:=Option.map_eq_some_iff.1 h
     obtain ⟨b',o',e,_,c⟩:=I.below H j (List.getElem?_eq_some_iff.1 hy).1
     cases e
     rw [FH,c,U1,hy];rfl) mr (λv h=>by obtain ⟨y,_,rfl⟩:=List.mem_map.1 h;rfl)
    simp only [List.take_zero,List.nil_append,Nat.zero_add,List.length_map,hz,Array.toList_replicate,List.drop_replicate,Nat.sub_self,List.replicate_zero,List.append_nil] at hc ⊢
    simp [hc,V0]
   have h2:R2 w W.heap.size #[.i A,.u B,.u d] 87 X.heap.size (l.map (L6 .u64)).toArray 32 ((X.alloc (.cells (S5 22 (.u 0)) 32)).setRow X.heap.size (l.map (L6 .u64)).toArray):=by
    have hx:=(T0.1 a.1).1
    exact ⟨⟨(setRow_other _ _ _ _ aa).trans ((U3 X _ _ hx).trans a.1),aN H a.2.size _⟩,G3 _ _ _ _ _ _ (F0 _ _)⟩
   refine bO (R2 w W.heap.size #[.i A,.u B,.u d] 87 X.heap.size (l.map (L6 .u64)).toArray 32) ?_
  case inr.inl =>
   have e:L=l:=J
   rw [e]
   exact kZ (t:=8) (s:=9) (v:=.slice (some ⟨X.heap.size,0,none⟩) 22 22) (u:=.bool true) R2.eng {} 60 h2 (λM h=>⟨_,22,by show _=Ending.returned (.tuple #[.slice _ l.length 22,.bool true]);rw [hz],by show T6 _ _ _ _ (.slice _ l.length 22) l.length (l.map _);rw [hz];exact Et a.2.size hz ba h.2,h.1.2⟩)
  obtain ⟨k,hk,rfl⟩:=C rfl
  have HB:=λY (h:R2 w W.heap.size #[.i A,.u B,.u d] 87 X.heap.size (l.map (L6 .u64)).toArray 32 Y)=>C8 _ cap l k hk d x Y hz (I.below h.1.2) hl h0 h1
  have e:L=l.set k (j4 l k d x):=J
  rw [e]
  generalize j4 l k d x=y at *
  refine ak R2.eng {ov:=[(62,pA (a:=some ⟨X.heap.size,0,none⟩) (b:=X.heap.size) (o:=0) 22 22 .i64 (k:Int) rfl ⟨aa,aa⟩ underlying31 ab)],cv:=[(61,jF R2.below HB)]} 60 h2 λY N=>?_
  refine cP (jk (i:=0+(k:Int).toNat) (T:=32) (v:=.u y) N.2 (by simp [hz];omega) ab rfl) ?_
  have hr:=gn (j:=0+(k:Int).toNat) N.2 (.u y)
  have er:((l.map (L6 .u64)).toArray.set! (0+(k:Int).toNat) (.u y))=((l.set k y).map (L6 .u64)).toArray:=by simp [List.map_set]
  rw [er] at hr
  refine bO (R1 w X.heap.size ((l.set k y).map (L6 .u64)).toArray 32) ?_
  have q:(l.set k y).length=22:=by rw [List.length_set,hz]
  exact kZ (t:=8) (s:=9) (v:=.slice (some ⟨X.heap.size,0,none⟩) 22 22) (u:=.bool true) R1.eng {} 60 ⟨hr,N.1.2.setCell a.2.size _⟩ (λM h=>⟨_,22,by show _=Ending.returned (.tuple #[.slice _ (l.set k y).length 22,.bool true]);rw [q],by show T6 _ _ _ _ (.slice _ (l.set k y).length 22) (l.set k y).length ((l.set k y).map _);rw [q];exact Et a.2.size q ba h.1,h.2⟩)
 all_goals
  obtain rfl:wb=false:=F
  exact kZ (t:=8) (s:=9) Bs.eng {cv:=[(17,fu K),(22,wU λW _=>U W),(27,wU λW _=>Z W)]} 60 (Bs.start _ _) (λM h=>⟨none,0,rfl,qm _ _,h.2⟩)
theorem Rg:∀ i,i<64->∀ (p q:Bool) (o:Bool),(((if i=0 then p else if i=1 then q else o)&&bt 924074 (i+11))&&bt 3 i)=bt ((if p=true then 1 else 0)+(if q=true then 2 else 0)) i:=by decide +kernel
theorem OJ:∀ i,i<64->∀ (p q:Bool) (o:Bool),((if i=11 then p else if i=12 then q else o)&&bt 6144 i)=bt ((if p=true then 2048 else 0)+(if q=true then 4096 else 0)) i:=by decide +kernel
theorem Jj (h:U c):fT .mst c=mst c:=by
 have e:A0 .and .u64 (A0 .and .u64 c 924074/2048) 3=(if bt c 11=true then 1 else 0)+(if bt c 12=true then 2 else 0):=by
  refine aS _ _ (af _ _ _) (by constructor<;>(cases bt c 11<;>cases bt c 12<;>decide)) λi x=>?_;have d:=it (A0 .and .u64 c 924074) (af _ _ _) 11 i;rw [show ((2:Int)^11)=2048 from ba] at d;rw [aq,d,aq,<- Rg i x (bt c 11) (bt c 12) (bt c (i+11))];by_cases a:i=0;·subst a;rfl
  ·by_cases b:i=1;·subst b;rfl
   ·rw [JZ9 a,JZ9 b]
 have f:A0 .and .u64 c 6144=(if bt c 11=true then 2048 else 0)+(if bt c 12=true then 4096 else 0):=by
  refine aS _ _ (af _ _ _) (by constructor<;>(cases bt c 11<;>cases bt c 12<;>decide)) λi x=>?_;rw [aq,<- OJ i x (bt c 11) (bt c 12) (bt c i)];by_cases a:i=11;·subst a;rfl
  ·by_cases b:i=12;·subst b;rfl
   ·rw [JZ9 a,JZ9 b]
 show (if (A0 .and .u64 c 6144==4096)=true then A0 .andNot .u64 (A0 .and .u64 c 924074) 6144 else A0 .and .u64 c 924074)=mst c;unfold mst;rw [e,f];cases bt c 11<;>cases bt c 12<;>rfl
theorem Rh:∀ i,i<64->∀ a:Bool,(a&&bt 18446744073709551613 i)=(a&&!bt 2 i):=by decide +kernel
theorem SE:∀ i,i<64->∀ a:Bool,(a&&bt 18446744073709551612 i)=(a&&!bt 3 i):=by decide +kernel
theorem yK:∀ i,i<64->bt 18446744073709551615 i:=by decide +kernel
theorem PV:∀ i,i<64->∀ a:Bool,((decide (i<8)&&a)&&bt 159 i)=(a&&bt 159 i):=by decide +kernel
theorem Ri:A0 .and .u64 c 18446744073709551613=A0 .andNot .u64 c 2 :=
 aS _ _ (af _ _ _) (af _ _ _) λi a=>by rw [aq,aw _ _ _ a];exact Rh i a _
theorem PW:A0 .and .u64 c 18446744073709551612=A0 .andNot .u64 c 3 :=
 aS _ _ (af _ _ _) (af _ _ _) λi a=>by rw [aq,aw _ _ _ a];exact SE i a _
theorem oy (h:U c):A0 .and .u64 c 18446744073709551615=c :=
 aS _ _ (af _ _ _) h λi a=>by rw [aq,yK i a,S2]
theorem Mx (h:U c) (k:Nat):Av c k=j6 c k:=by
 have e:A0 .and .u64 (aG c (8*k) 8) 159=A0 .and .u64 (c/2^(8*k)) 159 :=
  aS _ _ (af _ _ _) (af _ _ _) λi a=>by
   rw [aq,aq,kA c h _ _ _ aa,it c h];exact PV i a _
 unfold Av j6;rw [e]
theorem Jk (h:U c) (k:Nat):pj c k=dI c k:=by
 induction k with
 | zero=>rfl
 | succ k a=>rw [pj,dI,a,Mx c h]
theorem xc (h:U c) (k:Nat) (hk:k<22) (b:k≠9) (a:k≠15):fT (eO k).2 c=ee k c:=by
 have:k=0\/k=1\/k=2\/k=3\/k=4\/k=5\/k=6\/k=7\/k=8\/k=10\/k=11\/k=12\/k=13\/k=14\/k=16\/k=17\/k=18\/k=19\/k=20\/k=21:=aa
 rcases this with rfl|rfl|rfl|rfl|rfl|rfl|rfl|rfl|rfl|rfl|rfl|rfl|rfl|rfl|rfl|rfl|rfl|rfl|rfl|rfl;·exact Jj c h
 ·rfl
 ·rfl
 ·rfl
 ·exact Ri c
 ·exact oy c h
 ·exact PW c
 ·rfl
 ·exact oy c h
 ·exact Ri c
 ·exact oy c h
 ·exact PW c
 ·rfl
 ·exact oy c h
 ·exact Jk c h 4
 ·rfl
 ·rfl
 ·rfl
 ·rfl
 ·exact oy c h
theorem Eu (h:U c):fZ c=((c/1152921504606846976==0)||(c/1152921504606846976==8)):=by
 have e:aG c 60 4=c/1152921504606846976:=by unfold aG;rw [show ((2:Int)^60)=1152921504606846976 from ba,show ((2:Int)^4)=16 from ba];have:=h.1;have:=h.2;omega
 unfold fZ;rw [e]
theorem PY (x:Int) (h:U x) (k:Nat) (hk:k<22):(fT (eO k).2 x==x)=fS k x:=by
 by_cases b:k=9;·subst b;rfl
 ·by_cases a:k=15
  ·subst a;show (fT .satp x==x)=((x/1152921504606846976==0)||(x/1152921504606846976==8));rw [<- Eu x h];show ((if fZ x=true then x else 0)==x)=fZ x;cases c:fZ x with
   | true=>simp
   | false =>have d:x≠0:=(by rintro rfl;revert c;decide);simp only [Bool.false_eq_true,if_false,beq_eq_false_iff_ne];exact λh=>d h.symm
  ·rw [xc x h k hk b a];unfold fS;rw [JZ9 b,JZ9 a]
theorem AB (hl:∀ j,U (g.getD j 0)):∀ n k,k+n<=22->cH g n k=mn g n k:=by
 intro n;induction n with
 | zero=>intro k _;rfl
 | succ n a =>intro k b;rw [cH,mn,PY _ (hl k) k aa,a (k+1) aa]
theorem xd (hl:∀ j,U (g.getD j 0)):iY t g=bp t g:=by unfold iY bp;rw [AB g hl 22 0 aa]
def nums:List Int:=[768,770,771,772,773,832,833,834,835,836,261,320,321,322,323,384,928,944,945,946,947,2818,256,260,324]
theorem Mz:∀ k,k<22->(eO k).1 ∈ nums:=by decide
theorem Jl:∀ k,k<22->oW.getD k 0 ∈ nums:=by decide
theorem kG (h:c ∉ nums):∀ f k,k+f<=22->bU c Q f k=⟨-1,0,0,0,false⟩:=by
 intro f;induction f with
 | zero=>intro k _;rfl
 | succ f n =>
   intro k g;have a:((eO k).1==c)=false:=(by rw [beq_eq_false_iff_ne];intro e;exact h (e ▸ Mz k aa));have b:((eO k).2.sees&&(mZ (eO k).2==c))=false:=by cases d:(eO k).2<;>first | rfl | (simp only [CK.sees,mZ,R4,beq_eq_false_iff_ne];intro e;apply h;rw [<- e];decide)
   rw [bU,JZ9 (by rw [a];decide),JZ9 (by rw [b];decide)];exact n (k+1) aa
theorem yL (h:c ∉ nums):∀ f k,k+f<=22->kU c f k=-1:=by
 intro f;induction f with
 | zero=>intro k _;rfl
 | succ f b =>intro k n;have a:(oW.getD k 0==c)=false:=(by rw [beq_eq_false_iff_ne];intro e;exact h (e ▸ Jl k aa));rw [kU,JZ9 (by rw [a];decide)];exact b (k+1) aa
theorem rU (h:c ∉ nums):ku c=-1:=by unfold ku;rw [JZ9 (λe=>h (by rw [e];decide)),JZ9 (λe=>h (by rw [e];decide)),JZ9 (λe=>h (by rw [e];decide))];exact yL c h 22 0 aa
theorem iZ (h:c ∈ nums):c=768\/c=770\/c=771\/c=772\/c=773\/c=832\/c=833\/c=834\/c=835\/c=836\/c=261\/c=320\/c=321\/c=322\/c=323\/c=384\/c=928\/c=944\/c=945\/c=946\/c=947\/c=2818\/c=256\/c=260\/c=324:=by simpa [nums] using h
theorem AD:((bU c Q 22 0).ok||uF c)=fU c:=by
 by_cases h:c ∈ nums;·rcases iZ c h with rfl|rfl|rfl|rfl|rfl|rfl|rfl|rfl|rfl|rfl|rfl|rfl|rfl|rfl|rfl|rfl|rfl|rfl|rfl|rfl|rfl|rfl|rfl|rfl|rfl<;>rfl
 ·rw [kG c Q h 22 0 aa];unfold fU uF;rw [rU c h];cases (c==769)<;>cases (c==3860)<;>rfl
theorem jA (h:fU c):c=3860\/c=769\/c ∈ nums:=by
 by_cases a:c ∈ nums;·exact .inr (.inr a)
 ·simp only [fU,rU c a,Bool.or_eq_true,beq_iff_eq,JZ6] at h;omega
theorem Jm (h:fU c):mH c Q=(di Q&&decide ((T2 (c.tdiv 256)).tmod 4<=Q)):=by
 have e:A0 .and .i64 (c/256) 3=(T2 (c.tdiv 256)).tmod 4:=by
  rcases jA c h with rfl|rfl|a;·decide +kernel
  ·decide +kernel
  ·rcases iZ c a with rfl|rfl|rfl|rfl|rfl|rfl|rfl|rfl|rfl|rfl|rfl|rfl|rfl|rfl|rfl|rfl|rfl|rfl|rfl|rfl|rfl|rfl|rfl|rfl|rfl<;>decide +kernel
 unfold mH;rw [e]
theorem MC (h:fU c):rT c=((T2 (c.tdiv 1024)).tmod 4==3):=by
 have e:A0 .and .i64 (c/1024) 3=(T2 (c.tdiv 1024)).tmod 4:=by
  rcases jA c h with rfl|rfl|a;·decide +kernel
  ·decide +kernel
  ·rcases iZ c a with rfl|rfl|rfl|rfl|rfl|rfl|rfl|rfl|rfl|rfl|rfl|rfl|rfl|rfl|rfl|rfl|rfl|rfl|rfl|rfl|rfl|rfl|rfl|rfl|rfl<;>decide +kernel
 unfold rT;rw [e]
theorem uH (m:Nat) (l:List Int) (hl:∀ j,U (l.getD j 0)) (n p:Int):lB m l n p=lG m l n p:=by
 unfold lB lG C9;rw [xd m l hl,AD];cases a:fU n with
 | false=>simp
 | true =>rw [Jm n p a];cases bp m l<;>cases di p<;>simp
theorem cg (hl:∀ j,U (g.getD j 0)) (n:Int) (k:Nat) (a:bU n (g.getD 2 0) 22 0=⟨k,n,18446744073709551615,18446744073709551615,true⟩) (b:jU g n=g.getD k 0): (if (bU n (g.getD 2 0) 22 0).ok=true then A0 .and .u64 (g.getD (bU n (g.getD 2 0) 22 0).at_.toNat 0) (bU n (g.getD 2 0) 22 0).rd else vY n)=jU g n:=by rw [a,b];show A0 .and .u64 (g.getD ((k:Int)).toNat 0) 18446744073709551615=_;rw [T3,oy _ (hl k)]
theorem MD (hl:∀ j,U (g.getD j 0)) (n:Int) (h:fU n): (if (bU n (g.getD 2 0) 22 0).ok=true then A0 .and .u64 (g.getD (bU n (g.getD 2 0) 22 0).at_.toNat 0) (bU n (g.getD 2 0) 22 0).rd else vY n)=jU g n:=by
 rcases jA n h with rfl|rfl|a;·rw [kG 3860 _ ba 22 0 aa];rfl
 ·rw [kG 769 _ ba 22 0 aa];rfl
 ·rcases iZ n a with rfl|rfl|rfl|rfl|rfl|rfl|rfl|rfl|rfl|rfl|rfl|rfl|rfl|rfl|rfl|rfl|rfl|rfl|rfl|rfl|rfl|rfl|rfl|rfl|rfl;·exact cg g hl 768 0 rfl rfl
  ·exact cg g hl 770 1 rfl rfl
  ·exact cg g hl 771 2 rfl rfl
  ·exact cg g hl 772 3 rfl rfl
  ·exact cg g hl 773 4 rfl rfl
  ·exact cg g hl 832 5 rfl rfl
  ·exact cg g hl 833 6 rfl rfl
  ·exact cg g hl 834 7 rfl rfl
  ·exact cg g hl 835 8 rfl rfl
  ·exact cg g hl 836 9 rfl rfl
  ·exact cg g hl 261 10 rfl rfl
  ·exact cg g hl 320 11 rfl rfl
  ·exact cg g hl 321 12 rfl rfl
  ·exact cg g hl 322 13 rfl rfl
  ·exact cg g hl 323 14 rfl rfl
  ·exact cg g hl 384 15 rfl rfl
  ·exact cg g hl 928 16 rfl rfl
  ·exact cg g hl 944 17 rfl rfl
  ·exact cg g hl 945 18 rfl rfl
  ·exact cg g hl 946 19 rfl rfl
  ·exact cg g hl 947 20 rfl rfl
  ·exact cg g hl 2818 21 rfl rfl
  ·rfl
  ·rfl
  ·rfl
theorem Jn (m:Nat) (l:List Int) (hl:∀ j,U (l.getD j 0)) (n p:Int):mI m l n p=(if lG m l n p=true then jU l n else 0):=by
 have a:=uH m l hl n p;unfold lB at a;rw [AD] at a;cases b:fU n with
 | false =>have d:lG m l n p=false:=(by unfold lG;rw [b];cases bp m l<;>rfl);rw [d,JZ9 ba];unfold mI;have c:=AD n (l.getD 2 0);rw [b,R5] at c;rw [c.1];have e:vY n=0:=(by have:=c.2;simp only [uF,R5,beq_eq_false_iff_ne] at this;unfold vY;rw [JZ9 this.1]);rw [e];cases C9 m l n p<;>rfl
 | true =>rw [b,S2] at a;unfold mI;rw [a,MD l hl n b]
theorem yM (h:U Q):A0 .or .u64 (A0 .andNot .u64 c 18446744073709551615) (A0 .and .u64 Q 18446744073709551615)=Q :=
 aS _ _ (af _ _ _) h λi a=>by rw [bC,aw _ _ _ a,aq,yK i a];cases bt c i<;>cases bt Q i<;>rfl
theorem Ev (h:U c):A0 .or .u64 (A0 .andNot .u64 c 0) (A0 .and .u64 Q 0)=c :=
 aS _ _ (af _ _ _) h λi b=>by
  have a:bt 0 i=false:=by unfold bt;simp
  rw [bC,aw _ _ _ b,aq,a];cases bt c i<;>cases bt Q i<;>rfl
theorem xe:A0 .andNot .u64 18446744073709551615 0=18446744073709551615:=by decide +kernel
theorem rV:A0 .andNot .u64 18446744073709551615 18446744073709551615=0:=by decide +kernel
theorem Rj (k:CK) (x:Int) (h:U x):U (fT k x):=by
 cases k with
 | plain b=>exact af .and x b
 | mst =>
   show U (if (A0 .and .u64 x 6144==4096)=true then A0 .andNot .u64 (A0 .and .u64 x 924074) 6144 else A0 .and .u64 x 924074);split;·exact af _ _ _
   ·exact af _ _ _
 | mie=>exact af .and x 2730
 | mip=>exact af .and x 2730
 | satp =>
   show U (if fZ x=true then x else 0);split;·exact h
   ·constructor<;>decide
 | cfg=>rw [show fT .cfg x=pj x 4 from rfl,pj];exact af _ _ _
 | addr e=>exact af .and x 18014398509481983
theorem Gt (hk:(eO s).2.holds=false) (x:Int) (h:U x):j4 g s 18446744073709551615 x=fT (eO s).2 x:=by unfold j4 kF;rw [hk,JZ9 ba];exact yM _ _ (Rj _ x h)
theorem lX (hk:s<g.length):g.set s (g.getD s 0)=g:=by
 have e:g.getD s 0=g[s]:=by simp [U1,U0 hk]
 rw [e,List.set_getElem_self]
theorem P0:∀ i,i<64->∀ y x:Bool,(((y&&bt 2730 i)&&!(bt 18446744073709551615 i&&!bt 2184 i))||((x&&bt 2730 i)&&(bt 18446744073709551615 i&&!bt 2184 i)))=(((y&&bt 2730 i)&&!bt 546 i)||(x&&bt 546 i)):=by decide +kernel
theorem Jo (y:A0 .and .u64 c 2730=c): A0 .or .u64 (A0 .andNot .u64 c (A0 .andNot .u64 18446744073709551615 2184)) (A0 .and .u64 (A0 .and .u64 Q 2730) (A0 .andNot .u64 18446744073709551615 2184))=gD c 546 Q:=by
 unfold gD;refine aS _ _ (af _ _ _) (af _ _ _) λi a=>?_;have b:bt c i=(bt c i&&bt 2730 i):=by conv=>lhs;rw [<- y,aq]
 rw [bC,aw _ _ _ a,aq,aq,aw _ _ _ a,bC,aw _ _ _ a,aq,b];exact P0 i a _ _
theorem Jp:∀ i,i<64->∀ x:Bool,((x&&bt 924074 i)&&bt 786722 i)=(x&&bt 786722 i)/\(((x&&bt 924074 i)&&!bt 6144 i)&&bt 786722 i)=(x&&bt 786722 i):=by decide +kernel
theorem Jq:A0 .or .u64 (A0 .andNot .u64 c 786722) (A0 .and .u64 (fT .mst Q) 786722)=gD c 786722 Q:=by
 unfold gD;refine aS _ _ (af _ _ _) (af _ _ _) λi a=>?_;have b:bt (A0 .and .u64 (fT .mst Q) 786722) i=bt (A0 .and .u64 Q 786722) i:=by
  show bt (A0 .and .u64 (if (A0 .and .u64 Q 6144==4096)=true then A0 .andNot .u64 (A0 .and .u64 Q 924074) 6144 else A0 .and .u64 Q 924074) 786722) i=_;split;·rw [aq,aw _ _ _ a,aq,aq];exact (Jp i a _).2
  ·rw [aq,aq,aq];exact (Jp i a _).1
 rw [bC,b,bC]
theorem Jr (y:A0 .and .u64 c 2730=c):A0 .or .u64 (A0 .andNot .u64 c Q) (A0 .and .u64 (A0 .and .u64 e 2730) Q)=ee 3 (gD c Q e):=by
 show _=A0 .and .u64 (A0 .or .u64 (A0 .andNot .u64 c Q) (A0 .and .u64 e Q)) 2730;refine aS _ _ (af _ _ _) (af _ _ _) λi a=>?_;have b:bt c i=(bt c i&&bt 2730 i):=by conv=>lhs;rw [<- y,aq]
 rw [bC,aw _ _ _ a,aq,aq,aq,bC,aw _ _ _ a,aq,b];cases bt c i<;>cases bt Q i<;>cases bt e i<;>cases bt 2730 i<;>rfl
theorem P1:∀ i,i<64->∀ y m x:Bool,((y&&!((m&&bt 2 i)&&!bt 2184 i))||((x&&bt 2730 i)&&((m&&bt 2 i)&&!bt 2184 i)))=((y&&!(m&&bt 2 i))||(x&&(m&&bt 2 i))):=by decide +kernel
theorem Js:A0 .or .u64 (A0 .andNot .u64 c (A0 .andNot .u64 (A0 .and .u64 Q 2) 2184)) (A0 .and .u64 (A0 .and .u64 e 2730) (A0 .andNot .u64 (A0 .and .u64 Q 2) 2184))=gD c (A0 .and .u64 Q 2) e:=by unfold gD;refine aS _ _ (af _ _ _) (af _ _ _) λi a=>?_;rw [bC,aw _ _ _ a,aq,aq,aw _ _ _ a,aq,bC,aw _ _ _ a,aq,aq,aq];exact P1 i a _ _ _
theorem Da (h:U (g.getD 16 0)) (k:Nat):jV g k=aG (g.getD 16 0) (8*k) 8:=gm _ (8*k) 8 h.1 h.2 aa
theorem Rk:∀ z:Nat,z<256->(A0 .and .u64 (z:Int) 128 != 0)=((z:Int)/128==1):=by decide +kernel
theorem th (h:U (g.getD 16 0)) (k:Nat):eK (g.getD 16 0) k=(jV g k/128==1):=by
 rw [Da g h]
 unfold eK
 have a:=jI (g.getD 16 0) (8*k) 8
 obtain ⟨z,b⟩:=Int.eq_ofNat_of_zero_le a.1
 rw [b] at a ⊢
 exact Rk z (by have:((2:Int)^8)=256:=by decide
                omega)
theorem Db (h:U Q):∀ k,U (gh g Q k):=by
 intro k;induction k with
 | zero=>exact h
 | succ k a =>
   rw [gh];split;·exact af _ _ _
   ·exact a
theorem xf (h:U (g.getD 16 0)) (y:Int) (i:Nat) (c:i<64):∀ k,bt (gh g y k) i=if bt (fz (g.getD 16 0) k) i=true then bt (g.getD 16 0) i else bt y i:=by
 intro k;induction k with
 | zero =>
   have b:bt 0 i=false:=(by unfold bt;simp);show bt y i=if bt 0 i=true then _ else _
   rw [b,JZ9 ba]
 | succ k a =>
   rw [gh,fz,th g h];cases (jV g k/128==1) with
   | false=>exact a
   | true =>rw [JZ8 rfl,JZ8 rfl,bC,aw _ _ _ c,aq,bC,a];cases bt (Uz.wrap (255*2^(8*k))) i<;>cases bt (fz (g.getD 16 0) k) i<;>cases bt (g.getD 16 0) i<;>cases bt y i<;>rfl
theorem Jt (h:U (g.getD 16 0)) (f:Int) (b:U f): A0 .or .u64 (A0 .andNot .u64 (g.getD 16 0) (A0 .andNot .u64 18446744073709551615 (fz (g.getD 16 0) 4))) (A0 .and .u64 f (A0 .andNot .u64 18446744073709551615 (fz (g.getD 16 0) 4)))=gh g f 4:=by refine aS _ _ (af _ _ _) (Db g f b 4) λi a=>?_;rw [xf g h f i a,bC,aw _ _ _ a,aq,aw _ _ _ a,yK i a];cases bt (fz (g.getD 16 0) 4) i<;>cases bt (g.getD 16 0) i<;>cases bt f i<;>rfl
theorem Ew:∀ i,i<64->8<=i->bt 159 i=false:=by decide +kernel
theorem Ex (i:8<=b):bt (j6 c t) b=false:=by
 by_cases a:b<64
 ·unfold j6;split;·rw [aw _ _ _ a,aq,Ew b a i,P2,S1]
  ·rw [aq,Ew b a i,P2]
 ·exact sY _ _ aa
theorem Ju:U (j6 c t):=by unfold j6;split<;>exact af _ _ _
theorem Jv (b:32<=t):∀ k,k<=4->bt (dI c k) t=false:=by
 intro k;induction k with
 | zero=>intro _;unfold bt;simp [dI]
 | succ k a =>intro x;rw [dI,bC,a aa,my _ (Ju c k),Ex c k _ aa,P2,Bool.or_false]
theorem Jw (b:U c) (h:ee 16 c=c):eK c 4=false:=by
 have a:dI c 4=c:=h;have e:aG c (8*4) 8=0:=by
  refine aS _ _ (rJ _ _ _ aa) (by constructor<;>decide) λi d=>?_;rw [kA c b _ _ _ aa];have:bt c (i+8*4)=false:=by rw [<- a];exact Jv c _ aa 4 aa
  rw [this,P2];unfold bt;simp
 unfold eK;rw [e];decide +kernel
theorem xg (h:U (g.getD 16 0)) (k:Nat) (hk:k<4):gC (g.getD 16 0) k=A0 .and .u64 (jV g k/8) 3:=by rw [Da g h];have a:=gR (aG (g.getD 16 0) (8*k) 8/8) 2 (by have:=(jI (g.getD 16 0) (8*k) 8).1;omega) (by have b:=rJ (g.getD 16 0) (8*k) 8 aa;have c:=b.1;have d:=b.2;omega) aa;rw [show ((2:Int)^2-1)=3 from ba,show ((2:Int)^2)=4 from ba] at a;rw [a];unfold gC aG;rw [Int.pow_add,show ((2:Int)^3)=8 from ba,show ((2:Int)^2)=4 from ba,show ((2:Int)^8)=256 from ba,<- Int.ediv_ediv_of_nonneg (Int.le_of_lt (Int.pow_pos aa))];generalize g.getD 16 0/2^(8*k)=z;omega
theorem Dc (h:U (g.getD 16 0)) (b:ee 16 (g.getD 16 0)=g.getD 16 0) (e:Nat) (he:e<4): (eK (g.getD 16 0) e||(eK (g.getD 16 0) (e+1)&&(gC (g.getD 16 0) (e+1)==1)))=lH g e:=by
 unfold lH;by_cases a:e<3;·rw [th g h,th g h,xg g h _ aa,show decide (e<3)=true from eo,R4]
 ·have:e=3:=by omega
  subst this;rw [Jw _ h b,th g h];simp
theorem oz (h:U (g.getD 16 0)) (a:ee 16 (g.getD 16 0)=g.getD 16 0) (k e:Nat) (he:e<4) (hk:(eO k).2=.addr e) (b:U (g.getD k 0)) (x:Int) (hx:U x): j4 g k 18446744073709551615 x=if lH g e=true then g.getD k 0 else A0 .and .u64 x 18014398509481983:=by
 unfold j4 kF;rw [hk];show A0 .or .u64 (A0 .andNot .u64 (g.getD k 0) (A0 .andNot .u64 18446744073709551615 (if (eK (g.getD 16 0) e||(eK (g.getD 16 0) (e+1)&&(gC (g.getD 16 0) (e+1)==1)))=true then 18446744073709551615 else 0)))
  (A0 .and .u64 (A0 .and .u64 x 18014398509481983) (A0 .andNot .u64 18446744073709551615 (if (eK (g.getD 16 0) e||(eK (g.getD 16 0) (e+1)&&(gC (g.getD 16 0) (e+1)==1)))=true then 18446744073709551615 else 0)))=_
 rw [Dc g h a e he];cases lH g e with
 | true=>rw [JZ8 rfl,JZ8 rfl,rV];exact Ev _ _ b
 | false=>rw [JZ9 ba,JZ9 ba,xe];exact yM _ _ (af _ _ _)
theorem Gu (a:U (g.getD 15 0)) (x:Int) (hx:U x):j4 g 15 18446744073709551615 x=if fZ x=true then x else g.getD 15 0:=by
 unfold j4 kF;show A0 .or .u64 (A0 .andNot .u64 (g.getD 15 0) (A0 .andNot .u64 18446744073709551615 (if fZ x=true then 0 else 18446744073709551615)))
  (A0 .and .u64 (if fZ x=true then x else 0) (A0 .andNot .u64 18446744073709551615 (if fZ x=true then 0 else 18446744073709551615)))=_
 cases fZ x with
 | true=>rw [JZ8 rfl,JZ8 rfl,JZ8 rfl,xe];exact yM _ _ hx
 | false=>rw [JZ9 ba,JZ9 ba,JZ9 ba,rV];exact Ev _ _ a
theorem Gv:∀ n k,mn g n k->∀ j,k<=j->j<k+n->fS j (g.getD j 0):=by
 intro n;induction n with
 | zero=>intro k _ j a b;omega
 | succ n d =>
   intro k h j a b;rw [mn,N1] at h;by_cases c:j=k;·subst c;exact h.1
   ·exact d (k+1) h.2 j aa aa
theorem dx (h:bp l w) (j:Nat) (a:j<22):fS j (w.getD j 0):=by simp only [bp,N1,JZ6] at h;exact Gv w 22 0 h.2 j aa aa
theorem ij (a:bU Q (g.getD 2 0) 22 0=⟨s,Q,18446744073709551615,18446744073709551615,true⟩) (b:eB g Q e=sG g s e) (h:g.set s (j4 g s 18446744073709551615 e)=sG g s e):mJ g Q e=eB g Q e:=by unfold mJ;rw [a,b];show g.set ((s:Int)).toNat (j4 g ((s:Int)).toNat 18446744073709551615 e)=_;rw [T3];exact h
theorem cN (hx:U e) (k:Nat) (hk:k<22) (b:k≠9) (a:k≠15) (d:(eO k).2.holds=false) (c:bU Q (g.getD 2 0) 22 0=⟨k,Q,18446744073709551615,18446744073709551615,true⟩) (f:eB g Q e=sG g k e) (x:sG g k e=g.set k (ee k e)):
 mJ g Q e=eB g Q e :=
 ij g Q e k c f (by rw [Gt g k d e hx,xc e hx k hk b a,x])
theorem Jy (hz:g.length=22) (hl:∀ j,U (g.getD j 0)) (b:bp 22 g) (n x:Int) (hx:U x) (h:fU n):mJ g n x=eB g n x:=by
 have e:A0 .and .u64 (g.getD 9 0) 2730=g.getD 9 0:=by have:=dx b 9 aa;exact eq_of_beq this
 have d:A0 .and .u64 (g.getD 3 0) 2730=g.getD 3 0:=by have:=dx b 3 aa;exact eq_of_beq this
 have a:ee 16 (g.getD 16 0)=g.getD 16 0:=by have:=dx b 16 aa;exact eq_of_beq this
 rcases jA n h with rfl|rfl|c;·unfold mJ;rw [kG 3860 _ ba 22 0 aa];rfl
 ·unfold mJ;rw [kG 769 _ ba 22 0 aa];rfl
 ·rcases iZ n c with rfl|rfl|rfl|rfl|rfl|rfl|rfl|rfl|rfl|rfl|rfl|rfl|rfl|rfl|rfl|rfl|rfl|rfl|rfl|rfl|rfl|rfl|rfl|rfl|rfl;·exact cN g 768 x hx 0 aa aa aa rfl rfl rfl rfl
  ·exact cN g 770 x hx 1 aa aa aa rfl rfl rfl rfl
  ·exact cN g 771 x hx 2 aa aa aa rfl rfl rfl rfl
  ·exact cN g 772 x hx 3 aa aa aa rfl rfl rfl rfl
  ·exact cN g 773 x hx 4 aa aa aa rfl rfl rfl rfl
  ·exact cN g 832 x hx 5 aa aa aa rfl rfl rfl rfl
  ·exact cN g 833 x hx 6 aa aa aa rfl rfl rfl rfl
  ·exact cN g 834 x hx 7 aa aa aa rfl rfl rfl rfl
  ·exact cN g 835 x hx 8 aa aa aa rfl rfl rfl rfl
  ·refine ij g 836 x 9 rfl rfl ?_;show g.set 9 (A0 .or .u64 (A0 .andNot .u64 (g.getD 9 0) (A0 .andNot .u64 18446744073709551615 2184)) (A0 .and .u64 (A0 .and .u64 x 2730) (A0 .andNot .u64 18446744073709551615 2184)))=g.set 9 (gD (g.getD 9 0) 546 x);rw [Jo _ x e]
  ·exact cN g 261 x hx 10 aa aa aa rfl rfl rfl rfl
  ·exact cN g 320 x hx 11 aa aa aa rfl rfl rfl rfl
  ·exact cN g 321 x hx 12 aa aa aa rfl rfl rfl rfl
  ·exact cN g 322 x hx 13 aa aa aa rfl rfl rfl rfl
  ·exact cN g 323 x hx 14 aa aa aa rfl rfl rfl rfl
  ·refine ij g 384 x 15 rfl rfl ?_;rw [Gu g (hl 15) x hx];show _=(if ((x/1152921504606846976==0)||(x/1152921504606846976==8))=true then g.set 15 x else g);rw [<- Eu x hx];cases fZ x with
   | true=>rfl
   | false=>rw [JZ9 ba,JZ9 ba,lX g 15 aa]
  ·refine ij g 928 x 16 rfl rfl ?_;show g.set 16 (A0 .or .u64 (A0 .andNot .u64 (g.getD 16 0) (A0 .andNot .u64 18446744073709551615 (fz (g.getD 16 0) 4))) (A0 .and .u64 (pj x 4) (A0 .andNot .u64 18446744073709551615 (fz (g.getD 16 0) 4))))=g.set 16 (gh g (dI x 4) 4);rw [Jk x hx,Jt g (hl 16) (dI x 4) (by rw [dI];exact af _ _ _)]
  ·refine ij g 944 x 17 rfl rfl ?_;rw [oz g (hl 16) a 17 0 aa rfl (hl 17) x hx];show _=(if lH g 0=true then g else g.set 17 (A0 .and .u64 x 18014398509481983));cases lH g 0 with
   | true=>rw [JZ8 rfl,JZ8 rfl,lX g 17 aa]
   | false=>rfl
  ·refine ij g 945 x 18 rfl rfl ?_;rw [oz g (hl 16) a 18 1 aa rfl (hl 18) x hx];show _=(if lH g 1=true then g else g.set 18 (A0 .and .u64 x 18014398509481983));cases lH g 1 with
   | true=>rw [JZ8 rfl,JZ8 rfl,lX g 18 aa]
   | false=>rfl
  ·refine ij g 946 x 19 rfl rfl ?_;rw [oz g (hl 16) a 19 2 aa rfl (hl 19) x hx];show _=(if lH g 2=true then g else g.set 19 (A0 .and .u64 x 18014398509481983));cases lH g 2 with
   | true=>rw [JZ8 rfl,JZ8 rfl,lX g 19 aa]
   | false=>rfl
  ·refine ij g 947 x 20 rfl rfl ?_;rw [oz g (hl 16) a 20 3 aa rfl (hl 20) x hx];show _=(if lH g 3=true then g else g.set 20 (A0 .and .u64 x 18014398509481983));cases lH g 3 with
   | true=>rw [JZ8 rfl,JZ8 rfl,lX g 20 aa]
   | false=>rfl
  ·exact cN g 2818 x hx 21 aa aa aa rfl rfl rfl rfl
  ·show g.set 0 (A0 .or .u64 (A0 .andNot .u64 (g.getD 0 0) 786722) (A0 .and .u64 (fT .mst x) 786722))=g.set 0 (gD (g.getD 0 0) 786722 x);rw [Jq]
  ·show g.set 3 (A0 .or .u64 (A0 .andNot .u64 (g.getD 3 0) (g.getD 2 0)) (A0 .and .u64 (A0 .and .u64 x 2730) (g.getD 2 0)))=g.set 3 (ee 3 (gD (g.getD 3 0) (g.getD 2 0) x));rw [Jr _ _ _ d]
  ·show g.set 9 (A0 .or .u64 (A0 .andNot .u64 (g.getD 9 0) (A0 .andNot .u64 (A0 .and .u64 (g.getD 2 0) 2) 2184)) (A0 .and .u64 (A0 .and .u64 x 2730) (A0 .andNot .u64 (A0 .and .u64 (g.getD 2 0) 2) 2184)))=g.set 9 (gD (g.getD 9 0) (A0 .and .u64 (g.getD 2 0) 2) x);rw [Js]
theorem xh (m:Nat) (l:List Int) (hl:∀ j,U (l.getD j 0)) (n p:Int):ox m l n p=Cg m l n p:=by
 have b:=uH m l hl n p;unfold lB at b;unfold ox Cg;cases a:fU n with
 | false =>have c:lG m l n p=false:=(by unfold lG;rw [a];cases bp m l<;>rfl);rw [c,AD,a];simp
 | true =>rw [<- b,MC n a,AD,a];cases C9 m l n p<;>cases ((T2 (n.tdiv 1024)).tmod 4==3)<;>rfl
theorem Gx (m:Nat) (l:List Int) (hz:l.length=m) (hl:∀ j,U (l.getD j 0)) (n p x:Int) (hx:U x):mK m l n p x=Ch m l n p x:=by
 unfold mK Ch;rw [xh m l hl n p];cases c:Cg m l n p with
 | false=>rfl
 | true =>rw [JZ8 rfl,JZ8 rfl];have a:lG m l n p:=(by unfold Cg at c;rw [N1] at c;exact c.1);obtain ⟨rfl,d⟩:=Ci a;have b:bp 22 l:=(by simp only [lG,N1] at a;exact a.1.1.1);exact Jy l hz hl b n x hx d
