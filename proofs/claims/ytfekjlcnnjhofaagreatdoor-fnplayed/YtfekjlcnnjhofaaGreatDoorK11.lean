/- Own lemmas. -/
import Derived.Test.YtfekjlcnnjhofaaGreatDoorAut
import Derived.Test.YtfekjlcnnjhofaaGreatDoorK10
set_option maxRecDepth 100000
set_option maxHeartbeats 6400000
namespace Go.Proofs.YtfekjlcnnjhofaaGreatDoor
open Go.RowKit Tryz
open IntKind renaming u64->Uz
open Below renaming refl->T6,alloc->V4
open Bool renaming and_eq_true->H8,and_true->I1,and_false->I2,false_and->I3,true_and->I4,or_eq_false_iff->I5,not_false->K0,or_false->K1
open Go renaming bits->A5,World->A6,heap_alloc_new->A8,TypeId->A9,frozen_of_row->C5,bodyPost_ret->C6,run_typeAssert_lacksB->D1,setRow_heap->D2,cell_of_row->D3,Value->D4,run_typeAssert_hasB->D8,wpList_store_rowTo->F0,Addr->F3,Calls->G1
open Instr renaming typeAssert->T3
open Int renaming toNat_natCast->R8,pow_pos->S2
open IntKind renaming wrap_u64->P2,signed->R4,bits->R5,min->R6,max->R7
open LawfulBEq renaming eq_of_beq->T5
open List renaming replicate->V8,getD->X0
open Lit renaming int->T4
open Nat renaming le_refl->L6,zero_add->N1,lt_of_lt_of_le->O1
open Value renaming int->L0
open World renaming setCell->X3,ownsRow->X5
open _root_.Array renaming replicate->S5
set_option linter.unusedVariables false
variable {l:List Int} {x:Nat} {n:A6} {m:A9} (w:List Int) (k:Option F3) (e p:Nat) (y:List Int) (a c s t b:Int) (f:A6) (g:Nat)
structure Vw where
 at_:Int
 num:Int
 rd:Int
 wr:Int
 ok:Bool
def Vw.cells (v:Vw):Array Value:=#[.i v.num,.u v.rd,.u v.wr]
def cZ (n m:Int):Nat->Nat->Vw
 | 0,_=>⟨-1,0,0,0,false⟩
 | f+1,k=>if ((gh k).1==n)=true then ⟨k,n,18446744073709551615,18446744073709551615,true⟩
   else if ((gh k).2.sees&&(nX (gh k).2==n))=true then ⟨k,nX (gh k).2,vL m (gh k).2,vM m (gh k).2,true⟩ else cZ n m f (k+1)
theorem JL (hk:g<22) (r:Int × CK) (hr:r=gh g) (h:(r.1==a)):cZ a c (22-g) g=⟨g,a,18446744073709551615,18446744073709551615,true⟩:=by subst hr;rw [show 22-g=(22-(g+1))+1 from ab,cZ,JZ8 h]
theorem E9 (hk:g<22) (r:Int × CK) (hr:r=gh g) (h:(r.1==a)=false) (n:r.2.sees) (b:(nX r.2==a)):cZ a c (22-g) g=⟨g,nX r.2,vL c r.2,vM c r.2,true⟩:=by subst hr;rw [show 22-g=(22-(g+1))+1 from ab,cZ,JZ9 (by rw [h];decide),n,b];rfl
theorem vP (hk:g<22) (r:Int × CK) (hr:r=gh g) (h:(r.1==a)=false) (n:(r.2.sees&&(nX r.2==a))=false):cZ a c (22-g) g=cZ a c (22-(g+1)) (g+1):=by subst hr;rw [show 22-g=(22-(g+1))+1 from ab,cZ,JZ9 (by rw [h];decide),n,JZ9 bc]
theorem Fa (k:CK) (hk:k.sees) (w:A6):(method 426 k.ty k.val "loop.example/g00134/impl.view").run prog w=.ok (k.viewF,k.val) w:=by cases k<;>first | (cases hk;done) | kernel_rfl
theorem Cp (k:CK) (hk:k.sees):(prog.funcs[k.viewF]?).map (λa=>(a.name == "runtime.NumGoroutine",a.body.isSome))=some (false,true):=by cases k<;>first | (cases hk;done) | kernel_rfl
theorem Mh (k:CK) (hk:k.sees) (a:A9) (w:A6):(T3 (.iface k.ty k.val) a 292 true).run prog w=.ok (.tuple #[.iface k.ty k.val,.bool true]) w:=by cases k<;>first | (cases hk;done) | exact D8 underlying292 ba _ a w
theorem Fb (k:CK) (hk:k.sees=false) (a:A9) (w:A6):(T3 (.iface k.ty k.val) a 292 true).run prog w=.ok (.tuple #[.nilIface,.bool false]) w:=by cases k<;>first | (cases hk;done) | exact D1 underlying292 ba ba _ a w
theorem oP {P:Program} {fn:Func} {s p u:Tmp} {ty:A9} (h:fn.results=#[.tmp s,.cell p ty,.tmp u]) (tmps:Array D4) (w:A6) (g:Nat) (t:A9) (cs:Array D4) (e:Nat × Nat) (d:TypeDesc) (k:tmps.getD p undef=.p g 0) (i:w.heap[g]?=some (.cells cs t e)) (l:P.underlying ty=some d) (hd:(match d with | .struct _ | .array _ _=>true | _=>false)=true) (j:(P.info? ty).map (·.size)=some cs.size):(results fn tmps).run P w=.ok (.tuple #[tmps.getD s undef,.agg cs,tmps.getD u undef]) w:=by
 have f:(results fn tmps).run P w=((asAddr (tmps.getD p undef)).run P w).andThen λa b=>((loadVar ty a).run P b).andThen λv c=>.ok (.tuple #[tmps.getD s undef,v,tmps.getD u undef]) c:=by simp only [results,h];simp [Sem.run_bind,Result.andThen]
 rw [f,k];simp [asAddr,run_loadVar_row w g t ty cs e d i l hd j]
theorem nI {cs:Array D4} {a:Nat × Nat} (h:n.heap[x]?=some (.cells cs m a)) (i:Nat) (v:D4): (n.setCell ⟨x,i,none⟩ v).heap[x]?=some (.cells (cs.setIfInBounds i v) m a):=by simp [X3,Array.getElem?_modify,h]
theorem qX:(prog.info? 280).map (·.size)=some 3:=by kernel_rfl
theorem Mi:(#[L0 .i64 a,.u c,.u s]:Array D4).all (·.oneCell'):=by simp [Value.oneCell']
theorem vQ (w:A6): CB 219 #[.i a,.u c] w (.tuple #[.i (cZ a c 22 0).at_,.agg (cZ a c 22 0).cells,.bool (cZ a c 22 0).ok]):=by
 obtain ⟨V,U⟩:∃ V,V=cZ a c 22 0:=⟨_,rfl⟩;rw [<- U];obtain ⟨p,l⟩:∃ p,p=w.alloc (.cells #[.i 0,.u 0,.u 0] 280):=⟨_,rfl⟩;have HW0:Hid (p=w.alloc (.cells #[.i 0,.u 0,.u 0] 280)):=l;have W:Hid (cZ a c (22-0) 0=V):=U.symm;have J:p.heap[w.heap.size]?=some (.cells #[.i 0,.u 0,.u 0] 280 (0,0)):=by rw [l];exact A8 _ _
 have B:Hid (p.heap[w.heap.size]?=some (.cells #[.i 0,.u 0,.u 0] 280 (0,0))):=J;have m:w.heap.size<p.heap.size:=by rw [l];simp
 have t:Hid (Bw w p):=by show Below _ _ _;rw [l];exact bal _ _
 clear U J;go_enter func219,ntmps219;go_wp2_with fail;rw [<- l];clear l;refine (pB _).mono ?_;rintro e w1 ⟨T,rfl,Q,hb⟩;go_wp2_with fail;go_loopw [13] (λi wr=>∃ k:Nat,k<=22/\i=.i k/\Hid (cZ a c (22-k) k=V)/\Bw p wr)
  (λi _=>22-(intOf i).toNat)
 case atStart=>exact ⟨0,ab,rfl,W,hb⟩
 case round =>
  obtain ⟨k,hk,rfl,I,b⟩:=hrel;by_cases j:k<22
  ·obtain ⟨r,hr⟩:∃ r,r=gh k:=⟨_,rfl⟩;have HR:Hid (r=gh k):=hr;clear hr;have dk:decide ((k:Int)<22):=bv;have g:wr.heap[w.heap.size]?=some (.cells #[.i 0,.u 0,.u 0] 280 (0,0)):=(by rw [b.block _ m];exact B.out);cases N:(r.1==a) with
   | true =>have F:Hid (V=⟨k,a,18446744073709551615,18446744073709551615,true⟩):=I.out.symm.trans (JL a c k j r HR.out N);have y:∀ o,(wr.alloc o).heap[w.heap.size]?=some (.cells #[.i 0,.u 0,.u 0] 280 (0,0)):=(by intro o;rw [((T6 wr.heap.size wr).alloc (L6 _) o).block _ (O1 m b.size)];exact g);have q:Hid (∀ o,(wr.alloc o).heap[w.heap.size]?=some (.cells #[.i 0,.u 0,.u 0] 280 (0,0))):=y;clear g y;go_wp2_with (first | refine g7 Q .i64 k j r HR rfl (.tmp 12) (.tmp 13) rfl rfl rfl ?_ | (refine F0 rfl 280 (.tmp 5) (.tmp 23) rfl rfl w.heap.size #[.i a,.u 18446744073709551615,.u 18446744073709551615] rfl rfl 280 _ (q.out _) qX rfl (Mi _ _ _) ?_));refine C6 (oP results219 _ _ w.heap.size _ _ _ _ rfl (D2 _ _ _ _ _ _ (q.out _)) underlying280 rfl qX) rfl ⟨bh,?_⟩;exact aK (V4 (aa t.out b) (aa t.out b).size _) (L6 _) _
   | false =>
     cases u:r.2.sees with
     | false =>
       have F:Hid (cZ a c (22-(k+1)) (k+1)=V):=(vP a c k j r HR.out N (by rw [u];rfl)).symm.trans I.out;have hla:=Fb r.2 u;clear g;go_wp2_with (first | refine g7 Q .i64 k j r HR rfl (.tmp 12) (.tmp 13) rfl rfl rfl ?_);go_roundw;case rel=>exact ⟨k+1,ab,by go_num,F,b.alloc b.size _⟩
       case measure=>simp [intOf];omega
     | true =>
       have X:=Mh r.2 u;have mf:=Fa r.2 u;have en:=qW (Cp r.2 u);clear g;go_wp2_with (first | refine g7 Q .i64 k j r HR rfl (.tmp 12) (.tmp 13) rfl rfl rfl ?_);refine (Mg r.2 u c _).mono ?_;rintro e d ⟨rfl,H⟩;have M:Bw p d:=aa (b.alloc b.size _) H;have A:Hid (Bw p d):=M;have C:d.heap[w.heap.size]?=some (.cells #[.i 0,.u 0,.u 0] 280 (0,0)):=(by rw [M.block _ m];exact B.out);have z:w.heap.size<d.heap.size:=O1 m M.size;have f:Hid (d.heap[w.heap.size]?=some (.cells #[.i 0,.u 0,.u 0] 280 (0,0))):=C;have K:∀ o,(d.alloc o).heap[w.heap.size]?=some (.cells #[.i 0,.u 0,.u 0] 280 (0,0)):=(by intro o;rw [((T6 d.heap.size d).alloc (L6 _) o).block _ z];exact C);have HG3:Hid (∀ o,(d.alloc o).heap[w.heap.size]?=some (.cells #[.i 0,.u 0,.u 0] 280 (0,0))):=K;have vn:Hid (r.1==a)=Hid (r.1==a):=rfl;obtain ⟨G,s⟩:∃ v,nX r.2=v:=⟨_,rfl⟩;obtain ⟨O,D⟩:∃ v,vL c r.2=v:=⟨_,rfl⟩;obtain ⟨P,E⟩:∃ v,vM c r.2=v:=⟨_,rfl⟩;have R:Hid ((G==a)=false->Hid (cZ a c (22-(k+1)) (k+1)=V)):=λh=>(vP a c k j r HR.out N (by rw [u,s,h];rfl)).symm.trans I.out;have S:Hid ((G==a)->Hid (V=⟨k,G,O,P,true⟩)):=λh=>I.out.symm.trans (by rw [E9 a c k j r HR.out N u (by rw [s];exact h),s,D,E]);rw [s,D,E];clear vn s D E C K M H mf en X;cases d3:(G==a) with
       | false =>
         have F:=R.out d3;clear R S;go_wp2_with fail;go_roundw;case rel=>exact ⟨k+1,ab,by go_num,F,A.out.alloc A.out.size _⟩
         case measure=>simp [intOf];omega
       | true =>
         have F:=S.out d3;clear R S;have c0:d.cell? ⟨w.heap.size,0,none⟩=some (.i 0):=D3 _ _ _ _ _ _ f.out;have c1:d.cell? ⟨w.heap.size,1,none⟩=some (.u 0):=D3 _ _ _ _ _ _ f.out;have c2:d.cell? ⟨w.heap.size,2,none⟩=some (.u 0):=D3 _ _ _ _ _ _ f.out;have f0:d.frozen? ⟨w.heap.size,0,none⟩=false:=C5 _ _ _ _ _ f.out;have f1:d.frozen? ⟨w.heap.size,1,none⟩=false:=C5 _ _ _ _ _ f.out;have f2:d.frozen? ⟨w.heap.size,2,none⟩=false:=C5 _ _ _ _ _ f.out;go_wp2_with fail;go_region;all_goals go_wp2_with fail
         have L:((((d.setCell ⟨w.heap.size,0,none⟩ (.i G)).setCell ⟨w.heap.size,1,none⟩ (.u O)).setCell ⟨w.heap.size,2,none⟩ (.u P)).alloc (.cells #[.i G,.u O,.u P] 280)).drew.heap[w.heap.size]?=some (.cells #[.i G,.u O,.u P] 280 (0,0)):=(by show (World.alloc _ _).heap[w.heap.size]?=_;rw [(bal _ _).block _ (by simpa [X3] using z)];exact nI (nI (nI f.out 0 _) 1 _) 2 _);refine C6 (oP results219 _ _ w.heap.size _ _ _ _ rfl L underlying280 rfl qX) rfl ⟨bh,?_⟩;have Z:=aa t.out A.out;refine Below.drew (V4 (((Z.setCell (L6 _) _).setCell (L6 _) _).setCell (L6 _) _) ?_ _);simpa [X3] using Z.size
  ·have Y:k=22:=ab;subst Y;have F:Hid (V=⟨-1,0,0,0,false⟩):=I.out.symm;have g:wr.heap[w.heap.size]?=some (.cells #[.i 0,.u 0,.u 0] 280 (0,0)):=(by rw [b.block _ m];exact B.out);have q:Hid (wr.heap[w.heap.size]?=some (.cells #[.i 0,.u 0,.u 0] 280 (0,0))):=g;clear g;go_wp2_with (first | (refine F0 rfl 280 (.tmp 5) (.tmp 41) rfl rfl w.heap.size #[.i 0,.u 0,.u 0] rfl rfl 280 _ q.out qX rfl (Mi _ _ _) ?_));refine C6 (oP results219 _ _ w.heap.size _ _ _ _ rfl (D2 _ _ _ _ _ _ q.out) underlying280 rfl qX) rfl ⟨bh,?_⟩;exact aK (aa t.out b) (L6 _) _
def CK.goodB:CK->Bool
 | .addr e=>decide (e<4) | _=>true
theorem PC:∀ k,k<22->(gh k).2.goodB:=by decide
theorem JM (k:CK) (hk:k.holds) (f:k.goodB) (a:Option F3) (cap:Nat) (l:List Int) (x:Int) (w:A6) (hz:l.length=22) (hs:Sl .u64 w a l) (hl:∀ j,0<=l.getD j 0/\l.getD j 0<18446744073709551616) (c:0<=x) (d:x<18446744073709551616):CB k.staysF #[k.val,.slice a 22 cap,.u x] w (.u (jH (l.getD 16 0) k x)):=by
 cases k with
 | plain b=>cases hk
 | mst=>cases hk
 | mie=>cases hk
 | mip=>exact JI a cap x w
 | satp=>exact E7 a cap _ x c d w
 | cfg=>exact JJ a cap l x w hz hs hl
 | addr e=>exact E8 e (by simpa [CK.goodB] using f) a cap l x w hz hs hl
theorem Cq (k:CK) (hk:k.holds) (w:A6):(method 426 k.ty k.val "loop.example/g00134/impl.stays").run prog w=.ok (k.staysF,k.val) w:=by cases k<;>first | (cases hk;done) | kernel_rfl
theorem Ae (k:CK) (hk:k.holds):(prog.funcs[k.staysF]?).map (λa=>(a.name == "runtime.NumGoroutine",a.body.isSome))=some (false,true):=by cases k<;>first | (cases hk;done) | kernel_rfl
theorem JN (k:CK) (hk:k.holds) (a:A9) (w:A6):(T3 (.iface k.ty k.val) a 296 true).run prog w=.ok (.tuple #[.iface k.ty k.val,.bool true]) w:=by cases k<;>first | (cases hk;done) | exact D8 underlying296 ba _ a w
theorem Cr (k:CK) (hk:k.holds=false) (a:A9) (w:A6):(T3 (.iface k.ty k.val) a 296 true).run prog w=.ok (.tuple #[.nilIface,.bool false]) w:=by cases k<;>first | (cases hk;done) | exact D1 underlying296 ba ba _ a w
def lT (c:Int) (k:CK) (wr x:Int):Int:=if k.holds=true then A5 .andNot .u64 wr (jH c k x) else wr
def kZ (l:List Int) (k:Nat) (wr x:Int):Int :=
 A5 .or .u64 (A5 .andNot .u64 (l.getD k 0) (lT (l.getD 16 0) (gh k).2 wr x)) (A5 .and .u64 (iq (gh k).2 x) (lT (l.getD 16 0) (gh k).2 wr x))
theorem vS (k:CK) (x:Int) (c:0<=x) (d:x<18446744073709551616) (w:A6) (p:F3) (u:D4) (b:w.cell? p=some u) :
 G1 prog k.fitF #[k.val,.u x] w λe a=>e=.returned (.u (iq k x))/\Bw w a/\a.cell? p=some u :=
 (Ha k x c d w).mono λe a h=>⟨h.1,h.2,(h.2.cell (World.block_lt_of_cell? _ _ b)).trans b⟩
theorem Fc (t:A9) (v:D4) (w:A6):(Instr.field 117 (.agg #[.i a,.iface t v]) 1).run prog w=.ok (.iface t v) w:=by kernel_rfl
theorem Fe (l:List Int) (a:Nat) (hk:a<22) (wr x:Int) (w:A6) (hz:l.length=22) (hs:Sl .u64 w k l) (hl:∀ j,0<=l.getD j 0/\l.getD j 0<18446744073709551616) (D:0<=x) (E:x<18446744073709551616): CB 222 #[.slice k 22 e,.i a,.u wr,.u x] w (.u (kZ l a wr x)):=by
 have g:kZ l a wr x=A5 .or .u64 (A5 .andNot .u64 (l.getD a 0) (lT (l.getD 16 0) (gh a).2 wr x)) (A5 .and .u64 (iq (gh a).2 x) (lT (l.getD 16 0) (gh a).2 wr x)):=rfl;have z:=PC a hk;have I:=hs a ab;have m:Hid (∀ (K:CK),K.holds->K.goodB->∀ w,Sl .u64 w k l->CB K.staysF #[K.val,.slice k 22 e,.u x] w (.u (jH (l.getD 16 0) K x))):=λK S U w hs=>JM K S U k e l x w hz hs hl D E;have Q:Hid (Sl .u64 w k l):=hs;obtain ⟨r,L⟩:∃ r,r=gh a:=⟨_,rfl⟩;have HR:Hid (r=gh a):=L;rw [<- L] at g z;obtain ⟨b,c,rfl,u,O⟩:=I;generalize l.getD a 0=y at *;have X:(0:Int)<=(a:Int):=ab
 have Y:(a:Int)<22:=ab
 have mf:=yH r.2;have en:=qW (vO r.2);have V:=Fc r.1 r.2.ty r.2.val;clear L hz hl hs;cases d:r.2.holds with
 | false =>have q:lT (l.getD 16 0) r.2 wr x=wr:=(by simp [lT,d]);rw [q] at g;have F:Hid (kZ l a wr x=A5 .or .u64 (A5 .andNot .u64 y wr) (A5 .and .u64 (iq r.2 x) wr)):=g;clear g q m;have Z:=Cr r.2 d;go_enter func222,ntmps222;go_wp2_with fail;refine (pB _).mono ?_;rintro cap w1 ⟨T,rfl,C,t⟩;have H:w1.cell? ⟨b,c+a,none⟩=some (.u y):=(t.cell (by exact u)).trans O;go_wp2_with (first | refine g7 C .i64 a hk r HR rfl (.tmp 12) (.tmp 13) rfl rfl rfl ?_);go_region_held3 (λf=>f.cell? ⟨b,c+a,none⟩=some (.u y)) (go_keep) (first | (refine (vS r.2 x D E _ ⟨b,c+a,none⟩ (.u y) ?_).mono ?_;(first | assumption | (simp [*]));rintro cap w2 ⟨rfl,o,J⟩));go_wp2_with fail;go_ret;exact ⟨bh,aa (w1:=w1.drew) t.drew o⟩
 | true =>obtain ⟨A,p⟩:∃ A,jH (l.getD 16 0) r.2 x=A:=⟨_,rfl⟩;have q:lT (l.getD 16 0) r.2 wr x=A5 .andNot .u64 wr A:=(by unfold lT;rw [JZ8 d,p]);rw [q] at g;obtain ⟨B,M⟩:∃ B,A5 .andNot .u64 wr A=B:=⟨_,rfl⟩;rw [M] at g;have F:Hid (kZ l a wr x=A5 .or .u64 (A5 .andNot .u64 y B) (A5 .and .u64 (iq r.2 x) B)):=g;have s:Hid (∀ w,Sl .u64 w (some ⟨b,c,none⟩) l->CB r.2.staysF #[r.2.val,.slice (some ⟨b,c,none⟩) 22 e,.u x] w (.u A)):=(by rw [<- p];exact m.out r.2 d z);clear g q m p;have W:=JN r.2 d;have mf2:=Cq r.2 d;have R:=qW (Ae r.2 d);go_enter func222,ntmps222;go_wp2_with fail;refine (pB _).mono ?_;rintro cap w1 ⟨T,rfl,C,t⟩;go_wp2_with (first | refine g7 C .i64 a hk r HR rfl (.tmp 12) (.tmp 13) rfl rfl rfl ?_);refine (s.out _ (Q.out.below t)).mono ?_;rintro cap P ⟨rfl,G⟩;have N:=aa t G;have H:P.cell? ⟨b,c+a,none⟩=some (.u y):=(N.cell (by exact u)).trans O;go_wp2_with fail;go_region_held3 (λf=>f.cell? ⟨b,c+a,none⟩=some (.u y)) (go_keep) (first | (refine (vS r.2 x D E _ ⟨b,c+a,none⟩ (.u y) ?_).mono ?_;(first | assumption | (simp [*]));rintro cap w2 ⟨rfl,o,J⟩));go_wp2_with fail;go_ret;exact ⟨bh,aa (w1:=P.drew) N.drew o⟩
theorem vT (w:A6):CE 50 #[.i a] w (.bool (bZ a)):=by
 have F:Hid (bZ a=((a==0)||(a==1)||(a==3))):=(rfl:bZ a=_);cases b:(a==0) with
 | true =>rw [b] at F;exact a0i
 | false =>
   cases c:(a==1) with
   | true =>rw [b,c] at F;exact a0i
   | false =>rw [b,c] at F;exact a0i
def nJ (n p:Int):Bool:=bZ p&&decide (A5 .and .i64 (n/256) 3<=p)
theorem qY (w:A6):CE 218 #[.i a,.i c] w (.bool (nJ a c)):=by
 have d:Hid (∀ w,CE 50 #[.i c] w (.bool (bZ c))):=vT c;have F:Hid (nJ a c=(bZ c&&decide (A5 .and .i64 (a/256) 3<=c))):=(rfl:nJ a c=_);generalize bZ c=q at *;cases q with
 | false =>go_enter func218,ntmps218;go_wp2_with fail;refine (d.out _).mono ?_;rintro e f ⟨rfl,b⟩;exact a0c
 | true =>go_enter func218,ntmps218;go_wp2_with fail;refine (d.out _).mono ?_;rintro e f ⟨rfl,b⟩;exact a0c
def tH (n:Int):Bool:=(A5 .and .i64 (n/1024) 3==3)
theorem Af:CE 221 #[.i a] f (.bool (tH a)):=by have F:Hid (tH a=(A5 .and .i64 (a/1024) 3==3)):=(rfl:tH a=_);go_enter func221,ntmps221;exact a09
def vU (n:Int):Bool:=(n==769)||(n==3860)
def xI (n:Int):Int:=if n=769 then 9223372036856090881 else 0
theorem qZ:CE 220 #[.i a] f (.tuple #[.u (xI a),.bool (vU a)]):=by
 by_cases b:a=769;·subst b;go_enter func220,ntmps220;go_wp2_with fail;go_ret2;exact a0e
 ·by_cases c:a=3860;·subst c;go_enter func220,ntmps220;go_wp2_with fail;go_ret2;exact ⟨rfl,rfl⟩
  ·have w:(a==769)=false:=lw;have g:(a==3860)=false:=kc;have F:Hid (xI a=0/\vU a=false):=⟨by simp [xI,b],by simp [vU,b,c]⟩;clear b c;go_enter func220,ntmps220;go_wp2_with fail;go_ret2;exact ⟨by rw [F.out.1,F.out.2];rfl,rfl⟩
theorem rf:f.ownsRow g 24 1 (.slice none 0 0) 0 (([]:List Int).map (L0 .u64)):=⟨rfl,.inl ⟨rfl,rfl⟩⟩
theorem nY:G1 prog 83 #[] f λe o=>e=.returned (.slice (some ⟨f.heap.size,0,none⟩) 22 22) /\ o.ownsRow f.heap.size 24 1 (.slice (some ⟨f.heap.size,0,none⟩) 22 22) 22 ((V8 22 (0:Int)).map (L0 .u64))/\Bw f o:=by
 obtain ⟨m,p,j,l,d⟩:=info_parts Bv;have w:m.bytes*22<=281474976710656:=by rw [d];omega
 have g:22<=maxLen:=by unfold maxLen;omega
 clear d;go_enter func83,ntmps83;go_wp2_with (at_make;refine wpList_make_full _ rfl (.const (.i 22)) (.const (.i 22)) 25 rfl f.heap.size 24 m (.u 0) 1 underlying25 p j l .i64 .i64 _ _ 22 rfl rfl rfl rfl w g (L6 _) ?_;intro q c b);go_ret;refine ⟨rfl,?_,(T6 _ _).grown b (L6 _) wl⟩;have e:(V8 22 (0:Int)).map (L0 .u64)=V8 22 (.u 0):=di
 rw [e,<- toList_madeCells_one];simpa [Value.cells] using c
theorem Ct:∀ f k,k+f<=22->(cZ a c f k).ok->∃ j:Nat,j<22/\(cZ a c f k).at_=(j:Int):=by
 intro f;induction f with
 | zero=>intro k _ h;cases h
 | succ f n =>
   intro k b;unfold cZ;split;·intro _;exact ⟨k,ab,rfl⟩
   ·split;·intro _;exact ⟨k,ab,rfl⟩
    ·exact n (k+1) ab
def Ff (m:Nat) (l:List Int) (n p:Int):Bool:=j5 m l&&nJ n p
def sj (m:Nat) (l:List Int) (n p:Int):Bool:=Ff m l n p&&((cZ n (l.getD 2 0) 22 0).ok||vU n)
def vV (m:Nat) (l:List Int) (n p:Int):Int :=
 if Ff m l n p=true then (if (cZ n (l.getD 2 0) 22 0).ok=true then A5 .and .u64 (l.getD (cZ n (l.getD 2 0) 22 0).at_.toNat 0) (cZ n (l.getD 2 0) 22 0).rd else xI n) else 0
theorem vX (h:j5 x l):x=22:=by simp only [j5,H8,JZ6] at h;exact h.1
theorem uk (l:List Int) (n cap:Int) (w:A6) (hz:l.length=e) (hs:Sl .u64 w k l) (hl:∀ j,0<=l.getD j 0/\l.getD j 0<18446744073709551616): CB 196 #[.slice k e p,.i n,.i cap] w (.tuple #[.u (vV e l n cap),.bool (sj e l n cap)]):=by
 have q:=λW (J:Bw w W)=>lS k e p l W hz (hs.below J) hl;have v:=qY n cap;refine br (S:=Bs w []) (args:=[.slice k e p,.i n,.i cap]) [] func196 ?_;unfold vV sj Ff;generalize nJ n cap=M at *;cases i:j5 e l<;>rw [i] at q;case' true=>cases M
 case true.true =>
  have L:=vX i;subst L;have G:=qZ n;have x:=vQ n (l.getD 2 0);have f:=Ct n (l.getD 2 0) 22 0 ab;obtain ⟨b,c,rfl,d,H⟩:=hs 2 ab;generalize cZ n (l.getD 2 0) 22 0=V at *;generalize l.getD 2 0=u at *;generalize xI n=Q at *;generalize vU n=P at *;obtain ⟨X,C,D,E,N⟩:=V;simp only [Vw.cells] at x f;refine ae Bs.eng {ov:=[(24,iP ⟨b,c+2,none⟩ (.u u) underlying24 rfl λW h=>(h.2.cell (by exact d)).trans H)],cv:=[(12,fM q),(17,nt λW _=>v W),(25,fM λW _=>x W)]} 60 (Bs.start _ _) λW h=>?_;refine dt 1 (ct (T:=280) (z:=.agg #[.i 0,.u 0,.u 0]) ba W) ?_;refine bx (R:=[]) trivial {} 9 (av (g:=W.heap.size) (t:=280) (ty:=280) (cells:=#[.i C,.u D,.u E]) (A8 _ _) ba rfl ba) ?_;refine aL (R1 w W.heap.size #[.i C,.u D,.u E] 280) ?_;cases N;case true =>obtain ⟨a,U,r⟩:=f rfl;subst r;obtain ⟨O,B,m,K,I⟩:=hs a ab;cases m;rw [R8];generalize l.getD a 0=y at *;exact eO (t:=6) (s:=7) R1.eng {ov:=[(37,kW (a:=some ⟨b,c,none⟩) (b:=b) (o:=c) 22 p .i64 (a:Int) rfl ⟨ab,ab⟩ underlying25 ba),(38,iP ⟨b,c+(a:Int).toNat,none⟩ (.u y) underlying24 rfl λW h=>(h.2.cell (by exact d)).trans I)]} 60 (R1.new h.2) (λA h=>⟨rfl,h.2⟩)
  exact eO (t:=6) (s:=7) R1.eng {cv:=[(32,iQ R1.below λW _=>(G W).mono λm F h=>⟨h.1,vo⟩)]} 60 (R1.new h.2) (λA h=>⟨rfl,h.2⟩)
 all_goals exact eO (t:=6) (s:=7) Bs.eng {cv:=[(12,fM q),(17,nt λW _=>v W)]} 60 (Bs.start _ _) (λA h=>⟨rfl,h.2⟩)
def pC (m:Nat) (l:List Int) (n p:Int):Bool:=Ff m l n p&&!tH n&&((cZ n (l.getD 2 0) 22 0).ok||vU n)
def nK (l:List Int) (n x:Int):List Int :=
 if (cZ n (l.getD 2 0) 22 0).ok=true then l.set (cZ n (l.getD 2 0) 22 0).at_.toNat (kZ l (cZ n (l.getD 2 0) 22 0).at_.toNat (cZ n (l.getD 2 0) 22 0).wr x) else l
def nL (m:Nat) (l:List Int) (n p x:Int):List Int:=if pC m l n p=true then nK l n x else []
theorem Hb {g w:Nat} (hb:x<=g) (hz:l.length=w) (hn:w<=maxLen) (h:n.heap[g]?=some (.cells (l.map (L0 .u64)).toArray m (0,0))):n.ownsRow x m 1 (.slice (some ⟨g,0,none⟩) w w) w (l.map (L0 .u64)):=
 ⟨x7,.inr ⟨g,w,_,rfl,hb,h,L6 _,hn,x7,by subst hz;simp [List.take_of_length_le]⟩⟩
theorem sn (x:Int) (w:A6) (hz:y.length=e) (hs:Sl .u64 w k y) (hl:∀ j,0<=y.getD j 0/\y.getD j 0<18446744073709551616) (h0:0<=x) (h1:x<18446744073709551616): G1 prog 197 #[.slice k e p,.i a,.i c,.u x] w λcap w'=>∃ (a':Option F3) (n:Nat),cap=.returned (.tuple #[.slice a' (nL e y a c x).length n,.bool (pC e y a c)]) /\ w'.ownsRow w.heap.size 24 1 (.slice a' (nL e y a c x).length n) (nL e y a c x).length ((nL e y a c x).map (L0 .u64))/\Bw w w':=by
 have J:=λW (H:Bw w W)=>lS k e p y W hz (hs.below H) hl
 have Q:=qY a c
 have U:=Af a
 refine br (S:=Bs w []) (args:=[.slice k e p,.i a,.i c,.u x]) [] func197 ?_
 have F:pC e y a c=(j5 e y&&nJ a c&&!tH a&&((cZ a (y.getD 2 0) 22 0).ok||vU a)):=rfl
 have I:nK y a x=if (cZ a (y.getD 2 0) 22 0).ok=true then y.set (cZ a (y.getD 2 0) 22 0).at_.toNat (kZ y (cZ a (y.getD 2 0) 22 0).at_.toNat (cZ a (y.getD 2 0) 22 0).wr x) else y:=rfl
 unfold nL
 generalize nJ a c=re at *
 generalize tH a=on at *
 generalize pC e y a c=wb at *
 generalize nK y a x=L at *
 cases D:j5 e y<;>rw [D] at J F
 case' true=>cases re;case' true=>cases on
 case true.true.false =>
  have hm:=vX D
  subst hm
  have HF:=qZ a
  have Z:=vQ a (y.getD 2 0)
  have C:=Ct a (y.getD 2 0) 22 0 ab
  obtain ⟨b,r,rfl,N,c2⟩:=hs 2 ab
  generalize cZ a (y.getD 2 0) 22 0=V at *
  generalize y.getD 2 0=O at *
  generalize xI a=fv at *
  generalize vU a=G at *
  obtain ⟨va,A,B,d,E⟩:=V
  simp only [Vw.cells] at Z C F I
  refine ae Bs.eng {ov:=[(33,iP ⟨b,r+2,none⟩ (.u O) underlying24 rfl λW h=>(h.2.cell (by exact N)).trans c2)],cv:=[(17,fM J),(22,nt λW _=>Q W),(27,nt λW _=>U W),(34,fM λW _=>Z W)]} 60 (Bs.start _ _) λW h=>?_
  refine dt 1 (ct (T:=280) (z:=.agg #[.i 0,.u 0,.u 0]) ba W) ?_
  refine bx (R:=[]) trivial {} 9 (av (g:=W.heap.size) (t:=280) (ty:=280) (cells:=#[.i A,.u B,.u d]) (A8 _ _) ba rfl ba) ?_
  refine aL (R1 w W.heap.size #[.i A,.u B,.u d] 280) ?_
  have hF:∀ X,R1 w W.heap.size #[.i A,.u B,.u d] 280 X->_:=λX _=>(HF X).mono λcap w' (h:_/\w'=X)=>(⟨h.1,vo⟩:_/\Bw X w')
  have ho:wb=(E||G):=F
  subst ho
  obtain rfl|⟨rfl,rfl⟩|⟨rfl,rfl⟩:E\/(E=false/\G)\/E=false/\G=false:=by cases E<;>cases G<;>simp
  case inr.inr=>exact eO (t:=8) (s:=9) R1.eng {cv:=[(40,iQ R1.below hF)]} 60 (R1.new h.2) (λK h=>⟨none,0,rfl,rf _ _,h.2⟩)
  all_goals
   refine ae R1.eng {cv:=[(40,iQ R1.below hF)]} 60 (R1.new h.2) λX f=>?_
   refine dt 1 (s:=do pure (.value (<- Instr.makeSlice 25 (.i 22) (.i 22)))) (v:=.slice (some ⟨X.heap.size,0,none⟩) 22 22) (w':=X.alloc (.cells (S5 22 (.u 0)) 24)) ba ?_
   have H:=f.2.alloc f.2.size (.cells (S5 22 (.u 0)) 24)
   refine gz (R:=[]) trivial {} 30 0 (s:=do pure (.value (<- Builtin.copy_ #[25,25] 3 #[.slice (some ⟨X.heap.size,0,none⟩) 22 22,.slice (some ⟨b,r,none⟩) 22 p]))) (v:=goInt (y.map (L0 .u64)).length) (w':=(X.alloc (.cells (S5 22 (.u 0)) 24)).setRow X.heap.size (y.map (L0 .u64)).toArray) ?_ ?_
   ·have hc:=run_copy_row (P:=prog) _ 25 25 3 24 X.heap.size 0 22 22 ⟨b,r,none⟩ 22 p _ _ (y.map (L0 .u64)) underlying25 ba (A8 X (.cells (S5 22 (.u 0)) 24)) x7 (λj v h=>by
     rw [List.getElem?_map] at h
     obtain ⟨l,hy,rfl⟩:=Option.map_eq_some_iff.1 h
     obtain ⟨b',o',cap,_,n⟩:=hs.below H j (List.getElem?_eq_some_iff.1 hy).1
     cases cap
     rw [zt,n,X0,hy];rfl) x7 (λv h=>by obtain ⟨l,_,rfl⟩:=List.mem_map.1 h;rfl)
    simp only [List.take_zero,List.nil_append,N1,List.length_map,hz,Array.toList_replicate,List.drop_replicate,Nat.sub_self,List.replicate_zero,List.append_nil] at hc ⊢
    simp [hc,Result.andThen]
   have h2:R2 w W.heap.size #[.i A,.u B,.u d] 280 X.heap.size (y.map (L0 .u64)).toArray 24 ((X.alloc (.cells (S5 22 (.u 0)) 24)).setRow X.heap.size (y.map (L0 .u64)).toArray):=by
    have hx:=(Array.getElem?_eq_some_iff.1 f.1).1
    exact ⟨⟨(setRow_other _ _ _ _ ab).trans ((Below.heap_alloc X _ _ hx).trans f.1),aI H f.2.size _⟩,D2 _ _ _ _ _ _ (A8 _ _)⟩
   refine aL (R2 w W.heap.size #[.i A,.u B,.u d] 280 X.heap.size (y.map (L0 .u64)).toArray 24) ?_
  case inr.inl =>
   have cap:L=y:=I
   rw [cap]
   exact eO (t:=8) (s:=9) (v:=.slice (some ⟨X.heap.size,0,none⟩) 22 22) (u:=.bool true) R2.eng {} 60 h2 (λK h=>⟨_,22,by show _=Ending.returned (.tuple #[.slice _ y.length 22,.bool true]);rw [hz],by show X5 _ _ _ _ (.slice _ y.length 22) y.length (y.map _);rw [hz];exact Hb f.2.size hz bc h.2,h.1.2⟩)
  obtain ⟨m,hk,rfl⟩:=C rfl
  have HB:=λY (h:R2 w W.heap.size #[.i A,.u B,.u d] 280 X.heap.size (y.map (L0 .u64)).toArray 24 Y)=>Fe _ p y m hk d x Y hz (hs.below h.1.2) hl h0 h1
  have cap:L=y.set m (kZ y m d x):=I
  rw [cap]
  generalize kZ y m d x=l at *
  refine ae R2.eng {ov:=[(62,kW (a:=some ⟨X.heap.size,0,none⟩) (b:=X.heap.size) (o:=0) 22 22 .i64 (m:Int) rfl ⟨ab,ab⟩ underlying25 ba)],cv:=[(61,iQ R2.below HB)]} 60 h2 λY M=>?_
  refine bE (bG (i:=0+(m:Int).toNat) (T:=24) (v:=.u l) M.2 (by simp [hz];omega) ba rfl) ?_
  have hr:=jv (j:=0+(m:Int).toNat) M.2 (.u l)
  have er:((y.map (L0 .u64)).toArray.set! (0+(m:Int).toNat) (.u l))=((y.set m l).map (L0 .u64)).toArray:=by simp [List.map_set]
  rw [er] at hr
  refine aL (R1 w X.heap.size ((y.set m l).map (L0 .u64)).toArray 24) ?_
  have q:(y.set m l).length=22:=by rw [List.length_set,hz]
  exact eO (t:=8) (s:=9) (v:=.slice (some ⟨X.heap.size,0,none⟩) 22 22) (u:=.bool true) R1.eng {} 60 ⟨hr,M.1.2.setCell f.2.size _⟩ (λK h=>⟨_,22,by show _=Ending.returned (.tuple #[.slice _ (y.set m l).length 22,.bool true]);rw [q],by show X5 _ _ _ _ (.slice _ (y.set m l).length 22) (y.set m l).length ((y.set m l).map _);rw [q];exact Hb f.2.size q bc h.1,h.2⟩)
 all_goals
  obtain rfl:wb=false:=F
  exact eO (t:=8) (s:=9) Bs.eng {cv:=[(17,fM J),(22,nt λW _=>Q W),(27,nt λW _=>U W)]} 60 (Bs.start _ _) (λK h=>⟨none,0,rfl,rf _ _,h.2⟩)
theorem UC:∀ i,i<64->∀ (p q:Bool) (o:Bool),(((if i=0 then p else if i=1 then q else o)&&bt 924074 (i+11))&&bt 3 i)=bt ((if p=true then 1 else 0)+(if q=true then 2 else 0)) i:=by decide +kernel
theorem RD:∀ i,i<64->∀ (p q:Bool) (o:Bool),((if i=11 then p else if i=12 then q else o)&&bt 6144 i)=bt ((if p=true then 2048 else 0)+(if q=true then 4096 else 0)) i:=by decide +kernel
theorem Mj (x:Int) (h:U x):iq .mst x=mst x:=by
 have e:A5 .and .u64 (A5 .and .u64 x 924074/2048) 3=(if bt x 11=true then 1 else 0)+(if bt x 12=true then 2 else 0):=by
  refine bF _ _ (ah _ _ _) ps λi c=>?_;have d:=jF (A5 .and .u64 x 924074) (ah _ _ _) 11 i;rw [show ((2:Int)^11)=2048 from bc] at d;rw [aA,d,aA,<- UC i c (bt x 11) (bt x 12) (bt x (i+11))];by_cases a:i=0;·subst a;rfl
  ·by_cases b:i=1;·subst b;rfl
   ·rw [JZ9 a,JZ9 b]
 have e2:A5 .and .u64 x 6144=(if bt x 11=true then 2048 else 0)+(if bt x 12=true then 4096 else 0):=by
  refine bF _ _ (ah _ _ _) ps λi c=>?_;rw [aA,<- RD i c (bt x 11) (bt x 12) (bt x i)];by_cases a:i=11;·subst a;rfl
  ·by_cases b:i=12;·subst b;rfl
   ·rw [JZ9 a,JZ9 b]
 show (if (A5 .and .u64 x 6144==4096)=true then A5 .andNot .u64 (A5 .and .u64 x 924074) 6144 else A5 .and .u64 x 924074)=mst x;unfold mst;rw [e,e2];cases bt x 11<;>cases bt x 12<;>rfl
theorem UD:∀ i,i<64->∀ a:Bool,(a&&bt 18446744073709551613 i)=(a&&!bt 2 i):=by decide +kernel
theorem VI:∀ i,i<64->∀ a:Bool,(a&&bt 18446744073709551612 i)=(a&&!bt 3 i):=by decide +kernel
theorem Ah:∀ i,i<64->bt 18446744073709551615 i:=by decide +kernel
theorem SU:∀ i,i<64->∀ a:Bool,((decide (i<8)&&a)&&bt 159 i)=(a&&bt 159 i):=by decide +kernel
theorem UF:A5 .and .u64 a 18446744073709551613=A5 .andNot .u64 a 2 :=
 bF _ _ (ah _ _ _) (ah _ _ _) λi x=>by rw [aA,aB _ _ _ x];exact UD i x _
theorem SV:A5 .and .u64 a 18446744073709551612=A5 .andNot .u64 a 3 :=
 bF _ _ (ah _ _ _) (ah _ _ _) λi x=>by rw [aA,aB _ _ _ x];exact VI i x _
theorem pE (h:U a):A5 .and .u64 a 18446744073709551615=a :=
 bF _ _ (ah _ _ _) h λi x=>by rw [aA,Ah i x,I1]
theorem PD (h:U a) (k:Nat):Cn a k=jB a k:=by
 have e:A5 .and .u64 (de a (8*k) 8) 159=A5 .and .u64 (a/2^(8*k)) 159 :=
  bF _ _ (ah _ _ _) (ah _ _ _) λi x=>by
   rw [aA,aA,lI a h _ _ _ ab,jF a h];exact SU i x _
 unfold Cn jB;rw [e]
theorem Mk (h:U a) (k:Nat):qo a k=cT a k:=by
 induction k with
 | zero=>rfl
 | succ k x=>rw [qo,cT,x,PD a h]
theorem yI (h:U a) (k:Nat) (hk:k<22) (b:k≠9) (x:k≠15):iq (gh k).2 a=bq k a:=by
 have:k=0\/k=1\/k=2\/k=3\/k=4\/k=5\/k=6\/k=7\/k=8\/k=10\/k=11\/k=12\/k=13\/k=14\/k=16\/k=17\/k=18\/k=19\/k=20\/k=21:=ab
 rcases this with rfl|rfl|rfl|rfl|rfl|rfl|rfl|rfl|rfl|rfl|rfl|rfl|rfl|rfl|rfl|rfl|rfl|rfl|rfl|rfl;·exact Mj a h
 ·rfl
 ·rfl
 ·rfl
 ·exact UF a
 ·exact pE a h
 ·exact SV a
 ·rfl
 ·exact pE a h
 ·exact UF a
 ·exact pE a h
 ·exact SV a
 ·rfl
 ·exact pE a h
 ·exact Mk a h 4
 ·rfl
 ·rfl
 ·rfl
 ·rfl
 ·exact pE a h
theorem Hc (h:U a):iB a=((a/1152921504606846976==0)||(a/1152921504606846976==8)):=by
 have e:de a 60 4=a/1152921504606846976:=by unfold de;rw [show ((2:Int)^60)=1152921504606846976 from bc,show ((2:Int)^4)=16 from bc];have:=h.1;have:=h.2;omega
 unfold iB;rw [e]
theorem SW (x:Int) (h:U x) (k:Nat) (hk:k<22):(iq (gh k).2 x==x)=fL k x:=by
 by_cases b:k=9;·subst b;rfl
 ·by_cases a:k=15
  ·subst a;show (iq .satp x==x)=((x/1152921504606846976==0)||(x/1152921504606846976==8));rw [<- Hc x h];show ((if iB x=true then x else 0)==x)=iB x;cases c:iB x with
   | true=>simp
   | false =>have d:x≠0:=(by rintro rfl;revert c;decide);simp only [Bool.false_eq_true,if_false,beq_eq_false_iff_ne];exact λh=>d h.symm
  ·rw [yI x h k hk b a];unfold fL;rw [JZ9 b,JZ9 a]
theorem Cu (hl:∀ j,U (w.getD j 0)):∀ n k,k+n<=22->dK w n k=fH w n k:=by
 intro n;induction n with
 | zero=>intro k _;rfl
 | succ n a =>intro k b;rw [dK,fH,SW _ (hl k) k ab,a (k+1) ab]
theorem yJ (hl:∀ j,U (y.getD j 0)):j5 e y=bD e y:=by unfold j5 bD;rw [Cu y hl 22 0 ab]
def nums:List Int:=[768,770,771,772,773,832,833,834,835,836,261,320,321,322,323,384,928,944,945,946,947,2818,256,260,324]
theorem PF:∀ k,k<22->(gh k).1 ∈ nums:=by decide
theorem Ml:∀ k,k<22->dV.getD k 0 ∈ nums:=by decide
theorem lV (h:a ∉ nums):∀ f k,k+f<=22->cZ a c f k=⟨-1,0,0,0,false⟩:=by
 intro f;induction f with
 | zero=>intro k _;rfl
 | succ f m =>
   intro k g;have n:((gh k).1==a)=false:=(by rw [beq_eq_false_iff_ne];intro e;exact h (e ▸ PF k ab));have b:((gh k).2.sees&&(nX (gh k).2==a))=false:=by cases d:(gh k).2<;>first | rfl | (simp only [CK.sees,nX,I4,beq_eq_false_iff_ne];intro e;apply h;rw [<- e];decide)
   rw [cZ,JZ9 (by rw [n];decide),JZ9 (by rw [b];decide)];exact m (k+1) ab
theorem Ai (h:a ∉ nums):∀ f k,k+f<=22->eB a f k=-1:=by
 intro f;induction f with
 | zero=>intro k _;rfl
 | succ f b =>intro k c;have n:(dV.getD k 0==a)=false:=(by rw [beq_eq_false_iff_ne];intro e;exact h (e ▸ Ml k ab));rw [eB,JZ9 (by rw [n];decide)];exact b (k+1) ab
theorem tI (h:a ∉ nums):cN a=-1:=by unfold cN;rw [JZ9 (λe=>h (by rw [e];decide)),JZ9 (λe=>h (by rw [e];decide)),JZ9 (λe=>h (by rw [e];decide))];exact Ai a h 22 0 ab
theorem j6 (h:a ∈ nums):a=768\/a=770\/a=771\/a=772\/a=773\/a=832\/a=833\/a=834\/a=835\/a=836\/a=261\/a=320\/a=321\/a=322\/a=323\/a=384\/a=928\/a=944\/a=945\/a=946\/a=947\/a=2818\/a=256\/a=260\/a=324:=by simpa [nums] using h
theorem Cx:((cZ a c 22 0).ok||vU a)=dB a:=by
 by_cases h:a ∈ nums;·rcases j6 a h with rfl|rfl|rfl|rfl|rfl|rfl|rfl|rfl|rfl|rfl|rfl|rfl|rfl|rfl|rfl|rfl|rfl|rfl|rfl|rfl|rfl|rfl|rfl|rfl|rfl<;>rfl
 ·rw [lV a c h 22 0 ab];unfold dB vU;rw [tI a h];cases (a==769)<;>cases (a==3860)<;>rfl
theorem kE (n:Int) (h:dB n):n=3860\/n=769\/n ∈ nums:=by
 by_cases a:n ∈ nums;·exact .inr (.inr a)
 ·simp only [dB,tI n a,Bool.or_eq_true,beq_iff_eq,JZ6] at h;omega
theorem Mm (h:dB a):nJ a c=(bZ c&&decide ((wrap64 (a.tdiv 256)).tmod 4<=c)):=by
 have e:A5 .and .i64 (a/256) 3=(wrap64 (a.tdiv 256)).tmod 4:=by
  rcases kE a h with rfl|rfl|n;·decide +kernel
  ·decide +kernel
  ·rcases j6 a n with rfl|rfl|rfl|rfl|rfl|rfl|rfl|rfl|rfl|rfl|rfl|rfl|rfl|rfl|rfl|rfl|rfl|rfl|rfl|rfl|rfl|rfl|rfl|rfl|rfl<;>decide +kernel
 unfold nJ;rw [e]
theorem PH (h:dB a):tH a=((wrap64 (a.tdiv 1024)).tmod 4==3):=by
 have e:A5 .and .i64 (a/1024) 3=(wrap64 (a.tdiv 1024)).tmod 4:=by
  rcases kE a h with rfl|rfl|n;·decide +kernel
  ·decide +kernel
  ·rcases j6 a n with rfl|rfl|rfl|rfl|rfl|rfl|rfl|rfl|rfl|rfl|rfl|rfl|rfl|rfl|rfl|rfl|rfl|rfl|rfl|rfl|rfl|rfl|rfl|rfl|rfl<;>decide +kernel
 unfold tH;rw [e]
theorem vY (hl:∀ j,U (y.getD j 0)) (n p:Int):sj e y n p=jC e y n p:=by
 unfold sj jC Ff;rw [yJ e y hl,Cx];cases a:dB n with
 | false=>simp
 | true =>rw [Mm n p a];cases bD e y<;>cases bZ p<;>simp
theorem dx (hl:∀ j,U (w.getD j 0)) (n:Int) (k:Nat) (a:cZ n (w.getD 2 0) 22 0=⟨k,n,18446744073709551615,18446744073709551615,true⟩) (hr:dF w n=w.getD k 0): (if (cZ n (w.getD 2 0) 22 0).ok=true then A5 .and .u64 (w.getD (cZ n (w.getD 2 0) 22 0).at_.toNat 0) (cZ n (w.getD 2 0) 22 0).rd else xI n)=dF w n:=by rw [a,hr];show A5 .and .u64 (w.getD ((k:Int)).toNat 0) 18446744073709551615=_;rw [R8,pE _ (hl k)]
theorem PI (hl:∀ j,U (w.getD j 0)) (n:Int) (h:dB n): (if (cZ n (w.getD 2 0) 22 0).ok=true then A5 .and .u64 (w.getD (cZ n (w.getD 2 0) 22 0).at_.toNat 0) (cZ n (w.getD 2 0) 22 0).rd else xI n)=dF w n:=by
 rcases kE n h with rfl|rfl|a;·rw [lV 3860 _ bc 22 0 ab];rfl
 ·rw [lV 769 _ bc 22 0 ab];rfl
 ·rcases j6 n a with rfl|rfl|rfl|rfl|rfl|rfl|rfl|rfl|rfl|rfl|rfl|rfl|rfl|rfl|rfl|rfl|rfl|rfl|rfl|rfl|rfl|rfl|rfl|rfl|rfl;·exact dx w hl 768 0 rfl rfl
  ·exact dx w hl 770 1 rfl rfl
  ·exact dx w hl 771 2 rfl rfl
  ·exact dx w hl 772 3 rfl rfl
  ·exact dx w hl 773 4 rfl rfl
  ·exact dx w hl 832 5 rfl rfl
  ·exact dx w hl 833 6 rfl rfl
  ·exact dx w hl 834 7 rfl rfl
  ·exact dx w hl 835 8 rfl rfl
  ·exact dx w hl 836 9 rfl rfl
  ·exact dx w hl 261 10 rfl rfl
  ·exact dx w hl 320 11 rfl rfl
  ·exact dx w hl 321 12 rfl rfl
  ·exact dx w hl 322 13 rfl rfl
  ·exact dx w hl 323 14 rfl rfl
  ·exact dx w hl 384 15 rfl rfl
  ·exact dx w hl 928 16 rfl rfl
  ·exact dx w hl 944 17 rfl rfl
  ·exact dx w hl 945 18 rfl rfl
  ·exact dx w hl 946 19 rfl rfl
  ·exact dx w hl 947 20 rfl rfl
  ·exact dx w hl 2818 21 rfl rfl
  ·rfl
  ·rfl
  ·rfl
theorem Mn (hl:∀ j,U (y.getD j 0)) (n p:Int):vV e y n p=(if jC e y n p=true then dF y n else 0):=by
 have a:=vY e y hl n p;unfold sj at a;rw [Cx] at a;cases b:dB n with
 | false =>have d:jC e y n p=false:=(by unfold jC;rw [b];cases bD e y<;>rfl);rw [d,JZ9 bc];unfold vV;have c:=Cx n (y.getD 2 0);rw [b,I5] at c;rw [c.1];have m:xI n=0:=(by have:=c.2;simp only [vU,I5,beq_eq_false_iff_ne] at this;unfold xI;rw [JZ9 this.1]);rw [m];cases Ff e y n p<;>rfl
 | true =>rw [b,I1] at a;unfold vV;rw [a,PI y hl n b]
theorem Aj (h:U c):A5 .or .u64 (A5 .andNot .u64 a 18446744073709551615) (A5 .and .u64 c 18446744073709551615)=c :=
 bF _ _ (ah _ _ _) h λi y=>by rw [cC,aB _ _ _ y,aA,Ah i y];cases bt a i<;>cases bt c i<;>rfl
theorem Hd (h:U a):A5 .or .u64 (A5 .andNot .u64 a 0) (A5 .and .u64 c 0)=a :=
 bF _ _ (ah _ _ _) h λi b=>by
  have y:bt 0 i=false:=by unfold bt;simp
  rw [cC,aB _ _ _ b,aA,y];cases bt a i<;>cases bt c i<;>rfl
theorem yK:A5 .andNot .u64 18446744073709551615 0=18446744073709551615:=by decide +kernel
theorem tJ:A5 .andNot .u64 18446744073709551615 18446744073709551615=0:=by decide +kernel
theorem UG (k:CK) (x:Int) (h:U x):U (iq k x):=by
 cases k with
 | plain b=>exact ah .and x b
 | mst =>
   show U (if (A5 .and .u64 x 6144==4096)=true then A5 .andNot .u64 (A5 .and .u64 x 924074) 6144 else A5 .and .u64 x 924074);split;·exact ah _ _ _
   ·exact ah _ _ _
 | mie=>exact ah .and x 2730
 | mip=>exact ah .and x 2730
 | satp =>
   show U (if iB x=true then x else 0);split;·exact h
   ·constructor<;>decide
 | cfg=>rw [show iq .cfg x=qo x 4 from rfl,qo];exact ah _ _ _
 | addr e=>exact ah .and x 18014398509481983
theorem JO (hk:(gh e).2.holds=false) (x:Int) (h:U x):kZ w e 18446744073709551615 x=iq (gh e).2 x:=by unfold kZ lT;rw [hk,JZ9 bc];exact Aj _ _ (UG _ x h)
theorem mY (hk:e<w.length):w.set e (w.getD e 0)=w:=by
 have k:w.getD e 0=w[e]:=by simp [X0,List.getElem?_eq_getElem hk]
 rw [k,List.set_getElem_self]
theorem SX:∀ i,i<64->∀ y x:Bool,(((y&&bt 2730 i)&&!(bt 18446744073709551615 i&&!bt 2184 i))||((x&&bt 2730 i)&&(bt 18446744073709551615 i&&!bt 2184 i)))=(((y&&bt 2730 i)&&!bt 546 i)||(x&&bt 546 i)):=by decide +kernel
theorem Mo (hy:A5 .and .u64 a 2730=a): A5 .or .u64 (A5 .andNot .u64 a (A5 .andNot .u64 18446744073709551615 2184)) (A5 .and .u64 (A5 .and .u64 c 2730) (A5 .andNot .u64 18446744073709551615 2184))=iW a 546 c:=by
 unfold iW;refine bF _ _ (ah _ _ _) (ah _ _ _) λi y=>?_;have b:bt a i=(bt a i&&bt 2730 i):=by conv=>lhs;rw [<- hy,aA]
 rw [cC,aB _ _ _ y,aA,aA,aB _ _ _ y,cC,aB _ _ _ y,aA,b];exact SX i y _ _
theorem Mq:∀ i,i<64->∀ x:Bool,((x&&bt 924074 i)&&bt 786722 i)=(x&&bt 786722 i)/\(((x&&bt 924074 i)&&!bt 6144 i)&&bt 786722 i)=(x&&bt 786722 i):=by decide +kernel
theorem Mr:A5 .or .u64 (A5 .andNot .u64 a 786722) (A5 .and .u64 (iq .mst c) 786722)=iW a 786722 c:=by
 unfold iW;refine bF _ _ (ah _ _ _) (ah _ _ _) λi y=>?_;have b:bt (A5 .and .u64 (iq .mst c) 786722) i=bt (A5 .and .u64 c 786722) i:=by
  show bt (A5 .and .u64 (if (A5 .and .u64 c 6144==4096)=true then A5 .andNot .u64 (A5 .and .u64 c 924074) 6144 else A5 .and .u64 c 924074) 786722) i=_;split;·rw [aA,aB _ _ _ y,aA,aA];exact (Mq i y _).2
  ·rw [aA,aA,aA];exact (Mq i y _).1
 rw [cC,b,cC]
theorem Ms (hy:A5 .and .u64 a 2730=a):A5 .or .u64 (A5 .andNot .u64 a c) (A5 .and .u64 (A5 .and .u64 s 2730) c)=bq 3 (iW a c s):=by
 show _=A5 .and .u64 (A5 .or .u64 (A5 .andNot .u64 a c) (A5 .and .u64 s c)) 2730;refine bF _ _ (ah _ _ _) (ah _ _ _) λi y=>?_;have b:bt a i=(bt a i&&bt 2730 i):=by conv=>lhs;rw [<- hy,aA]
 rw [cC,aB _ _ _ y,aA,aA,aA,cC,aB _ _ _ y,aA,b];cases bt a i<;>cases bt c i<;>cases bt s i<;>cases bt 2730 i<;>rfl
theorem SY:∀ i,i<64->∀ y m x:Bool,((y&&!((m&&bt 2 i)&&!bt 2184 i))||((x&&bt 2730 i)&&((m&&bt 2 i)&&!bt 2184 i)))=((y&&!(m&&bt 2 i))||(x&&(m&&bt 2 i))):=by decide +kernel
theorem Mt:A5 .or .u64 (A5 .andNot .u64 a (A5 .andNot .u64 (A5 .and .u64 c 2) 2184)) (A5 .and .u64 (A5 .and .u64 s 2730) (A5 .andNot .u64 (A5 .and .u64 c 2) 2184))=iW a (A5 .and .u64 c 2) s:=by unfold iW;refine bF _ _ (ah _ _ _) (ah _ _ _) λi y=>?_;rw [cC,aB _ _ _ y,aA,aA,aB _ _ _ y,aA,cC,aB _ _ _ y,aA,aA,aA];exact SY i y _ _ _
theorem Fg (h:U (w.getD 16 0)) (k:Nat):dW w k=de (w.getD 16 0) (8*k) 8:=iD _ (8*k) 8 h.1 h.2 ab
theorem UH:∀ z:Nat,z<256->(A5 .and .u64 (z:Int) 128 != 0)=((z:Int)/128==1):=by decide +kernel
theorem uC (h:U (w.getD 16 0)) (k:Nat):fX (w.getD 16 0) k=(dW w k/128==1):=by
 rw [Fg w h]
 unfold fX
 have a:=kL (w.getD 16 0) (8*k) 8
 obtain ⟨z,b⟩:=Int.eq_ofNat_of_zero_le a.1
 rw [b] at a ⊢
 exact UH z (by have:((2:Int)^8)=256:=by decide
                omega)
theorem Fh (h:U a):∀ k,U (eC w a k):=by
 intro k;induction k with
 | zero=>exact h
 | succ k y =>
   rw [eC];split;·exact ah _ _ _
   ·exact y
theorem yL (h:U (w.getD 16 0)) (y:Int) (i:Nat) (c:i<64):∀ k,bt (eC w y k) i=if bt (gT (w.getD 16 0) k) i=true then bt (w.getD 16 0) i else bt y i:=by
 intro k;induction k with
 | zero =>
   have b:bt 0 i=false:=(by unfold bt;simp);show bt y i=if bt 0 i=true then _ else _
   rw [b,JZ9 bc]
 | succ k a =>
   rw [eC,gT,uC w h];cases (dW w k/128==1) with
   | false=>exact a
   | true =>rw [JZ8 rfl,JZ8 rfl,cC,aB _ _ _ c,aA,cC,a];cases bt (Uz.wrap (255*2^(8*k))) i<;>cases bt (gT (w.getD 16 0) k) i<;>cases bt (w.getD 16 0) i<;>cases bt y i<;>rfl
theorem Mu (h:U (w.getD 16 0)) (f:Int) (b:U f): A5 .or .u64 (A5 .andNot .u64 (w.getD 16 0) (A5 .andNot .u64 18446744073709551615 (gT (w.getD 16 0) 4))) (A5 .and .u64 f (A5 .andNot .u64 18446744073709551615 (gT (w.getD 16 0) 4)))=eC w f 4:=by refine bF _ _ (ah _ _ _) (Fh w f b 4) λi a=>?_;rw [yL w h f i a,cC,aB _ _ _ a,aA,aB _ _ _ a,Ah i a];cases bt (gT (w.getD 16 0) 4) i<;>cases bt (w.getD 16 0) i<;>cases bt f i<;>rfl
theorem He:∀ i,i<64->8<=i->bt 159 i=false:=by decide +kernel
theorem Hf (x:Int) (k i:Nat) (b:8<=i):bt (jB x k) i=false:=by
 by_cases a:i<64
 ·unfold jB;split;·rw [aB _ _ _ a,aA,He i a b,I2,I3]
  ·rw [aA,He i a b,I2]
 ·exact uA _ _ ab
theorem Mv:U (jB a g):=by unfold jB;split<;>exact ah _ _ _
theorem Mw (b:32<=g):∀ k,k<=4->bt (cT a k) g=false:=by
 intro k;induction k with
 | zero=>intro _;unfold bt;simp [cT]
 | succ k x =>intro c;rw [cT,cC,x ab,nC _ (Mv a k),Hf a k _ ab,I2,K1]
theorem Mx (b:U a) (h:bq 16 a=a):fX a 4=false:=by
 have c:cT a 4=a:=h;have e:de a (8*4) 8=0:=by
  refine bF _ _ (tq _ _ _ ab) (by constructor<;>decide) λi d=>?_;rw [lI a b _ _ _ ab];have:bt a (i+8*4)=false:=by rw [<- c];exact Mw a _ ab 4 ab
  rw [this,I2];unfold bt;simp
 unfold fX;rw [e];decide +kernel
theorem yM (h:U (w.getD 16 0)) (k:Nat) (hk:k<4):iT (w.getD 16 0) k=A5 .and .u64 (dW w k/8) 3:=by rw [Fg w h];have a:=cE (de (w.getD 16 0) (8*k) 8/8) 2 (by have:=(kL (w.getD 16 0) (8*k) 8).1;omega) (by have b:=tq (w.getD 16 0) (8*k) 8 ab;have c:=b.1;have d:=b.2;omega) ab;rw [show ((2:Int)^2-1)=3 from bc,show ((2:Int)^2)=4 from bc] at a;rw [a];unfold iT de;rw [Int.pow_add,show ((2:Int)^3)=8 from bc,show ((2:Int)^2)=4 from bc,show ((2:Int)^8)=256 from bc,<- Int.ediv_ediv_of_nonneg (Int.le_of_lt (S2 ab))];generalize w.getD 16 0/2^(8*k)=z;omega
theorem Fi (h:U (w.getD 16 0)) (b:bq 16 (w.getD 16 0)=w.getD 16 0) (e:Nat) (he:e<4): (fX (w.getD 16 0) e||(fX (w.getD 16 0) (e+1)&&(iT (w.getD 16 0) (e+1)==1)))=fI w e:=by
 unfold fI;by_cases a:e<3;·rw [uC w h,uC w h,yM w h _ ab,show decide (e<3)=true from ta,I4]
 ·have:e=3:=by omega
  subst this;rw [Mx _ h b,uC w h];simp
theorem pF (h:U (w.getD 16 0)) (a:bq 16 (w.getD 16 0)=w.getD 16 0) (k e:Nat) (he:e<4) (hk:(gh k).2=.addr e) (hy:U (w.getD k 0)) (x:Int) (hx:U x): kZ w k 18446744073709551615 x=if fI w e=true then w.getD k 0 else A5 .and .u64 x 18014398509481983:=by
 unfold kZ lT;rw [hk];show A5 .or .u64 (A5 .andNot .u64 (w.getD k 0) (A5 .andNot .u64 18446744073709551615 (if (fX (w.getD 16 0) e||(fX (w.getD 16 0) (e+1)&&(iT (w.getD 16 0) (e+1)==1)))=true then 18446744073709551615 else 0)))
  (A5 .and .u64 (A5 .and .u64 x 18014398509481983) (A5 .andNot .u64 18446744073709551615 (if (fX (w.getD 16 0) e||(fX (w.getD 16 0) (e+1)&&(iT (w.getD 16 0) (e+1)==1)))=true then 18446744073709551615 else 0)))=_
 rw [Fi w h a e he];cases fI w e with
 | true=>rw [JZ8 rfl,JZ8 rfl,tJ];exact Hd _ _ hy
 | false=>rw [JZ9 bc,JZ9 bc,yK];exact Aj _ _ (ah _ _ _)
theorem JP (hy:U (w.getD 15 0)) (x:Int) (hx:U x):kZ w 15 18446744073709551615 x=if iB x=true then x else w.getD 15 0:=by
 unfold kZ lT;show A5 .or .u64 (A5 .andNot .u64 (w.getD 15 0) (A5 .andNot .u64 18446744073709551615 (if iB x=true then 0 else 18446744073709551615)))
  (A5 .and .u64 (if iB x=true then x else 0) (A5 .andNot .u64 18446744073709551615 (if iB x=true then 0 else 18446744073709551615)))=_
 cases iB x with
 | true=>rw [JZ8 rfl,JZ8 rfl,JZ8 rfl,yK];exact Aj _ _ hx
 | false=>rw [JZ9 bc,JZ9 bc,JZ9 bc,tJ];exact Hd _ _ hy
theorem JQ:∀ n k,fH w n k->∀ j,k<=j->j<k+n->fL j (w.getD j 0):=by
 intro n;induction n with
 | zero=>intro k _ j a b;omega
 | succ n d =>
   intro k h j a b;rw [fH,H8] at h;by_cases c:j=k;·subst c;exact h.1
   ·exact d (k+1) h.2 j ab ab
theorem eI (h:bD x l) (j:Nat) (a:j<22):fL j (l.getD j 0):=by simp only [bD,H8,JZ6] at h;exact JQ l 22 0 h.2 j ab ab
theorem jy (n:cZ a (w.getD 2 0) 22 0=⟨g,a,18446744073709551615,18446744073709551615,true⟩) (b:cg w a c=fZ w g c) (h:w.set g (kZ w g 18446744073709551615 c)=fZ w g c):nK w a c=cg w a c:=by unfold nK;rw [n,b];show w.set ((g:Int)).toNat (kZ w ((g:Int)).toNat 18446744073709551615 c)=_;rw [R8];exact h
theorem dO (hx:U c) (k:Nat) (hk:k<22) (b:k≠9) (n:k≠15) (d:(gh k).2.holds=false) (x:cZ a (w.getD 2 0) 22 0=⟨k,a,18446744073709551615,18446744073709551615,true⟩) (f:cg w a c=fZ w k c) (e:fZ w k c=w.set k (bq k c)):
 nK w a c=cg w a c :=
 jy w a c k x f (by rw [JO w k d c hx,yI c hx k hk b n,e])
theorem Mz (hz:w.length=22) (hl:∀ j,U (w.getD j 0)) (b:bD 22 w) (n x:Int) (hx:U x) (h:dB n):nK w n x=cg w n x:=by
 have e:A5 .and .u64 (w.getD 9 0) 2730=w.getD 9 0:=by have:=eI b 9 ab;exact T5 this
 have d:A5 .and .u64 (w.getD 3 0) 2730=w.getD 3 0:=by have:=eI b 3 ab;exact T5 this
 have a:bq 16 (w.getD 16 0)=w.getD 16 0:=by have:=eI b 16 ab;exact T5 this
 rcases kE n h with rfl|rfl|c;·unfold nK;rw [lV 3860 _ bc 22 0 ab];rfl
 ·unfold nK;rw [lV 769 _ bc 22 0 ab];rfl
 ·rcases j6 n c with rfl|rfl|rfl|rfl|rfl|rfl|rfl|rfl|rfl|rfl|rfl|rfl|rfl|rfl|rfl|rfl|rfl|rfl|rfl|rfl|rfl|rfl|rfl|rfl|rfl;·exact dO w 768 x hx 0 ab ab ab rfl rfl rfl rfl
  ·exact dO w 770 x hx 1 ab ab ab rfl rfl rfl rfl
  ·exact dO w 771 x hx 2 ab ab ab rfl rfl rfl rfl
  ·exact dO w 772 x hx 3 ab ab ab rfl rfl rfl rfl
  ·exact dO w 773 x hx 4 ab ab ab rfl rfl rfl rfl
  ·exact dO w 832 x hx 5 ab ab ab rfl rfl rfl rfl
  ·exact dO w 833 x hx 6 ab ab ab rfl rfl rfl rfl
  ·exact dO w 834 x hx 7 ab ab ab rfl rfl rfl rfl
  ·exact dO w 835 x hx 8 ab ab ab rfl rfl rfl rfl
  ·refine jy w 836 x 9 rfl rfl ?_;show w.set 9 (A5 .or .u64 (A5 .andNot .u64 (w.getD 9 0) (A5 .andNot .u64 18446744073709551615 2184)) (A5 .and .u64 (A5 .and .u64 x 2730) (A5 .andNot .u64 18446744073709551615 2184)))=w.set 9 (iW (w.getD 9 0) 546 x);rw [Mo _ x e]
  ·exact dO w 261 x hx 10 ab ab ab rfl rfl rfl rfl
  ·exact dO w 320 x hx 11 ab ab ab rfl rfl rfl rfl
  ·exact dO w 321 x hx 12 ab ab ab rfl rfl rfl rfl
  ·exact dO w 322 x hx 13 ab ab ab rfl rfl rfl rfl
  ·exact dO w 323 x hx 14 ab ab ab rfl rfl rfl rfl
  ·refine jy w 384 x 15 rfl rfl ?_;rw [JP w (hl 15) x hx];show _=(if ((x/1152921504606846976==0)||(x/1152921504606846976==8))=true then w.set 15 x else w);rw [<- Hc x hx];cases iB x with
   | true=>rfl
   | false=>rw [JZ9 bc,JZ9 bc,mY w 15 ab]
  ·refine jy w 928 x 16 rfl rfl ?_;show w.set 16 (A5 .or .u64 (A5 .andNot .u64 (w.getD 16 0) (A5 .andNot .u64 18446744073709551615 (gT (w.getD 16 0) 4))) (A5 .and .u64 (qo x 4) (A5 .andNot .u64 18446744073709551615 (gT (w.getD 16 0) 4))))=w.set 16 (eC w (cT x 4) 4);rw [Mk x hx,Mu w (hl 16) (cT x 4) (by rw [cT];exact ah _ _ _)]
  ·refine jy w 944 x 17 rfl rfl ?_;rw [pF w (hl 16) a 17 0 ab rfl (hl 17) x hx];show _=(if fI w 0=true then w else w.set 17 (A5 .and .u64 x 18014398509481983));cases fI w 0 with
   | true=>rw [JZ8 rfl,JZ8 rfl,mY w 17 ab]
   | false=>rfl
  ·refine jy w 945 x 18 rfl rfl ?_;rw [pF w (hl 16) a 18 1 ab rfl (hl 18) x hx];show _=(if fI w 1=true then w else w.set 18 (A5 .and .u64 x 18014398509481983));cases fI w 1 with
   | true=>rw [JZ8 rfl,JZ8 rfl,mY w 18 ab]
   | false=>rfl
  ·refine jy w 946 x 19 rfl rfl ?_;rw [pF w (hl 16) a 19 2 ab rfl (hl 19) x hx];show _=(if fI w 2=true then w else w.set 19 (A5 .and .u64 x 18014398509481983));cases fI w 2 with
   | true=>rw [JZ8 rfl,JZ8 rfl,mY w 19 ab]
   | false=>rfl
  ·refine jy w 947 x 20 rfl rfl ?_;rw [pF w (hl 16) a 20 3 ab rfl (hl 20) x hx];show _=(if fI w 3=true then w else w.set 20 (A5 .and .u64 x 18014398509481983));cases fI w 3 with
   | true=>rw [JZ8 rfl,JZ8 rfl,mY w 20 ab]
   | false=>rfl
  ·exact dO w 2818 x hx 21 ab ab ab rfl rfl rfl rfl
  ·show w.set 0 (A5 .or .u64 (A5 .andNot .u64 (w.getD 0 0) 786722) (A5 .and .u64 (iq .mst x) 786722))=w.set 0 (iW (w.getD 0 0) 786722 x);rw [Mr]
  ·show w.set 3 (A5 .or .u64 (A5 .andNot .u64 (w.getD 3 0) (w.getD 2 0)) (A5 .and .u64 (A5 .and .u64 x 2730) (w.getD 2 0)))=w.set 3 (bq 3 (iW (w.getD 3 0) (w.getD 2 0) x));rw [Ms _ _ _ d]
  ·show w.set 9 (A5 .or .u64 (A5 .andNot .u64 (w.getD 9 0) (A5 .andNot .u64 (A5 .and .u64 (w.getD 2 0) 2) 2184)) (A5 .and .u64 (A5 .and .u64 x 2730) (A5 .andNot .u64 (A5 .and .u64 (w.getD 2 0) 2) 2184)))=w.set 9 (iW (w.getD 9 0) (A5 .and .u64 (w.getD 2 0) 2) x);rw [Mt]
theorem yN (hl:∀ j,U (y.getD j 0)) (n p:Int):pC e y n p=D9 e y n p:=by
 have b:=vY e y hl n p;unfold sj at b;unfold pC D9;cases a:dB n with
 | false =>have c:jC e y n p=false:=(by unfold jC;rw [a];cases bD e y<;>rfl);rw [c,Cx,a];simp
 | true =>rw [<- b,PH n a,Cx,a];cases Ff e y n p<;>cases ((wrap64 (n.tdiv 1024)).tmod 4==3)<;>rfl
theorem JR (hz:y.length=e) (hl:∀ j,U (y.getD j 0)) (n p x:Int) (hx:U x):nL e y n p x=Ea e y n p x:=by
 unfold nL Ea;rw [yN e y hl n p];cases c:D9 e y n p with
 | false=>rfl
 | true =>rw [JZ8 rfl,JZ8 rfl];have a:jC e y n p:=(by unfold D9 at c;rw [H8] at c;exact c.1);obtain ⟨rfl,d⟩:=Eb a;have b:bD 22 y:=(by simp only [jC,H8] at a;exact a.1.1.1);exact Mz y hz hl b n x hx d
theorem SZ (b:Int):A5 .and .u64 b 1=if bt b 0=true then 1 else 0:=by
 have c:∀ i,i<64->∀ (p o:Bool),((if i=0 then p else o)&&bt 1 i)=bt (if p=true then 1 else 0) i:=cp
 refine bF _ _ (ah _ _ _) (by split<;>(constructor<;>decide)) λi d=>?_;rw [aA,<- c i d (bt b 0) (bt b i)];by_cases a:i=0;·subst a;rfl
 ·rw [JZ9 a]
theorem MC (x:Int):(A5 .and .u64 x 6144==4096)=(!bt x 11&&bt x 12):=by
 have e2:A5 .and .u64 x 6144=(if bt x 11=true then 2048 else 0)+(if bt x 12=true then 4096 else 0):=by
  refine bF _ _ (ah _ _ _) ps λi c=>?_;rw [aA,<- RD i c (bt x 11) (bt x 12) (bt x i)];by_cases a:i=11;·subst a;rfl
  ·by_cases b:i=12;·subst b;rfl
   ·rw [JZ9 a,JZ9 b]
 rw [e2];cases bt x 11<;>cases bt x 12<;>rfl
theorem Hg (h:U a):mst a=if (!bt a 11&&bt a 12)=true then A5 .andNot .u64 (A5 .and .u64 a 924074) 6144 else A5 .and .u64 a 924074:=by rw [<- Mj a h,<- MC];rfl
theorem Ue:bt 924074 11/\bt 924074 12/\bt 6144 11/\bt 6144 12/\bt 786722 11=false/\bt 786722 12=false:=by decide +kernel
theorem sp (h:U a):mst a=a↔A5 .and .u64 a 924074=a/\(!bt a 11&&bt a 12)=false:=by
 rw [Hg a h];constructor
 ·intro e;cases x:(!bt a 11&&bt a 12) with
  | true =>
    rw [x,JZ8 rfl] at e;have:bt a 12=false:=by rw [<- e,aB _ _ _ ab,Ue.2.2.2.1];simp
    rw [this,I2] at x;cases x
  | false=>rw [x,JZ9 bc] at e;exact ⟨e,rfl⟩
 ·rintro ⟨e,x⟩;rw [x,JZ9 bc];exact e
theorem RE:U (mst a):=by unfold mst;split<;>exact ah _ _ _
theorem MD (h:U a):mst (mst a)=mst a:=by
 rw [sp _ (RE a)];rw [Hg a h];cases b:(!bt a 11&&bt a 12) with
 | true =>
   rw [JZ8 rfl];refine ⟨bF _ _ (ah _ _ _) (ah _ _ _) λi x=>?_,?_⟩;·rw [aA,aB _ _ _ x,aA];cases bt a i<;>cases bt 924074 i<;>cases bt 6144 i<;>rfl
   ·rw [aB _ _ 12 ab,Ue.2.2.2.1];simp
 | false =>
   rw [JZ9 bc];refine ⟨bF _ _ (ah _ _ _) (ah _ _ _) λi x=>?_,?_⟩;·rw [aA,aA];cases bt a i<;>cases bt 924074 i<;>rfl
   ·rw [aA,aA,Ue.1,Ue.2.1,I1,I1];exact b
theorem S7:∀ i,i<64->∀ a:Bool,((a&&bt 786722 i)&&bt 924074 i)=(a&&bt 786722 i):=by decide +kernel
theorem PJ (hy:U a) (h:mst a=a):mst (iW a 786722 c)=iW a 786722 c:=by
 obtain ⟨b,x⟩:=(sp a hy).mp h;unfold iW;rw [sp _ (ah _ _ _)];refine ⟨bF _ _ (ah _ _ _) (ah _ _ _) λi y=>?_,?_⟩
 ·have d:bt a i=(bt a i&&bt 924074 i):=by conv=>lhs;rw [<- b,aA]
  have e:=S7 i y (bt c i);rw [aA,cC,aB _ _ _ y,aA,d];revert e;cases bt a i<;>cases bt 924074 i<;>cases bt 786722 i<;>cases bt c i<;>decide
 ·rw [cC,cC,aB _ _ 11 ab,aB _ _ 12 ab,aA,aA,Ue.2.2.2.2.1,Ue.2.2.2.2.2];simpa using x
theorem jI:A5 .and .u64 (A5 .and .u64 a c) c=A5 .and .u64 a c :=
 bF _ _ (ah _ _ _) (ah _ _ _) λi x=>by rw [aA,aA];cases bt a i<;>cases bt c i<;>rfl
theorem mv:A5 .andNot .u64 (A5 .andNot .u64 a c) c=A5 .andNot .u64 a c :=
 bF _ _ (ah _ _ _) (ah _ _ _) λi x=>by rw [aB _ _ _ x,aB _ _ _ x];cases bt a i<;>cases bt c i<;>rfl
def xJ (x:Int) (i:Nat):Bool:=bt x i&&bt 159 (i%8)&&!(decide (i%8=1)&&!bt x (i-1))
theorem VJ:∀ j,j<64->bt 2 j=decide (j=1):=by decide +kernel
theorem Hh:bt 159 0:=by decide +kernel
theorem JS (h:U a) (k j:Nat) (b:j<64):bt (jB a k) j=(bt a (j+8*k)&&bt 159 j&&!(decide (j=1)&&!bt a (8*k))):=by
 unfold jB;have x:∀ i,bt (a/2^(8*k)) i=bt a (i+8*k):=λi=>jF a h (8*k) i;generalize a/2^(8*k)=z at *;have c:bt a (8*k)=bt z 0:=by rw [x 0,N1]
 rw [c,<- x j,SZ,aA,Hh,I1];cases d:bt z 0 with
 | true =>rw [JZ8 rfl,JZ9 bc,aA];simp
 | false =>rw [JZ9 (show ¬ (false) from bc),JZ8 (show ((0:Int)==0)=true from rfl),aB _ _ _ b,aA,VJ j b];simp
theorem rh (h:U a) (i:Nat) (d:i<64):∀ k,k<=4->bt (cT a k) i=(decide (i<8*k)&&xJ a i):=by
 intro k;induction k with
 | zero=>intro _;rw [cT];have:bt 0 i=false:=by unfold bt;simp
         rw [this];simp
 | succ k g =>
   intro j;rw [cT,cC,g ab,nC _ (Mv a k)];by_cases b:i<8*k;·have c:¬ 8*k<=i:=ab;have x:i<8*(k+1):=ab;simp [b,c,x]
   ·have c:8*k<=i:=ab;by_cases x:i<8*(k+1)
    ·have f:i%8=i-8*k:=ab;rw [JS a h k _ ab];unfold xJ;rw [f,show i-8*k+8*k=i from ab];by_cases e:i-8*k=1;·rw [show i-1=8*k from ab];simp [b,c,x,d]
     ·simp [b,c,x,d,e]
    ·rw [Hf a k _ ab];simp [b,x]
theorem Ak (h:U a):bq 16 a=a↔∀ i,i<64->bt a i=(decide (i<32)&&xJ a i):=by
 show cT a 4=a↔_;constructor;·intro e i c;have:=rh a h i c 4 ab;rw [e] at this;exact this
 ·intro b;refine bF _ _ (by rw [cT];exact ah _ _ _) h λi c=>?_;rw [rh a h i c 4 ab,b i c]
theorem JT (x:Int) (h:U x) (i:Nat) (b:i<32):xJ (cT x 4) i=xJ x i:=by
 have s:∀ j,j<32->bt (cT x 4) j=xJ x j:=λj d=>by rw [rh x h j ab 4 ab];simp [show j<8*4 from ab]
 show (bt (cT x 4) i&&bt 159 (i%8)&&!(decide (i%8=1)&&!bt (cT x 4) (i-1)))=xJ x i;rw [s i b,s (i-1) ab];by_cases a:i%8=1;·have c:(i-1)%8=0:=ab;unfold xJ;rw [c,a,Hh];cases bt x i<;>cases bt 159 1<;>cases bt x (i-1)<;>simp
 ·unfold xJ;simp only [a,decide_false,I3,K0,I1];cases bt x i<;>cases bt 159 (i%8)<;>rfl
theorem yO (x:Int) (h:U x):bq 16 (cT x 4)=cT x 4:=by
 rw [Ak _ (by rw [cT];exact ah _ _ _)];intro i b;rw [rh x h i b 4 ab];by_cases a:i<32;·rw [JT x h i a]
 ·simp [a]
theorem MG:∀ j,j<64->bt 255 j=decide (j<8):=by decide +kernel
theorem JU (c:Int) (i:Nat) (f:i<64):∀ k,k<=4->bt (gT c k) i=(decide (i<8*k)&&fX c (i/8)):=by
 intro k;induction k with
 | zero=>intro _;rw [gT];have:bt 0 i=false:=by unfold bt;simp
         rw [this];simp
 | succ k d =>
   intro h;rw [gT];by_cases a:i<8*k
   ·have b:i<8*(k+1):=ab;have e:¬ 8*k<=i:=ab;cases fX c k with
    | true=>rw [JZ8 rfl,cC,d ab,nC _ (by constructor<;>decide)];simp [a,e,b]
    | false=>rw [JZ9 bc,d ab];simp [a,b]
   ·have e:8*k<=i:=ab;by_cases b:i<8*(k+1)
    ·have g:i/8=k:=ab;rw [g];cases fX c k with
     | true=>rw [JZ8 rfl,cC,d ab,nC _ (by constructor<;>decide),MG _ ab];simp [a,e,b,f];omega
     | false=>rw [JZ9 bc,d ab];simp [a]
    ·cases fX c k with
     | true=>rw [JZ8 rfl,cC,d ab,nC _ (by constructor<;>decide),MG _ ab];simp [a,b];omega
     | false=>rw [JZ9 bc,d ab];simp [a,b]
theorem Fj (h:U (w.getD 16 0)) (p:bq 16 (w.getD 16 0)=w.getD 16 0) (f:Int) (k:U f) (hl:bq 16 f=f):bq 16 (eC w f 4)=eC w f 4:=by
 have e:=λi a=>yL w h f i a 4;rw [Ak _ (Fh w f k 4)];have q:=(Ak _ h).mp p;have r:=(Ak _ k).mp hl;have m:=λi a=>JU (w.getD 16 0) i a 4 ab;intro i a;have c:=q i a;have d:=r i a;unfold xJ at c d ⊢;by_cases o:i%8=1
 ·have n:(i-1)/8=i/8:=ab;have s:=m i a;have b:=m (i-1) ab;rw [e i a,e (i-1) ab];have g:decide (i-1<8*4)=decide (i<8*4):=by
   by_cases j:i<8*4;·simp [j];omega
   ·simp [j];omega
  rw [n,g,<- s] at b;rw [b];cases bt (gT (w.getD 16 0) 4) i with
  | true=>rw [JZ8 rfl,JZ8 rfl];exact c
  | false=>rw [JZ9 bc,JZ9 bc];exact d
 ·rw [e i a];simp only [o,decide_false,I3,K0,I1] at c d ⊢;cases bt (gT (w.getD 16 0) 4) i with
  | true=>rw [JZ8 rfl];exact c
  | false=>rw [JZ9 bc];exact d
theorem Fk (h:U a) (k:Nat) (hk:k<22):bq k (bq k a)=bq k a:=by
 have:k=0\/k=1\/k=2\/k=3\/k=4\/k=5\/k=6\/k=7\/k=8\/k=9\/k=10\/k=11\/k=12\/k=13\/k=14\/k=15\/k=16\/k=17\/k=18\/k=19\/k=20\/k=21:=ab
 rcases this with rfl|rfl|rfl|rfl|rfl|rfl|rfl|rfl|rfl|rfl|rfl|rfl|rfl|rfl|rfl|rfl|rfl|rfl|rfl|rfl|rfl|rfl;·exact MD a h
 ·exact jI a 46079
 ·exact jI a 546
 ·exact jI a 2730
 ·exact mv a 2
 ·rfl
 ·exact mv a 3
 ·exact jI a 9223372036854775823
 ·rfl
 ·rfl
 ·exact mv a 2
 ·rfl
 ·exact mv a 3
 ·exact jI a 9223372036854775823
 ·rfl
 ·rfl
 ·exact yO a h
 ·exact jI a 18014398509481983
 ·exact jI a 18014398509481983
 ·exact jI a 18014398509481983
 ·exact jI a 18014398509481983
 ·rfl
theorem JV:∀ n k,(∀ j,k<=j->j<k+n->fL j (w.getD j 0))->fH w n k:=by
 intro n;induction n with
 | zero=>intro k _;rfl
 | succ n a =>intro k h;rw [fH,H8];exact ⟨h k ab ab,a (k+1) λj b c=>h j ab ab⟩
theorem MH (h:∀ j,j<22->fL j (w.getD j 0)):bD 22 w:=by simp only [bD,H8,JZ6];exact ⟨trivial,JV w 22 0 λj _ a=>h j ab⟩
theorem ss (hk:e<w.length):(w.set e a).getD e 0=a:=by simp [X0,hk]
theorem j7 (v:e≠p):(w.set e a).getD p 0=w.getD p 0:=by simp [X0,v]
theorem cJ (hz:w.length=22) (a:bD 22 w) (k:Nat) (hk:k<22) (v:Int) (h:fL k v):bD 22 (w.set k v):=by
 refine MH _ λj b=>?_;by_cases e:k=j;·subst e;rw [ss w k v ab];exact h
 ·rw [j7 w k j v e];exact eI a j b
theorem oQ (h:U a) (k:Nat) (hk:k<22) (b:k≠9) (x:k≠15):fL k (bq k a):=by unfold fL;rw [JZ9 b,JZ9 x,Fk a h k hk];exact beq_self_eq_true _
theorem Hi (y m x:Int) (hy:A5 .and .u64 y 2730=y) (hm:∀ i,i<64->bt m i->bt 2730 i):A5 .and .u64 (iW y m x) 2730=iW y m x:=by
 unfold iW;refine bF _ _ (ah _ _ _) (ah _ _ _) λi b=>?_;have d:bt y i=(bt y i&&bt 2730 i):=by conv=>lhs;rw [<- hy,aA]
 have c:=hm i b;rw [aA,cC,aB _ _ _ b,aA,d];cases a:bt m i with
 | false=>cases bt y i<;>cases bt 2730 i<;>cases bt x i<;>rfl
 | true=>rw [c a];cases bt y i<;>cases bt x i<;>rfl
theorem UI:∀ i,i<64->bt 546 i->bt 2730 i:=by decide +kernel
theorem WO:∀ i,i<64->bt 2 i->bt 2730 i:=by decide +kernel
theorem JW (hz:w.length=22) (hl:∀ j,U (w.getD j 0)) (a:bD 22 w) (k:Nat) (hk:k<22) (x:Int) (hx:U x):bD 22 (fZ w k x):=by
 have f:A5 .and .u64 (w.getD 9 0) 2730=w.getD 9 0:=T5 (eI a 9 ab);have e:bq 16 (w.getD 16 0)=w.getD 16 0:=T5 (eI a 16 ab);unfold fZ;by_cases d:k=9;·subst d;rw [JZ8 (show (((9:Nat):Int)=9) from rfl)];refine cJ w hz a 9 ab _ ?_;show (A5 .and .u64 (iW (w.getD 9 0) 546 x) 2730==iW (w.getD 9 0) 546 x);rw [Hi _ _ _ f UI];exact beq_self_eq_true _
 ·rw [JZ9 ab];by_cases b:k=15
  ·subst b;rw [JZ8 (show (((15:Nat):Int)=15) from rfl)];cases g:((x/1152921504606846976==0)||(x/1152921504606846976==8)) with
   | true=>rw [JZ8 rfl];exact cJ w hz a 15 ab _ g
   | false=>rw [JZ9 bc];exact a
  ·rw [JZ9 ab];by_cases c:k=16;·subst c;rw [JZ8 (show (((16:Nat):Int)=16) from rfl)];refine cJ w hz a 16 ab _ ?_;show (bq 16 (eC w (bq 16 x) 4)==eC w (bq 16 x) 4);rw [Fj w (hl 16) e (bq 16 x) (by show U (cT x 4);rw [cT];exact ah _ _ _) (yO x hx)];exact beq_self_eq_true _
   ·rw [JZ9 ab];split
    ·split;·exact a
     ·rw [R8];exact cJ w hz a k hk _ (oQ x hx k hk d b)
    ·rw [R8];exact cJ w hz a k hk _ (oQ x hx k hk d b)
inductive VK (n:Int):Prop where
 | fixed (h:n=769\/n=3860)
 | st (h:n=256)
 | ie (h:n=260)
 | ip (h:n=324)
 | own (k:Nat) (hk:k<22) (hw:∀ l x,cg l n x=fZ l k x) (hr:∀ l,dF l n=l.getD k 0) (hp:cN n=k)
theorem S8 (h:dB a):VK a:=by
 rcases kE a h with rfl|rfl|n;·exact .fixed (.inr rfl)
 ·exact .fixed (.inl rfl)
 ·rcases j6 a n with rfl | rfl | rfl | rfl | rfl | rfl | rfl | rfl | rfl | rfl | rfl | rfl | rfl | rfl | rfl | rfl | rfl | rfl | rfl | rfl | rfl | rfl | rfl | rfl | rfl;·exact .own 0 ab (λ_ _=>rfl) (λ_=>rfl) rfl
  ·exact .own 1 ab (λ_ _=>rfl) (λ_=>rfl) rfl
  ·exact .own 2 ab (λ_ _=>rfl) (λ_=>rfl) rfl
  ·exact .own 3 ab (λ_ _=>rfl) (λ_=>rfl) rfl
  ·exact .own 4 ab (λ_ _=>rfl) (λ_=>rfl) rfl
  ·exact .own 5 ab (λ_ _=>rfl) (λ_=>rfl) rfl
  ·exact .own 6 ab (λ_ _=>rfl) (λ_=>rfl) rfl
  ·exact .own 7 ab (λ_ _=>rfl) (λ_=>rfl) rfl
  ·exact .own 8 ab (λ_ _=>rfl) (λ_=>rfl) rfl
  ·exact .own 9 ab (λ_ _=>rfl) (λ_=>rfl) rfl
  ·exact .own 10 ab (λ_ _=>rfl) (λ_=>rfl) rfl
  ·exact .own 11 ab (λ_ _=>rfl) (λ_=>rfl) rfl
  ·exact .own 12 ab (λ_ _=>rfl) (λ_=>rfl) rfl
  ·exact .own 13 ab (λ_ _=>rfl) (λ_=>rfl) rfl
  ·exact .own 14 ab (λ_ _=>rfl) (λ_=>rfl) rfl
  ·exact .own 15 ab (λ_ _=>rfl) (λ_=>rfl) rfl
  ·exact .own 16 ab (λ_ _=>rfl) (λ_=>rfl) rfl
  ·exact .own 17 ab (λ_ _=>rfl) (λ_=>rfl) rfl
  ·exact .own 18 ab (λ_ _=>rfl) (λ_=>rfl) rfl
  ·exact .own 19 ab (λ_ _=>rfl) (λ_=>rfl) rfl
  ·exact .own 20 ab (λ_ _=>rfl) (λ_=>rfl) rfl
  ·exact .own 21 ab (λ_ _=>rfl) (λ_=>rfl) rfl
  ·exact .st rfl
  ·exact .ie rfl
  ·exact .ip rfl
theorem tK (hz:w.length=22) (hl:∀ j,U (w.getD j 0)) (a:bD 22 w) (n x:Int) (hx:U x) (h:dB n):bD 22 (cg w n x):=by
 have d:mst (w.getD 0 0)=w.getD 0 0:=T5 (eI a 0 ab);have e:A5 .and .u64 (w.getD 9 0) 2730=w.getD 9 0:=T5 (eI a 9 ab);cases S8 n h with
 | fixed b=>unfold cg;rw [JZ8 b];exact a
 | st b =>subst b;show bD 22 (w.set 0 (iW (w.getD 0 0) 786722 x));refine cJ w hz a 0 ab _ ?_;show (mst (iW (w.getD 0 0) 786722 x)==iW (w.getD 0 0) 786722 x);rw [PJ _ _ (hl 0) d];exact beq_self_eq_true _
 | ie b =>subst b;show bD 22 (w.set 3 (bq 3 (iW (w.getD 3 0) (w.getD 2 0) x)));exact cJ w hz a 3 ab _ (oQ _ (ah _ _ _) 3 ab ab ab)
 | ip b =>subst b;show bD 22 (w.set 9 (iW (w.getD 9 0) (A5 .and .u64 (w.getD 2 0) 2) x));refine cJ w hz a 9 ab _ ?_;show (A5 .and .u64 (iW (w.getD 9 0) (A5 .and .u64 (w.getD 2 0) 2) x) 2730==iW (w.getD 9 0) (A5 .and .u64 (w.getD 2 0) 2) x);rw [Hi _ _ _ e (λi f c=>by rw [aA,H8] at c;exact WO i f c.2)];exact beq_self_eq_true _
 | own k g m p o=>rw [m];exact JW w hz hl a k g x hx
theorem jJ (hl:∀ j,U (w.getD j 0)) (k:Nat) (v:Int) (hv:U v) (j:Nat):U ((w.set k v).getD j 0):=by
 by_cases e:k=j
 ·subst e;by_cases a:k<w.length;·rw [ss w k v a];exact hv
  ·rw [List.set_eq_of_length_le ab];exact hl k
 ·rw [j7 w k j v e];exact hl j
theorem Hj (h:U c):U (bq a c):=by
 unfold bq;split;·exact RE c
 ·split;·exact ah _ _ _
  ·split;·exact ah _ _ _
   ·split;·exact ah _ _ _
    ·split;·exact ah _ _ _
     ·split;·exact ah _ _ _
      ·split;·exact ah _ _ _
       ·split;·rw [cT];exact ah _ _ _
        ·split;·exact ah _ _ _
         ·exact h
theorem Hk (hl:∀ j,U (w.getD j 0)) (n x:Int) (hx:U x) (j:Nat):U ((cg w n x).getD j 0):=by
 unfold cg;split;·exact hl j
 ·split;·exact jJ w hl _ _ (ah _ _ _) j
  ·split;·exact jJ w hl _ _ (Hj _ _ (ah _ _ _)) j
   ·split;·exact jJ w hl _ _ (ah _ _ _) j
    ·unfold fZ;split;·exact jJ w hl _ _ (ah _ _ _) j
     ·split
      ·split;·exact jJ w hl _ _ hx j
       ·exact hl j
      ·split;·exact jJ w hl _ _ (Fh w _ (Hj _ _ hx) 4) j
       ·split
        ·split;·exact hl j
         ·exact jJ w hl _ _ (Hj _ _ hx) j
        ·exact jJ w hl _ _ (Hj _ _ hx) j
theorem PL (hl:∀ j,U (l.getD j 0)) (b:bD 22 l) (j:Nat) (k:17<=j) (i:j<=20):0<=l.getD j 0/\l.getD j 0<18014398509481984:=by
 have h:=eI b j ab;have c:=hl j;have e:A5 .and .u64 (l.getD j 0) 18014398509481983=l.getD j 0:=by have a:j=17\/j=18\/j=19\/j=20:=ab;have d:(A5 .and .u64 (l.getD j 0) 18014398509481983==l.getD j 0):=(by rcases a with rfl|rfl|rfl|rfl<;>exact h);simpa using d
 have f:=cE (l.getD j 0) 54 c.1 c.2 ab;have g:(2:Int)^54-1=18014398509481983:=bc
 rw [g,e] at f;have p54:(2:Int)^54=18014398509481984:=bc
 rw [p54] at f;refine ⟨c.1,?_⟩;have:=Int.emod_lt_of_pos (l.getD j 0) (show (0:Int)<18014398509481984 by omega);omega
theorem MI:∀ n k,fh a n k<=n+k:=by
 intro n;induction n with
 | zero=>intro k;show k<=0+k;omega
 | succ n b =>
   intro k;unfold fh;split;·have:=b (k+1);omega
   ·omega
theorem Hm (hm:e<=54) (i:Nat) (a:i<64):bt (Uz.wrap (Uz.wrap (2^e)-1)) i=decide (i<e):=by
 have k:∀ e,e<=54->∀ i,i<64->bt (Uz.wrap (Uz.wrap (2^e)-1)) i=decide (i<e):=cp
 exact k e hm i a
theorem Fl (h:U a) (m:Nat) (hm:m<=54):A5 .andNot .u64 a (Uz.wrap (Uz.wrap (2^m)-1))=a/2^m*2^m:=by
 have k:(0:Int)<2^m:=S2 ab;have f:=mq a h m;have g:a/2^m*2^m<=a:=Int.ediv_mul_le _ ab;have c:0<=a/2^m*2^m:=Int.mul_nonneg f.1 ab;have j:Uz.wrap (a/2^m*2^m)=a/2^m*2^m:=by have:=h.2;rw [P2];exact Int.emod_eq_of_lt c ab
 refine bF _ _ (ah _ _ _) ⟨c,by have:=h.2;omega⟩ λi e=>?_;rw [aB _ _ _ e,Hm m hm i e,<- j,nC _ f,jF a h];by_cases b:m<=i;·have d:decide (i<m)=false:=decide_eq_false ab;rw [d,decide_eq_true b,decide_eq_true e,Nat.sub_add_cancel b];simp
 ·have d:decide (i<m):=decide_eq_true ab;rw [d,decide_eq_false b];simp
theorem JX {w':A6} {o:Obj} (h:(n.alloc o).grownBy w' (Value.slice (some ⟨n.heap.size,0,none⟩) 0 0).ownBlock):Bw n w':=by
 refine Below.grown (bal _ _) h ?_ ?_;·simp
 ·intro k a;simp [Value.ownBlock] at a;omega
theorem rj (x:Int) (h:U x) (i:Nat):aw x i=if bt x i=true then 1 else 0:=by
 have b:∀ i,i<64->∀ (p o:Bool),((if i=0 then p else o)&&bt 1 i)=bt (if p=true then 1 else 0) i:=cp
 unfold aw;have e:∀ y:Int,A5 .and .u64 y 1=if bt y 0=true then 1 else 0:=by
  intro y;refine bF _ _ (ah _ _ _) (by split<;>(constructor<;>decide)) λj c=>?_;rw [aA,<- b j c (bt y 0) (bt y j)];by_cases a:j=0;·subst a;rfl
  ·rw [JZ9 a]
 rw [e,jF x h,N1]
theorem RG:∀ i,i<64->bt 64 i=decide (i=6):=by decide +kernel
theorem S9:∀ i,i<64->bt 128 i=decide (i=7):=by decide +kernel
theorem uD (e:g<64):bt (cW a c) g=(bt a g||decide (g=6)||((c==3)&&decide (g=7))):=by
 unfold cW;cases (c==3) with
 | true=>rw [JZ8 rfl,cC,cC,RG g e,S9 g e,I4]
 | false=>rw [JZ9 bc,cC,RG g e,I3,K1]
theorem jK (h:U a) (i:Nat) (kind:i<64) (e:i≠6) (b:i≠7):aw (cW a c) i=aw a i:=by rw [rj _ (mI a c),rj _ h,uD a c i kind];simp [e,b]
theorem Cy (e kind:Int) (h:U e) (k:Nat) (hk:8<=k):cW e kind/2^k=e/2^k:=by
 refine bF _ _ (mq _ (mI e kind) k) (mq _ h k) λi d=>?_;rw [jF _ (mI e kind),jF _ h];by_cases a:i+k<64;·rw [uD e kind _ a];have b:¬ i+k=6:=ab;have c:¬ i+k=7:=ab;simp [b,c]
 ·rw [uA _ _ ab,uA _ _ ab]
theorem JY (h:U a):cW (cW a c) c=cW a c:=by refine bF _ _ (mI _ _) (mI _ _) λi e=>?_;rw [uD _ c i e,uD a c i e];cases bt a i<;>cases decide (i=6)<;>cases ((c==3)&&decide (i=7))<;>rfl
theorem Ho (h:U a):A5 .and .u64 a 1=aw a 0:=by unfold aw;rw [Int.pow_zero,Int.ediv_one]
theorem Cz (h:U a):pQ (cW a c)=pQ a:=by unfold pQ;rw [Ho _ (mI a c),Ho _ h,jK a c h 0 ab ab ab,jK a c h 1 ab ab ab,jK a c h 2 ab ab ab];have:=Cy a c h 54 ab;rw [show ((2:Int)^54)=18014398509481984 from rfl] at this;rw [this]
theorem CD (h:U a):mG (cW a c)=mG a:=by unfold mG;rw [jK a c h 1 ab ab ab,jK a c h 3 ab ab ab]
theorem vZ (h:U a):fu (cW a c)=fu a:=by unfold fu;have:=Cy a c h 10 ab;rw [show ((2:Int)^10)=1024 from rfl] at this;rw [this]
theorem gU:eY a≠0:=by unfold eY;split<;>(try split)<;>decide
theorem iF:dI a≠0:=by unfold dI;split<;>(try split)<;>decide
theorem rk (p va kind e x:Int) (lv:Nat) (h:(du w p va kind e x lv).code=0): nE e lv=false/\hZ w kind e=false/\ic w p kind e=false/\(((cW e kind != e)/\aJ w 1 x (bu x 8) 3 4 0/\du w p va kind e x lv=⟨gS e va lv,0,true,x,cW e kind⟩)\/((cW e kind != e)=false/\du w p va kind e x lv=⟨gS e va lv,0,false,0,0⟩)):=by
 unfold du at h ⊢;cases a:nE e lv with
 | true=>rw [a,JZ8 rfl] at h;exact absurd h (gU kind)
 | false =>
   rw [a,JZ9 bc] at h;cases b:hZ w kind e with
   | true=>rw [b,JZ8 rfl] at h;exact absurd h (gU kind)
   | false =>
     rw [b,JZ9 bc] at h;cases c:ic w p kind e with
     | true=>rw [c,JZ8 rfl] at h;exact absurd h (gU kind)
     | false =>
       rw [c,JZ9 bc] at h;refine ⟨rfl,rfl,rfl,?_⟩;cases d:(cW e kind != e) with
       | true =>
         rw [d,JZ8 rfl] at h;cases f:aJ w 1 x (bu x 8) 3 4 0 with
         | true=>exact .inl ⟨rfl,rfl,rfl⟩
         | false=>rw [f,JZ9 bc] at h;exact absurd h (iF kind)
       | false=>exact .inr ⟨rfl,rfl⟩
theorem wg (he:U t) (h:(du w a c s t b g).code=0):du w a c s (cW t s) b g=⟨gS t c g,0,false,0,0⟩:=by
 obtain ⟨p,x,va,_⟩:=rk w a c s t b g h;have d:nE (cW t s) g=false:=by unfold nE at p ⊢;rw [vZ t s he];exact p
 have e2:hZ w s (cW t s)=false:=by unfold hZ at x ⊢;rw [jK t s he 1 ab ab ab,jK t s he 2 ab ab ab,jK t s he 3 ab ab ab];exact x
 have e3:ic w a s (cW t s)=false:=by unfold ic at va ⊢;rw [jK t s he 4 ab ab ab];exact va
 have e4:(cW (cW t s) s != cW t s)=false:=by rw [JY t s he];simp
 have e5:gS (cW t s) c g=gS t c g:=by unfold gS;rw [vZ t s he]
 unfold du;rw [d,e2,e3,e4,e5];rfl
theorem UJ (hz:∀ i,0<=w.getD i 0/\w.getD i 0<=255) (x:Int):U (fP w x):=uM w hz 8 _ ab
theorem UK (T:a%8=0):bL a c g%8=0:=by unfold bL;generalize A5 .and .u64 (c/2^(12+9*g)) 511=z;rw [P2,P2];omega
theorem MJ:Uz.wrap (a*4096)%8=0:=by rw [P2];omega
theorem CF (hz:w.length=e) (x v:Int) (hx:gQ e x 8) (hv:U v):fP (kU w (x-2147483648).toNat v 8) x=v:=by have h:=zQ hx;unfold fP;rw [SA w _ 8 v ab];have:=hv.1;have:=hv.2;omega
theorem PM (hx:gQ e a 8) (hy:gQ e c 8) (b:a%8=0) (y:c%8=0) (x:a≠c):fP (kU w (a-2147483648).toNat s 8) c=fP w c:=by have h:=zQ hx;have d:=zQ hy;unfold fP;exact EH w _ _ 8 s ab
theorem JZ (zs:List Int) (n:Nat) (hz:zs.length=n) (hb:∀ i,0<=zs.getD i 0/\zs.getD i 0<=255) (l:List Int) (p va kind:Int):∀ a T,T%8=0->(bT zs n l p va kind a T).code=0->(bT zs n l p va kind a T).marked=true -> gQ n (bT zs n l p va kind a T).at_ 8/\(bT zs n l p va kind a T).at_%8=0/\mG (fP zs (bT zs n l p va kind a T).at_)=false /\ bT (kU zs ((bT zs n l p va kind a T).at_-2147483648).toNat (bT zs n l p va kind a T).entry 8) n l p va kind a T=⟨(bT zs n l p va kind a T).addr,0,false,0,0⟩:=by
 intro a;induction a with
 | zero =>
   intro T q b g;have E:=gM zs n l p va kind 0 T;have f:=UK T va 0 q;have m:=UJ zs hb (bL T va 0);generalize w:bT zs n l p va kind 0 T=W at *;cases c:gQ n (bL T va 0) 8 with
   | false=>rw [c,JZ9 bc] at E;subst E;exact absurd b (iF kind)
   | true =>
     rw [c,JZ8 rfl] at E;cases h:aJ l 1 (bL T va 0) (bu (bL T va 0) 8) 2 4 0 with
     | false=>rw [h,JZ9 bc] at E;subst E;exact absurd b (iF kind)
     | true =>
       rw [h,JZ8 rfl] at E;cases j:pQ (fP zs (bL T va 0)) with
       | true=>rw [j,JZ8 rfl] at E;subst E;exact absurd b (gU kind)
       | false =>
         rw [j,JZ9 bc] at E;cases d:mG (fP zs (bL T va 0)) with
         | true =>have s:kY (fP zs (bL T va 0)) 0:=rfl;rw [d,JZ8 rfl,s,JZ8 rfl] at E;subst E;exact absurd b (gU kind)
         | false =>
           rw [d,JZ9 bc] at E;rw [E] at b g;obtain ⟨_,_,_,⟨_,_,k⟩|⟨_,k⟩⟩:=rk _ _ _ _ _ _ _ b;·rw [E,k];refine ⟨c,f,d,?_⟩;rw [gM,c,JZ8 rfl,h,JZ8 rfl,CF zs n hz _ _ c (mI _ _),Cz _ kind m,j,JZ9 bc,CD _ kind m,d,JZ9 bc];exact wg _ _ _ _ _ _ _ m b
           ·rw [k] at g;cases g
 | succ a y =>
   intro T q b g;have E:=gM zs n l p va kind (a+1) T;have f:=UK T va (a+1) q;have m:=UJ zs hb (bL T va (a+1));rw [show a+1-1=a from rfl] at E;generalize w:bT zs n l p va kind (a+1) T=W at *;cases c:gQ n (bL T va (a+1)) 8 with
   | false=>rw [c,JZ9 bc] at E;subst E;exact absurd b (iF kind)
   | true =>
     rw [c,JZ8 rfl] at E;cases h:aJ l 1 (bL T va (a+1)) (bu (bL T va (a+1)) 8) 2 4 0 with
     | false=>rw [h,JZ9 bc] at E;subst E;exact absurd b (iF kind)
     | true =>
       rw [h,JZ8 rfl] at E;cases j:pQ (fP zs (bL T va (a+1))) with
       | true=>rw [j,JZ8 rfl] at E;subst E;exact absurd b (gU kind)
       | false =>
         rw [j,JZ9 bc] at E;cases d:mG (fP zs (bL T va (a+1))) with
         | true =>
           rw [d,JZ8 rfl] at E;cases o:kY (fP zs (bL T va (a+1))) (a+1) with
           | true=>rw [o,JZ8 rfl] at E;subst E;exact absurd b (gU kind)
           | false =>rw [o,JZ9 bc] at E;rw [E] at b g;obtain ⟨u,v,t,x⟩:=y _ (MJ _) b g;rw [E];refine ⟨u,v,t,?_⟩;have r:(bT zs n l p va kind a (Uz.wrap (fu (fP zs (bL T va (a+1)))*4096))).at_≠bL T va (a+1):=(by intro e;rw [e,d] at t;cases t);rw [gM _ _ _ _ _ _ (a+1),c,JZ8 rfl,h,JZ8 rfl,PM zs n _ _ _ u c v f r,j,JZ9 bc,d,JZ8 rfl,o,JZ9 bc];exact x
         | false =>
           rw [d,JZ9 bc] at E;rw [E] at b g;obtain ⟨_,_,_,⟨_,_,k⟩|⟨_,k⟩⟩:=rk _ _ _ _ _ _ _ b;·rw [E,k];refine ⟨c,f,d,?_⟩;rw [gM,c,JZ8 rfl,h,JZ8 rfl,CF zs n hz _ _ c (mI _ _),Cz _ kind m,j,JZ9 bc,CD _ kind m,d,JZ9 bc];exact wg _ _ _ _ _ _ _ m b
           ·rw [k] at g;cases g
theorem wh (kind:Int):∀ p T,p<=2 -> ((bT w e y a c kind p T).code=0/\(∃ n k,k<=2/\(bT w e y a c kind p T).addr=gS n c k)/\((bT w e y a c kind p T).marked=false->bT w e y a c kind p T=⟨(bT w e y a c kind p T).addr,0,false,0,0⟩)) \/ ((bT w e y a c kind p T).code≠0/\(bT w e y a c kind p T).addr=0/\(bT w e y a c kind p T).marked=false):=by
 have va:∀ n x k,k<=2->((du y a c kind n x k).code=0/\(∃ j i,i<=2/\(du y a c kind n x k).addr=gS j c i)/\((du y a c kind n x k).marked=false->du y a c kind n x k=⟨(du y a c kind n x k).addr,0,false,0,0⟩))\/((du y a c kind n x k).code≠0/\(du y a c kind n x k).addr=0/\(du y a c kind n x k).marked=false):=by
  intro n x k g;by_cases b:(du y a c kind n x k).code=0
  ·obtain ⟨_,_,_,⟨_,_,f⟩ | ⟨_,f⟩⟩:=rk _ _ _ _ _ _ _ b;·rw [f];exact .inl ⟨rfl,⟨n,k,g,rfl⟩,λh=>ni⟩
   ·rw [f];exact .inl ⟨rfl,⟨n,k,g,rfl⟩,λ_=>rfl⟩
  ·refine .inr ⟨b,?_⟩;unfold du at b ⊢;split;·exact ⟨rfl,rfl⟩
   ·rename_i m;rw [JZ9 m] at b;split;·exact ⟨rfl,rfl⟩
    ·rename_i o;rw [JZ9 o] at b;split;·exact ⟨rfl,rfl⟩
     ·rename_i q;rw [JZ9 q] at b;split
      ·rename_i d;rw [JZ8 d] at b;split;·rename_i r;rw [JZ8 r] at b;exact absurd rfl b
       ·exact ⟨rfl,rfl⟩
      ·rename_i d;rw [JZ9 d] at b;exact absurd rfl b
 intro p;induction p with
 | zero =>
   intro T _;rw [bT];split
   ·split
    ·split;·exact .inr ⟨gU kind,rfl,rfl⟩
     ·split;·exact .inr ⟨gU kind,rfl,rfl⟩
      ·exact va _ _ _ ab
    ·exact .inr ⟨iF kind,rfl,rfl⟩
   ·exact .inr ⟨iF kind,rfl,rfl⟩
 | succ p t =>
   intro T s;rw [bT];split
   ·split
    ·split;·exact .inr ⟨gU kind,rfl,rfl⟩
     ·split
      ·split;·exact .inr ⟨gU kind,rfl,rfl⟩
       ·exact t _ ab
      ·exact va _ _ _ ab
    ·exact .inr ⟨iF kind,rfl,rfl⟩
   ·exact .inr ⟨iF kind,rfl,rfl⟩
theorem PN:∀ i,i<64->bt 4095 i=decide (i<12):=by decide +kernel
theorem MK (hk:g<=2):A5 .and .u64 (gS a c g) 4095=A5 .and .u64 c 4095:=by
 refine bF _ _ (ah _ _ _) (ah _ _ _) λi e=>?_;unfold gS Jy;rw [aA,aA,cC,aB _ _ _ e,aA,Hm _ ab i e,PN i e];by_cases h:i<12;·have b:i<12+9*g:=ab;simp [h,b]
 ·simp [h]
theorem Fp (hz:w.length=e) (hb:∀ i,0<=w.getD i 0/\w.getD i 0<=255) (l:List Int) (p va kind:Int): ((cj w e l p va kind).code=0/\cj (bz w (cj w e l p va kind)) e l p va kind=⟨(cj w e l p va kind).addr,0,false,0,0⟩/\A5 .and .u64 (cj w e l p va kind).addr 4095=A5 .and .u64 va 4095) \/ ((cj w e l p va kind).code≠0/\(cj w e l p va kind).addr=0/\(cj w e l p va kind).marked=false):=by
 have E:∀ c,cj c e l p va kind=if ((p==3)||(l.getD 15 0/1152921504606846976==0))=true then ⟨va,0,false,0,0⟩ else if (ay 39 va != va)=true then ch kind else bT c e l p va kind 2 (n9 l):=λc=>rfl
 rw [E w];cases f:((p==3)||(l.getD 15 0/1152921504606846976==0)) with
 | true =>rw [JZ8 rfl];refine .inl ⟨rfl,?_,rfl⟩;rw [E,f,JZ8 rfl]
 | false =>
   rw [JZ9 bc];cases g:(ay 39 va != va) with
   | true=>rw [JZ8 rfl];exact .inr ⟨gU kind,rfl,rfl⟩
   | false =>
     rw [JZ9 bc];rcases wh w e l p va kind 2 (n9 l) ab with ⟨d,⟨n,k,o,m⟩,b⟩|h
     ·refine .inl ⟨d,?_,by rw [m];exact MK n va k o⟩;rw [E,f,JZ9 bc,g,JZ9 bc];cases a:(bT w e l p va kind 2 (n9 l)).marked with
      | true =>have j:n9 l%8=0:=MJ _;obtain ⟨_,_,_,q⟩:=JZ w e hz hb l p va kind 2 (n9 l) j d a;unfold bz;rw [a,JZ8 rfl];exact q
      | false =>unfold bz;rw [a,JZ9 bc];exact b a
     ·exact .inr h
structure MW (M:MV):Prop where
 cs:∀ j,U (M.cs.getD j 0)
 ram:∀ y ∈ M.ram,(T4 .u8 y).wf
 xs:∀ y ∈ M.d.xs,(T4 .u8 y).wf
 ys:∀ y ∈ M.d.ys,(T4 .u8 y).wf
theorem Hp {y:Int} (h:(T4 .u8 y).wf):0<=y/\y<=255:=by simpa [Lit.wf,R6,R7,R4,R5] using h
theorem Al {y:Int} (h:0<=y/\y<=255):(T4 .u8 y).wf:=by simpa [Lit.wf,R6,R7,R4,R5] using h
theorem ML (h:∀ y ∈ w,(T4 .u8 y).wf) (f:Nat) (x:Int) (k:Nat):∀ y ∈ kU w f x k,(T4 .u8 y).wf:=λy a=>Al (KU w (λz b=>Hp (h z b)) f x k y a)
theorem Am (h:∀ y ∈ w,(T4 .u8 y).wf) (F:Fd):∀ y ∈ bz w F,(T4 .u8 y).wf:=by
 unfold bz;split;·exact ML w h _ _ _
 ·exact h
theorem aN {M:MV} (h:dJ M):M.cs.length=22/\bD 22 M.cs/\bZ M.pr/\bf M.ram.length/\lA M.d.xs.length M.d.ys.length M.d.ir/\lR M:=by unfold dJ at h;simp only [H8] at h;obtain ⟨⟨⟨⟨⟨⟨_,_⟩,c⟩,d⟩,e⟩,_⟩,f⟩:=h;have a:=kC c;have b:=c;unfold bm at b;rw [H8] at b;rw [a] at b;exact ⟨a,b.1,b.2,d,e,f⟩
theorem UL (h:U a):a/2048%4=(if bt a 11=true then 1 else 0)+2*(if bt a 12=true then 1 else 0):=by
 have b:aw a 11=a/2^11%2^1:=by have s:=mq a h 11;exact cE (a/2^11) 1 s.1 s.2 ab
 have e2:aw a 12=a/2^12%2^1:=by have s:=mq a h 12;exact cE (a/2^12) 1 s.1 s.2 ab
 have c:=rj a h 11;have d:=rj a h 12;rw [<- c,<- d,b,e2];omega
theorem CG (s:U a) (c:fL 0 a):bZ (wrap64 (A5 .and .u64 (a/2048) 3)):=by
 have g:mst a=a:=by unfold fL bq at c;simpa using c
 have b:=((sp _ s).1 g).2;have d:=mq a s 11;have f:=cE (a/2^11) 2 d.1 d.2 ab;have e:A5 .and .u64 (a/2048) 3=a/2048%4:=f;rw [e,UL a s];revert b;cases bt a 11<;>cases bt a 12<;>intro b;·decide +kernel
 ·cases b
 ·decide +kernel
 ·decide +kernel
theorem wi (c:U (l.getD 0 0)) (a:bD 22 l) {p:Int} (d:bZ p) (kind:Int):bZ (gg l p kind):=by
 unfold gg;split;·have b:fL 0 (l.getD 0 0):=(by unfold bD fH at a;simp only [H8] at a;exact a.2.1);exact CG _ c b
 ·exact d
theorem uE (h:U c):U (cj w e y a c s).addr:=by
 unfold cj;split;·exact h
 ·split;·exact ⟨by show (0:Int)<=0;omega,by show (0:Int)<_;omega⟩
  ·rcases wh w e y a c s 2 (n9 y) ab with ⟨_,⟨n,k,_,p⟩,_⟩|⟨_,p,_⟩;·rw [p];exact ah _ _ _
   ·rw [p];exact ⟨ab,ab⟩
theorem Fq (x:1<=c) (b:c<=8):bu a c=Uz.wrap (Uz.wrap (a+c)-1):=by unfold bu;rw [show Uz.wrap c=c by rw [P2];omega]
theorem fF (w:A6) (hz:y.length=e) (hs:Sl .u64 w k y) (hl:∀ j,U (y.getD j 0)): CB 33 #[.slice k e p,.i a] w (.bool (bm e y a)):=by
 have f:Hid (CB 49 #[.slice k e p] w (.bool (bD e y))):=by have:=lS k e p y w hz hs hl;rw [yJ e y hl] at this;exact this
 have g:Hid (∀ w,CE 50 #[.i a] w (.bool (bZ a))):=vT a;have F:Hid (bm e y a=(bD e y&&bZ a)):=(rfl:bm e y a=_);clear hs hz hl;generalize bD e y=q at *;generalize bZ a=r at *;cases q with
 | false =>go_enter func33,ntmps33;go_wp2_with fail;refine f.out.mono ?_;rintro cap m ⟨rfl,c⟩;go_wp2_with fail;go_ret;exact ⟨bh,c⟩
 | true =>go_enter func33,ntmps33;go_wp2_with fail;refine f.out.mono ?_;rintro cap m ⟨rfl,c⟩;go_wp2_with fail;refine (g.out _).mono ?_;rintro cap o ⟨rfl,d⟩;subst d;go_wp2_with fail;go_ret;exact ⟨bh,c⟩
theorem PO (x:List Int) (w:A6) (hx:x.length=e) (hs:Sl .u64 w k x): CE 32 #[.slice k e p] w (.bool (gA e x)):=by
 by_cases h:e=32;·subst h;obtain ⟨b,f,rfl,m,g⟩:=hs 0 ab;have F:Hid (gA 32 x=(x.getD 0 0==0)):=(by show _=_;unfold gA;simp);have j:w.cell? ⟨b,f,none⟩=some (.u (x.getD 0 0)):=g;generalize gA 32 x=V at *;generalize x.getD 0 0=y at *;clear hs hx g;go_enter func32,ntmps32;exact a09
 ·have F:Hid (gA e x=false):=(by show _=_;unfold gA;rw [decide_eq_false h];rfl);have d:((e:Int)==32)=false:=bv;generalize gA e x=V at *;clear hs hx h;go_enter func32,ntmps32;exact a09
theorem Fs:G1 prog 31 #[.u a,.i 0,.i 2] f λe b=>e=.returned (.u (A5 .and .u64 a 3))/\b=f.drew:=by
 go_enter func31,ntmps31;go_wp2_with fail;go_region;all_goals go_wp2_with fail
 all_goals go_ret
 all_goals exact ⟨rfl,rfl⟩
theorem su (D:DV) (a1:Option F3) (c1:Nat) (a2:Option F3) (c2:Nat) (w:A6) (b:D.xs.length<=1048576) (c:D.ys.length<=1048576):CB 36 #[.agg #[.u D.t,.u D.cm,.bool D.so,.slice a1 D.xs.length c1,.slice a2 D.ys.length c2,.i D.ir]] w (.u (hO D)):=by have g:Hid (∀ w,CB 51 #[.agg #[.u D.t,.u D.cm,.bool D.so,.slice a1 D.xs.length c1,.slice a2 D.ys.length c2,.i D.ir]] w (.u (hO D))):=λw=>xG D a1 c1 a2 c2 w b c;have j:∀ o,Bw w (w.alloc o):=λo=>(T6 _ _).alloc (L6 _) o;generalize hO D=v at *;clear b c;go_enter func36,ntmps36;go_wp2_with fail;refine (g.out _).mono ?_;rintro e l ⟨rfl,d⟩;go_wp2_with fail;go_ret;exact ⟨rfl,aa (j _) d⟩
theorem dZ (M:MV) (A:MA) (w:A6) (hl:iR M) (hs:oe w M A) (R:∀ j,U (M.cs.getD j 0)):CB 11 #[.agg (ak M A)] w (.bool (dJ M)):=by
 have s:=λW (_:Bw w W)=>(Fs M.pc W).mono λe w'' ⟨T,V⟩=>And.intro T (show Bw W w'' by rw [V];exact (T6 _ _).drew);have z:=λW g=>PO A.ax M.x.length A.cx _ W rfl (hs.x.below g);have y:=λW g=>fF A.ac M.cs.length A.cc _ M.pr W rfl (hs.cs.below g) R;have P:=λW (_:Bw w W)=>fx A.ar M.ram.length A.cr W hl.ram;have O:=λW (_:Bw w W)=>g6 M.d.t M.d.cm M.d.so A.ai M.d.xs.length A.ci A.ao M.d.ys.length A.co M.d.ir W hl.xs hl.ys;have Q:=λW (_:Bw w W)=>su M.d A.ai A.ci A.ao A.co W hl.xs hl.ys;have u:dJ M=((A5 .and .u64 M.pc 3==0)&&gA M.x.length M.x&&bm M.cs.length M.cs M.pr&&bf M.ram.length&&lA M.d.xs.length M.d.ys.length M.d.ir&&(M.hl||(M.hd==0))&&(A5 .and .u64 (M.cs.getD 9 0) 2184==hO M.d)):=by unfold dJ lR hO;cases lA M.d.xs.length M.d.ys.length M.d.ir<;>simp
 rw [u];clear u;generalize hO M.d=X at *;generalize r:(A5 .and .u64 M.pc 3==0)=p;generalize gA M.x.length M.x=q at *;generalize K:bm M.cs.length M.cs M.pr=B at *;generalize bf M.ram.length=C at *;generalize lA M.d.xs.length M.d.ys.length M.d.ir=D at *;generalize L:(M.hd==0)=E;generalize N:(A5 .and .u64 (M.cs.getD 9 0) 2184==X)=F;cases B with
 | false =>
   refine br (S:=Bs w [(ak M A,29)]) [(ak M A,29)] func11 ?_;cases p;case' true=>cases q
   all_goals exact bn (t:=2) (v:=.bool false) Bs.eng {eq:=[(6,an r)],cv:=[(5,fM s),(10,nt z),(17,fM y)]} 300 (Bs.start _ _) (λn h=>⟨di,h.2⟩)
 | true =>
   have J:=kC K;obtain ⟨H,I,f,i,k⟩:=hs.cs 9 ab;obtain ⟨pc,x,m,b,a,d,l,c,o⟩:=M;dsimp only at *;refine br (S:=Bs w [(ak ⟨pc,x,m,b,a,d,l,c,o⟩ A,29)]) [(ak ⟨pc,x,m,b,a,d,l,c,o⟩ A,29)] func11 ?_;have G:∀ W,Bs w [(ak ⟨pc,x,m,b,a,d,l,c,o⟩ A,29)] W->W.cell? ⟨H,I+9,none⟩=some (.u (b.getD 9 0)):=λW h=>(h.2.cell (by exact i)).trans k;cases p;case' true =>cases q;case' true =>cases C;case' true =>cases D;case' true=>cases c<;>cases E<;>cases F
   all_goals exact bn (t:=2) (v:=.bool _) Bs.eng {eq:=[(6,an r),(35,an L),(47,an N)],ov:=[(41,kW b.length A.cc .i64 9 f ab underlying25 ba),(42,iP _ _ underlying24 rfl G)],cv:=[(5,fM s),(10,nt z),(17,fM y),(22,nt P),(27,fM O),(46,fM Q)]} 300 (Bs.start _ _) (λn h=>⟨rfl,h.2⟩)
