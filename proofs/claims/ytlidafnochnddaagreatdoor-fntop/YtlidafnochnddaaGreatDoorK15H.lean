/- Own lemmas. -/
import Derived.Test.YtlidafnochnddaaGreatDoorAut
import Derived.Test.YtlidafnochnddaaGreatDoorK08
import Derived.Test.YtlidafnochnddaaGreatDoorK13
import Derived.Deep.RegionWith
set_option maxRecDepth 100000
set_option maxHeartbeats 6400000
namespace Go.Proofs.YtlidafnochnddaaGreatDoor
open Go.RowKit Tryz
open IntKind renaming u64->Uz
open Below renaming refl->T0
open Bool renaming false_eq_true->R4,and_eq_true->R5,and_false->S1,true_and->S2,or_false->S5
open Go renaming bits->A0,World->A5,Addr->A6,Value->F0,TypeId->F3
open IntKind renaming wrap_u64->G3
open List renaming mem_cons->H1,mem_append->H2,pairwise_append->H3,not_mem_nil->H5,mem_append_right->H8,filterMap_append->I4,mem_append_left->I5,range_succ->K0,getElem?_eq_getElem->K1,pairwise_cons->K4,find?_eq_none->L4,append_assoc->L5
open Nat renaming le_refl->M5,zero_add->M7,eq_zero_or_pos->N1,lt_or_ge->P2
open Value renaming int->L6,slice->L7
set_option linter.unusedVariables false
variable {s w:Nat} {x l:A5} {b a:List FRow} {p:List Int} {k r:Int} {B:F3} {M L:Array F0} {A:MV} {E:MA} {D:Type} (t:MV) (c:MA) (d:List Int) (g:Int) (m:A5) (y:DV) (T:Option A6) (f j:Nat) (n:List Int) (o:Option A6) (Q:Nat) (z:A5) (C:Bool) (F:Int)
theorem yT {r:Array Oper} {rest:List Oper} {o:Oper} {a:Act} {Q:Exit->Act->A5->Prop} (p:o.guard=none) (s w:Operand) (I:o.op=.call {callee:=.builtin .append,args:=#[s,w],argTypes:=#[31,31]}) (base g:Nat) (J:a.eval s=.slice (some ⟨g,0,none⟩) 0 0) (d:x.ownsRow base 32 1 (.slice (some ⟨g,0,none⟩) 0 0) 0 []) (ad:Option A6) (m c:Nat) (zs:List Int) (hx:a.eval w=.slice ad m c) (hz:zs.length=m) (hm:m<=1048576) (q:Sl .u64 x ad zs) (f:base<=x.heap.size) (h:∀ l n t,t.ownsRow base 32 1 (.slice l m n) m (zs.map (L6 .u64))->x.grownBy t (some g)->wpList prog r Q rest (a.put o.dst (.slice l m n)) t):wpList prog r Q (o::rest) a x:=by
 obtain ⟨L,H,B,C,D⟩:=info_parts zN;cases ad with
 | none =>
   have z:m=0:=by
    rcases N1 m with G|G;·exact G
    ·obtain ⟨b,F,e,_⟩:=q 0 aa;cases e
   subst z;have E:zs=[]:=List.length_eq_zero_iff.1 hz;subst E;refine wpList_plain p λK R=>?_;have T:=run_append_room_src (P:=prog) x 31 31 o.type 32 L underlying31 H g 0 0 0 (.slice none 0 c) 0 [] (Src.ofNil x underlying31 c) aa (λj i=>by simp at i) (λj i=>by simp at i);unfold Oper.wp execOp;simp only [I,resolve,invoke,builtin,Sem.run_bind,Sem.run_pure,Result.andThen_ok,List.map_toArray,List.map_cons,List.map_nil,J,hx,T];exact R _ _ (h _ _ x d ⟨rfl,rfl,rfl,M5 _,λ_ _ _=>rfl⟩)
 | some A =>
   have k:∀ j u,(zs.map (L6 .u64))[j]?=some u->x.cell? (A.add j)=some u:=by
    intro j u v;have i:j<zs.length:=by
     rcases P2 j zs.length with h|h;·exact h
     ·rw [List.getElem?_eq_none dd] at v;cases v
    obtain ⟨b,F,e,_,S⟩:=q j i;cases e;rw [FH,S];rw [List.getElem?_map,K1 i] at v;rw [List.getD_eq_getElem?_getD,K1 i];exact v
   refine wpList_append_own _ p s w 31 I base 32 L (.u 0) 1 8 underlying31 H B C D rfl ba _ 0 [] J d A m c (zs.map (L6 .u64)) hx (by rw [List.length_map,hz];omega) k (ints_oneCell _ _) ct aa f ?_;intro V t y O X;simp only [M7,List.nil_append] at y;have U:∃ l n,V=.slice l m n:=by
    rcases y.2 with ⟨e,N⟩|⟨W,cap,M,e,_⟩;·exact ⟨none,0,by rw [e,N]⟩
    ·exact ⟨_,_,e⟩
   obtain ⟨l,n,rfl⟩:=U;exact h l n t y O
theorem AT (hb:f<=m.heap.size) (o:Obj) (a:o=.cells #[] 32 (0,0)):(m.alloc o).ownsRow f 32 1 (.slice (some ⟨m.heap.size,0,none⟩) 0 0) 0 []:=by subst a;exact World.ownsRow_lit m #[] 0 hb ct rfl
structure My (w:A5) (r b:Nat) (T:F3) (rs cs:Array F0) (L:List FRow) (wr:A5):Prop where
 row:wr.heap[b]?=some (.cells cs T (0,0))
 res:wr.heap[r]?=some (.cells rs T (0,0))
 fam:bi (w.heap.size+1+1) wr.heap.size wr L
 below:Bw w wr
 hb:w.heap.size<=b/\b<w.heap.size+1+1
 hr:w.heap.size<=r/\r<w.heap.size+1+1
 ne:r≠b
theorem My.put {wr:A5} (h:My x s w B M L b wr) (i:Nat) (v:F0):My x s w B M (L.setIfInBounds i v) b (wr.setCell ⟨w,i,none⟩ v):=by have c:=h.hb;have d:=h.hr;have a:=h.ne;exact ⟨bj h.row i v,mt h.res ⟨w,i,none⟩ v a,(h.fam.set ⟨w,i,none⟩ v (.inl ca)).low (M5 _) kb,h.below.setCell (p:=⟨w,i,none⟩) ca v,c,d,a⟩
theorem My.lt {wr:A5} (h:My x s w B M L b wr):x.heap.size+1+1<=wr.heap.size:=by have a:=(Array.getElem?_eq_some_iff.1 h.row).1;have c:=(Array.getElem?_eq_some_iff.1 h.res).1;have d:=h.hb;have e:=h.hr;have f:=h.ne;omega
theorem My.add2 {wr:A5} (h:My x s w B M L b wr) (d q2:FRow) (c:bi wr.heap.size l.heap.size l [d,q2]) (hb:Bw wr l):My x s w B M L (b++[d,q2]) l:=by
 have i:=h.lt;have hF:=h.fam.below hb;have j:=hb.size;refine ⟨aA hb h.row,aA hb h.res,⟨λq a=>?_,λq a k e=>?_,H3.2 ⟨hF.ne,c.ne,λq a t g k e f=>?_⟩⟩,ae h.below hb,h.hb,h.hr,h.ne⟩
 ·rcases H2.1 a with a|a;·exact hF.own q a
  ·exact cS (c.own q a) aa
 ·rcases H2.1 a with a|a;·have:=hF.hi q a k e;omega
  ·exact c.hi q a k e
 ·have:=hF.hi q a k e;have:=((c.own t g).lt k f).1;omega
end Go.Proofs.YtlidafnochnddaaGreatDoor
