/- Own lemmas. -/
import Derived.Test.YtlidafnochnddaaGreatDoorAut
import Derived.Test.YtlidafnochnddaaGreatDoorK01
import Derived.WalkLawsBesides
import Derived.Laws.CopyOwn
import Derived.Great.BuildSlice
import Derived.Lib.IndexBytes
import Derived.WalkSpells
import Derived.Lib.ItoaLen
import Derived.Deep.AppendSrc
set_option maxRecDepth 100000
set_option maxHeartbeats 4000000
namespace Go.Proofs.YtlidafnochnddaaGreatDoor
open Go.RowKit Tryz
open Addr renaming add->QC6
open Below renaming refl->QC2,heap_setCell->QC3,heap_alloc->QC4,grown->QC5
open BitVec renaming ofInt->U1,toInt_ofInt->U2
open Bool renaming and_true->QD4,and_eq_true->QD5
open Go renaming Value->U3,World->U5,Addr->U6,heap_alloc_new->U7,TypeId->U8,wpList_plain->V0,bodyPost_ret->V4,Program->V5,IntKind->V6,run_loadVar_row->V7,info_parts->V8,execOp->V9,bits->X0,setRow_heap->X3,Oper->X5,wpList_store_rowTo->X6,Operand->X7,ofInt_u64->X8,run_underlying->X9,nat_join->Y0,growslice_fits->Y1,TypeDesc->Y2,setRow_other->Y3,ints_oneCell->Y4,run_arrayAt->Y5
open Instr renaming index->Z5,arrayAt->Z6
open Int renaming eq_ofNat_of_zero_le->T0,toNat_natCast->T2,pow_pos->T3,emod_lt_of_pos->T4,emod_nonneg->T5,ediv_nonneg->T6,emod_add_mul_ediv->T7,ediv_le_self->T8,pow_succ->T9,le_of_lt->U0
open IntKind renaming wrap_u64->Y6,signed->Y7,bits->Y8,min->Y9,max->Z0
open Lib renaming decDigits->QB9,decDigits_length->QC0,nDigits_small->QC1
open List renaming getElem?_eq_getElem->A0,mem_cons_of_mem->A5,getElem?_eq_none->A6,pairwise_cons->F0,mem_cons_self->F3,mem_cons->G3,mem_singleton->H1,getD->H2,pairwise_singleton->H3,mem_append->H5,pairwise_append->H8,length_map->I4,all_cons->I5,all_nil->K0,mem_append_right->K1,mem_append_left->K4,getElem?_set_ne->L4,getElem?_map->L5,not_mem_nil->L6,map_toArray->L7,all_append->M5,map_cons->M7,map_set->N1,map_nil->P2
open Lit renaming int->QB6
open Nat renaming le_refl->Z7,zero_add->Z8,eq_zero_or_pos->Z9,lt_or_ge->QA0,lt_of_lt_of_le->QA1,mul_comm->QA2,add_zero->QA3,mul_mod_left->QA4,and_two_pow_sub_one_eq_mod->QA5,pow_add->QA6,two_pow_pos->QA7,div_add_mod->QA8,testBit_mod_two_pow->QA9,pow_le_pow_right->QB0,mul_assoc->QB1,pow_succ->QB2,le_trans->QB3
open Oper renaming upon_value->QD0,wp->QD1
open Result renaming andThen_ok->QB7,andThen->QB8
open RowKit renaming wrap64->QC7
open Sem renaming run_bind->QB4,run_pure->QB5
open Value renaming int->R4,oneCell'->R5,string->S1,slice->S2,agg->S5
open World renaming cell?->QC8,setCell->QC9
open _root_.Array renaming getElem?_eq_some_iff->QD2,getElem?_eq_none->QD3
set_option linter.unusedVariables false
variable {w e:U5} {a n k b:Nat} {g:U8} {j:List Int} {s:List U3} {x:V6} {o:U3} {r:Option U6} {y:Int}
def Sl (k:V6) (w:U5) (a:Option U6) (zs:List Int):Prop :=
 ∀ i,i<zs.length->∃ b c,a=some ⟨b,c,none⟩/\b<w.heap.size/\w.cell? ⟨b,c+i,none⟩=some (.int k (zs.getD i 0))
theorem Sl.below (h:Sl x w r j) (hb:Bw w e):Sl x e r j:=by intro i f;obtain ⟨b,c,w',bZ,d⟩:=h i f;exact ⟨b,c,w',QA1 bZ hb.size,(hb.cell (by exact bZ)).trans d⟩
theorem aZ (h:w.ownsRow a g k o n s) (hb:Bw w e):e.ownsRow a g k o n s:=by
 obtain ⟨d,b⟩:=h;refine ⟨d,?_⟩;rcases b with b|⟨size,cap,w',i,f,c,r⟩;·exact Or.inl b
 ·have bZ:size<w.heap.size:=by
   rcases QA0 size w.heap.size with h|h;·exact h
   ·rw [QD3 h] at c;cases c
  exact Or.inr ⟨size,cap,w',i,f,by rw [hb.block size bZ];exact c,r⟩
theorem Ig {cap:Nat} (h:w.ownsRow a g k (.slice (some ⟨b,0,none⟩) n cap) n s):b<w.heap.size:=by
 obtain ⟨j,base⟩:=h;rcases base with ⟨base,_⟩|⟨i,e,f,d,size,c,r⟩;·cases base
 ·simp only [Value.slice.injEq,Option.some.injEq,Addr.mk.injEq,and_true,true_and] at d;obtain ⟨rfl,rfl⟩:=d;rcases QA0 b w.heap.size with h|h;·exact h
  ·rw [QD3 h] at c;cases c
theorem O2 (h:w.ownsRow a g 1 (.slice (some ⟨k,0,none⟩) n b) n (j.map (R4 x))):Sl x w (some ⟨k,0,none⟩) j:=by
 intro i cap;have e:n=j.length:=by have:=h.1;simp at this;omega
 refine ⟨k,0,rfl,Ig h,?_⟩;rw [Z8,h.cellAt i aa];simp [L5,A0 cap,H2]
theorem gj (h:w.ownsRow a g 1 (.slice r n k) n (j.map (R4 x))):Sl x w r j:=by
 rcases h.2 with ⟨cap,zs⟩|⟨f,b,d,c,l,m,e⟩;·intro i o;have:=h.1;simp at this;omega
 ·simp only [Value.slice.injEq,true_and] at c;obtain ⟨rfl,rfl⟩:=c;exact O2 h
def D6 (k:V6) (w:U5) (a:Option U6) (len cap:Nat) (zs:List Int):Prop :=
 (a=none/\len=0/\cap=0/\zs=[]) \/
 ∃ x,a=some x/\len<=cap/\cap<=maxLen/\zs.length=cap/\(∀ i,i<zs.length->w.cell? (x.add i)=some (.int k (zs.getD i 0)))/\∀ n ∈ zs,(QB6 k n).wf
theorem D6.sl (h:D6 x w r a n j): ∃ cap:List Int,cap.length=a/\Sl x w r cap/\(∀ y ∈ cap,(QB6 x y).wf)/\a<=maxLen:=by
 rcases h with ⟨rfl,rfl,rfl,rfl⟩ | ⟨k,rfl,len,s,t,c,m⟩;·exact ⟨[],rfl,λi l=>absurd l bh,bh,ct⟩
 ·refine ⟨j.take a,bb,?_,λy q=>m y (List.mem_of_mem_take q),aa⟩;intro i l;simp only [List.length_take] at l;obtain ⟨b,f,g⟩:=k;have d:g=none:=(by simpa [QC6] using World.cell?_spot (c 0 aa));subst d;have p:(⟨b,f,none⟩:U6).add i=⟨b,f+i,none⟩:=by
   by_cases o:i=0;·subst o;simp [QC6]
   ·simp [QC6,o]
  have zs:=c i aa;rw [p] at zs;refine ⟨b,f,rfl,World.block_lt_of_cell? _ _ zs,?_⟩;have e:(j.take a).getD i 0=j.getD i 0:=(by simp [H2,show i<a by omega]);rw [e];exact zs
theorem ae {w1:U5} (h:Bw w w1) (k:Bw w1 e):Bw w e :=
 h.trans (k.mono h.size)
theorem j7 (h:∀ y ∈ j,(QB6 .u8 y).wf) (k:Nat):0<=j.getD k 0/\j.getD k 0<=255:=by
 by_cases a:k<j.length;·have:=h (j.getD k 0) (by simp [H2,A0 a]);simpa [Lit.wf,Y9,Z0,Y7,Y8] using this
 ·simp [H2,A6 (Nat.le_of_not_lt a)]
theorem iR (zs:List Int) (i:Nat) (y:Int):(zs.map (R4 .u8)).set i (.int .u8 y)=(zs.set i y).map (R4 .u8):=by rw [N1]
theorem Ck (s:Int):(s=1\/s=2\/s=4\/s=8)\/((s==1)=false/\(s==2)=false/\(s==4)=false/\(s==8)=false):=by
 by_cases a:s=1;·exact .inl (.inl a)
 ·by_cases b:s=2;·exact .inl (.inr (.inl b))
  ·by_cases c:s=4;·exact .inl (.inr (.inr (.inl c)))
   ·by_cases d:s=8;·exact .inl (.inr (.inr (.inr d)))
    ·exact .inr (by simp [a,b,c,d])
theorem Ih (h:(y==1)=false/\(y==2)=false/\(y==4)=false/\(y==8)=false):jq y=false:=by simp at h;simp [jq,h]
theorem Ii (h:(QB6 .u64 y).wf):0<=y/\y<=18446744073709551615:=by simpa [Lit.wf,Y9,Z0,Y7,Y8] using h
theorem L9 (m:Sl .u8 w (some ⟨b,a,none⟩) j) (o:Obj) (zs:Nat) (u:U3) (c:(j.map (R4 .u8))[zs]?=some u): (w.alloc o).cell? ((⟨b,a,none⟩:U6).add zs)=some u:=by
 have d:zs<j.length:=by
  rcases QA0 zs j.length with h|h;·exact h
  ·rw [A6 dd] at c;cases c
 obtain ⟨n,i,e,bZ,l⟩:=m zs d;simp only [Option.some.injEq,Addr.mk.injEq,and_true] at e;obtain ⟨rfl,rfl⟩:=e;have k:(⟨b,a,none⟩:U6).add zs=⟨b,a+zs,none⟩:=by
  by_cases g:zs=0;·subst g;simp [QC6]
  ·simp [QC6,g]
 have f:u=.int .u8 (j.getD zs 0):=by simp [A0 d] at c;simp [H2,A0 d,c]
 rw [k,f,<- l];exact ((QC2 w.heap.size w).alloc (Z7 _) o).cell (by exact bZ)
theorem iS (h:w.ownsRow a g 1 o n s) (hn:0<n):∃ e c,o=.slice (some ⟨e,0,none⟩) n c/\a<=e:=by
 rcases h.2 with ⟨_,f⟩|⟨e,cap,base,d,b,_⟩;·omega
 ·exact ⟨e,cap,d,b⟩
theorem FH (b a j:Nat):(⟨b,a,none⟩:U6).add j=⟨b,a+j,none⟩:=by
 by_cases c:j=0;·subst c;simp [QC6]
 ·simp [QC6,c]
theorem lL {P:V5} {r:Array X5} {rest:List X5} {o:X5} {a:Act} {Q:Exit->Act->U5->Prop} (y:o.guard=none) (d s:X7) (p:U8) (R:o.op=.call {callee:=.builtin .copy,args:=#[d,s],argTypes:=#[p,p]}) (e:U8) (T:P.underlying p=some (.slice e)) (D:(P.info? e).map (·.size)=some 1) (k:V6) (base g n c b l cap:Nat) (zs:List Int) (ys:List U3) (hd:a.eval d=.slice (some ⟨g,0,none⟩) n c) (S:a.eval s=.slice (some ⟨b,l,none⟩) n cap) (q:w.ownsRow base e 1 (.slice (some ⟨g,0,none⟩) n c) n ys) (C:Sl k w (some ⟨b,l,none⟩) zs) (hz:zs.length=n) (h:∀ G,G.ownsRow base e 1 (.slice (some ⟨g,0,none⟩) n c) n (zs.map (R4 k))->w.grownBy G (some g)->wpList P r Q rest (a.put o.dst (goInt n)) G):wpList P r Q (o::rest) a w:=by
 rcases q.2 with ⟨M,_⟩|⟨W,V,m,K,v,J,A,x,O,E⟩;·cases M
 ·simp only [Value.slice.injEq,Option.some.injEq,Addr.mk.injEq,and_true,true_and] at K;obtain ⟨rfl,rfl⟩:=K;have t:(zs.map (R4 k)).length=n:=(by rw [I4,hz]);have I:m.toList.length=c:=(by rw [Array.length_toList];omega);refine wpList_copy_own y d s p p R e T D g 0 n c ⟨b,l,none⟩ n cap hd S m e J (zs.map (R4 k)) (by rw [t];exact (Nat.min_self n).symm) ?_ (by rw [t];omega) (Y4 _ _) ?_
  ·intro j u f;have z:j<zs.length:=by
    rcases QA0 j zs.length with h|h;·exact h
    ·rw [A6 dd] at f;cases f
   obtain ⟨U,L,H,bZ,N⟩:=C j z;simp only [Option.some.injEq,Addr.mk.injEq,and_true] at H;obtain ⟨rfl,rfl⟩:=H;have F:u=.int k (zs.getD j 0):=(by simp [A0 z] at f;simp [H2,A0 z,f]);rw [FH,F];exact N
  ·rw [t];refine h _ ⟨by rw [t];omega,.inr ⟨g,c,_,rfl,v,X3 w g _ _ e _ J,A,x,?_,?_⟩⟩ ⟨rfl,rfl,rfl,by simp [World.setRow],λi X B=>Y3 w g i _ (by intro h;apply B;rw [h])⟩;·simp [hz];omega
   ·simp [hz]
theorem sX {xs:List U3} {row:Option Nat} (h:w.ownsRow a g k o b xs) (size:w.grownBy e row) (w':∀ base,o.ownBlock=some base->row≠some base): e.ownsRow a g k o b xs:=by
 refine h.kept size ?_;cases c:o.ownBlock with
 | none=>exact .inl rfl
 | some base=>exact .inr (λh=>w' base c h.symm)
theorem cS (h:w.ownsRow k g b o n s) (hb:a<=k):w.ownsRow a g b o n s:=by
 obtain ⟨d,c⟩:=h;refine ⟨d,?_⟩;rcases c with c|⟨e,cap,size,i,f,r⟩;·exact Or.inl c
 ·exact Or.inr ⟨e,cap,size,i,QB3 hb f,r⟩
def Sq (e:U8) (a wr:U5) (v:U3) (n:Nat) (xs:List U3):Prop:=wr.ownsRow a.heap.size e 1 v n xs/\Bw a wr
theorem gF (w:U5) (u:U3) (e:U8) (j:Nat) (x:U3) (h:[u][j]?=some x):(w.alloc (.cells #[u] e (0,0))).cell? ((⟨w.heap.size,0,none⟩:U6).add j)=some x:=by
 have b:j=0:=by
  rcases Z9 j with a|a;·exact a
  ·rw [A6 bb] at h;cases h
 subst b;have c:(w.alloc (.cells #[u] e (0,0))).heap[w.heap.size]?=some (.cells #[u] e (0,0)):=U7 _ _;simp at h;subst h;show (w.alloc (.cells #[u] e (0,0))).cell? ⟨w.heap.size,0,none⟩=some u;simp only [QC8,c];rfl
variable {c:Type} {a:V5} {k:Array X5} {w:Exit->Act->U5->Prop} {P:U5} (Q:Nat)
inductive Fm where | r | i | h | w | s | b | u | j | a | c | x
deriving DecidableEq
def Fm.str:Fm->ByteArray
 | .r=>⟨#[82]⟩ | .i=>⟨#[73]⟩ | .h=>⟨#[72]⟩ | .w=>⟨#[87]⟩ | .s=>⟨#[83]⟩ | .b=>⟨#[66]⟩ | .u=>⟨#[85]⟩ | .j=>⟨#[74]⟩ | .a=>⟨#[65]⟩ | .c=>⟨#[67]⟩ | .x=>⟨#[88]⟩
structure Row where
 name:ByteArray
 fm:Fm
 op:Int
 f3:Int
 more:Int
def rows:List Row:=[
 ⟨⟨#[108,117,105]⟩,.u,55,(-1),0⟩,
 ⟨⟨#[97,117,105,112,99]⟩,.u,23,(-1),0⟩,
 ⟨⟨#[106,97,108]⟩,.j,111,(-1),0⟩,
 ⟨⟨#[106,97,108,114]⟩,.i,103,0,0⟩,
 ⟨⟨#[98,101,113]⟩,.b,99,0,0⟩,
 ⟨⟨#[98,110,101]⟩,.b,99,1,0⟩,
 ⟨⟨#[98,108,116]⟩,.b,99,4,0⟩,
 ⟨⟨#[98,103,101]⟩,.b,99,5,0⟩,
 ⟨⟨#[98,108,116,117]⟩,.b,99,6,0⟩,
 ⟨⟨#[98,103,101,117]⟩,.b,99,7,0⟩,
 ⟨⟨#[108,98]⟩,.i,3,0,0⟩,
 ⟨⟨#[108,104]⟩,.i,3,1,0⟩,
 ⟨⟨#[108,119]⟩,.i,3,2,0⟩,
 ⟨⟨#[108,100]⟩,.i,3,3,0⟩,
 ⟨⟨#[108,98,117]⟩,.i,3,4,0⟩,
 ⟨⟨#[108,104,117]⟩,.i,3,5,0⟩,
 ⟨⟨#[108,119,117]⟩,.i,3,6,0⟩,
 ⟨⟨#[115,98]⟩,.s,35,0,0⟩,
 ⟨⟨#[115,104]⟩,.s,35,1,0⟩,
 ⟨⟨#[115,119]⟩,.s,35,2,0⟩,
 ⟨⟨#[115,100]⟩,.s,35,3,0⟩,
 ⟨⟨#[97,100,100,105]⟩,.i,19,0,0⟩,
 ⟨⟨#[115,108,116,105]⟩,.i,19,2,0⟩,
 ⟨⟨#[115,108,116,105,117]⟩,.i,19,3,0⟩,
 ⟨⟨#[120,111,114,105]⟩,.i,19,4,0⟩,
 ⟨⟨#[111,114,105]⟩,.i,19,6,0⟩,
 ⟨⟨#[97,110,100,105]⟩,.i,19,7,0⟩,
 ⟨⟨#[115,108,108,105]⟩,.h,19,1,0⟩,
 ⟨⟨#[115,114,108,105]⟩,.h,19,5,0⟩,
 ⟨⟨#[115,114,97,105]⟩,.h,19,5,16⟩,
 ⟨⟨#[97,100,100,105,119]⟩,.i,27,0,0⟩,
 ⟨⟨#[115,108,108,105,119]⟩,.w,27,1,0⟩,
 ⟨⟨#[115,114,108,105,119]⟩,.w,27,5,0⟩,
 ⟨⟨#[115,114,97,105,119]⟩,.w,27,5,32⟩,
 ⟨⟨#[97,100,100]⟩,.r,51,0,0⟩,
 ⟨⟨#[115,117,98]⟩,.r,51,0,32⟩,
 ⟨⟨#[115,108,108]⟩,.r,51,1,0⟩,
 ⟨⟨#[115,108,116]⟩,.r,51,2,0⟩,
 ⟨⟨#[115,108,116,117]⟩,.r,51,3,0⟩,
 ⟨⟨#[120,111,114]⟩,.r,51,4,0⟩,
 ⟨⟨#[115,114,108]⟩,.r,51,5,0⟩,
 ⟨⟨#[115,114,97]⟩,.r,51,5,32⟩,
 ⟨⟨#[111,114]⟩,.r,51,6,0⟩,
 ⟨⟨#[97,110,100]⟩,.r,51,7,0⟩,
 ⟨⟨#[97,100,100,119]⟩,.r,59,0,0⟩,
 ⟨⟨#[115,117,98,119]⟩,.r,59,0,32⟩,
 ⟨⟨#[115,108,108,119]⟩,.r,59,1,0⟩,
 ⟨⟨#[115,114,108,119]⟩,.r,59,5,0⟩,
 ⟨⟨#[115,114,97,119]⟩,.r,59,5,32⟩,
 ⟨⟨#[109,117,108]⟩,.r,51,0,1⟩,
 ⟨⟨#[109,117,108,104]⟩,.r,51,1,1⟩,
 ⟨⟨#[109,117,108,104,115,117]⟩,.r,51,2,1⟩,
 ⟨⟨#[109,117,108,104,117]⟩,.r,51,3,1⟩,
 ⟨⟨#[100,105,118]⟩,.r,51,4,1⟩,
 ⟨⟨#[100,105,118,117]⟩,.r,51,5,1⟩,
 ⟨⟨#[114,101,109]⟩,.r,51,6,1⟩,
 ⟨⟨#[114,101,109,117]⟩,.r,51,7,1⟩,
 ⟨⟨#[109,117,108,119]⟩,.r,59,0,1⟩,
 ⟨⟨#[100,105,118,119]⟩,.r,59,4,1⟩,
 ⟨⟨#[100,105,118,117,119]⟩,.r,59,5,1⟩,
 ⟨⟨#[114,101,109,119]⟩,.r,59,6,1⟩,
 ⟨⟨#[114,101,109,117,119]⟩,.r,59,7,1⟩,
 ⟨⟨#[108,114,46,119]⟩,.a,47,2,2⟩,
 ⟨⟨#[115,99,46,119]⟩,.a,47,2,3⟩,
 ⟨⟨#[97,109,111,115,119,97,112,46,119]⟩,.a,47,2,1⟩,
 ⟨⟨#[97,109,111,97,100,100,46,119]⟩,.a,47,2,0⟩,
 ⟨⟨#[97,109,111,120,111,114,46,119]⟩,.a,47,2,4⟩,
 ⟨⟨#[97,109,111,97,110,100,46,119]⟩,.a,47,2,12⟩,
 ⟨⟨#[97,109,111,111,114,46,119]⟩,.a,47,2,8⟩,
 ⟨⟨#[97,109,111,109,105,110,46,119]⟩,.a,47,2,16⟩,
 ⟨⟨#[97,109,111,109,97,120,46,119]⟩,.a,47,2,20⟩,
 ⟨⟨#[97,109,111,109,105,110,117,46,119]⟩,.a,47,2,24⟩,
 ⟨⟨#[97,109,111,109,97,120,117,46,119]⟩,.a,47,2,28⟩,
 ⟨⟨#[108,114,46,100]⟩,.a,47,3,2⟩,
 ⟨⟨#[115,99,46,100]⟩,.a,47,3,3⟩,
 ⟨⟨#[97,109,111,115,119,97,112,46,100]⟩,.a,47,3,1⟩,
 ⟨⟨#[97,109,111,97,100,100,46,100]⟩,.a,47,3,0⟩,
 ⟨⟨#[97,109,111,120,111,114,46,100]⟩,.a,47,3,4⟩,
 ⟨⟨#[97,109,111,97,110,100,46,100]⟩,.a,47,3,12⟩,
 ⟨⟨#[97,109,111,111,114,46,100]⟩,.a,47,3,8⟩,
 ⟨⟨#[97,109,111,109,105,110,46,100]⟩,.a,47,3,16⟩,
 ⟨⟨#[97,109,111,109,97,120,46,100]⟩,.a,47,3,20⟩,
 ⟨⟨#[97,109,111,109,105,110,117,46,100]⟩,.a,47,3,24⟩,
 ⟨⟨#[97,109,111,109,97,120,117,46,100]⟩,.a,47,3,28⟩,
 ⟨⟨#[102,101,110,99,101]⟩,.i,15,0,0⟩,
 ⟨⟨#[102,101,110,99,101,46,105]⟩,.i,15,1,0⟩,
 ⟨⟨#[99,115,114,114,119]⟩,.c,115,1,0⟩,
 ⟨⟨#[99,115,114,114,115]⟩,.c,115,2,0⟩,
 ⟨⟨#[99,115,114,114,99]⟩,.c,115,3,0⟩,
 ⟨⟨#[99,115,114,114,119,105]⟩,.c,115,5,0⟩,
 ⟨⟨#[99,115,114,114,115,105]⟩,.c,115,6,0⟩,
 ⟨⟨#[99,115,114,114,99,105]⟩,.c,115,7,0⟩,
 ⟨⟨#[101,99,97,108,108]⟩,.x,115,0,0⟩,
 ⟨⟨#[101,98,114,101,97,107]⟩,.x,115,0,1⟩,
 ⟨⟨#[115,114,101,116]⟩,.x,115,0,258⟩,
 ⟨⟨#[109,114,101,116]⟩,.x,115,0,770⟩,
 ⟨⟨#[119,102,105]⟩,.x,115,0,261⟩,
 ⟨⟨#[115,102,101,110,99,101,46,118,109,97]⟩,.r,115,0,9⟩]
def Row.f3z (r:Row):Int:=if r.f3<0 then 0 else r.f3
def Row.cellsI (r:Row):List Value:=[.string r.name,.string r.fm.str,.u r.op,.u r.f3z,.u r.more]
def io:Array Value:=(rows.flatMap Row.cellsI).toArray
theorem tM:rows.length=98:=by rfl
theorem qH {c i:Type} (f:c->List i) (m:Nat):∀ (l:List c),(∀ x ∈ l,(f x).length=m)->∀ k (h:k<l.length),((l.flatMap f).drop (k*m)).take m=f l[k]:=by
 intro l;induction l with
 | nil=>intro _ k h;simp at h
 | cons x l g =>
   intro a k h;have b:(f x).length=m:=a x bh;cases k with
   | zero=>simp [<- b]
   | succ k =>have e:(k+1)*m=(f x).length+k*m:=(by rw [b,Nat.succ_mul];omega);rw [e,List.flatMap_cons,List.drop_append,List.drop_of_length_le aa,Nat.add_sub_cancel_left];exact g (λy d=>a y (by simp [d])) k dd
theorem zJ {a:Type} (f:a->List c) (m:Nat) (l:List a) (hl:∀ x ∈ l,(f x).length=m) (k:Nat) (h:k<l.length) (j:Nat) (b:j<m):(l.flatMap f)[k*m+j]?=(f l[k])[j]?:=by rw [<- qH f m l hl k h];simp [b]
def az (k:Nat):Row:=rows.getD k ⟨⟨#[]⟩,.x,0,0,0⟩
theorem FI (h:Q<98):rows[Q]'(by rw [tM];exact h)=az Q:=by simp [az,H2,A0 (show Q<rows.length by rw [tM];exact h)]
theorem zK (h:Q<98):io.extract (Q*5) (Q*5+5)=(az Q).cellsI.toArray:=by have:=qH Row.cellsI 5 rows (by intro x _;rfl) Q (by rw [tM];exact h);rw [FI Q h] at this;rw [<- this];simp [io]
theorem nh:io.size=490:=by kernel_rfl
def qI (P:V5):List X5->Act->Option Act
 | [],a=>some a
 | o::l,a =>
   match o.guard,o.op with
   | none,.build t parts =>
     match P.built t (parts.map λ(i,x)=>(i,a.eval x)).toList with
     | some cells=>qI P l (a.put o.dst (.agg cells))
     | none=>none
   | _,_=>none
theorem vG:∀ (l rest:List X5) (b c:Act),qI a l b=some c->wpList a k w rest c P->wpList a k w (l++rest) b P:=by
 intro l;induction l with
 | nil=>intro rest b c h d;simp [qI] at h;subst h;exact d
 | cons o l i =>
   intro rest b c h d;unfold qI at h;split at h
   ·rename_i t parts f g;split at h;·rename_i cells e;exact wpList_buildTo f t parts g o.dst rfl cells e (i _ _ _ h d)
    ·cases h
   ·cases h
theorem jH {l:List X5} {c:Act} (s t:Nat) (v x:U3) (h:(qI a (l.take Q) c).map (λb=>(b.tmps.getD s undef,b.tmps.getD t undef,b.defers))=some (v,x,[])) (e:∀ b:Act,b.tmps.getD s undef=v->b.tmps.getD t undef=x->b.defers=[]->wpList a k w (l.drop Q) b P):wpList a k w l c P:=by
 rw [<- List.take_append_drop Q l];cases d:qI a (l.take Q) c with
 | none=>rw [d] at h;cases h
 | some b =>rw [d] at h;simp only [Option.map_some,Option.some.injEq,Prod.mk.injEq] at h;exact vG _ _ _ _ d (e b h.1 h.2.1 h.2.2)
variable {w a:U5} {x g B:Nat} {c:U8} {f E b d e n:U3} {k:Array X5} {o:List X5} {t:X5} {m:Act} {y:Exit->Act->U5->Prop} {j:Array U3} {W:V5} {l:Nat × Nat} {Q:Obj} {P:Int} {p:List U3} {q:Option U6} {s:List Int} (z:List UInt8) (T:Option U6) (r:List Int) (O A C:Int) (D F:Nat) (G:U5) (I:Int) (J:Nat) (K:List Int) (L M N:Int) (R:U5)
def zL:Array Value:=(List.replicate 98 [S1 ⟨#[]⟩,.string ⟨#[]⟩,.u 0,.u 0,.u 0]).flatten.toArray
theorem Cl:zL.size=490:=by kernel_rfl
theorem Cm:(prog.info? 149).bind (·.zero)=some (.agg zL):=by kernel_rfl
theorem tN (h:(W.info? c).bind (·.zero)=some f) (w:U5):(zeroValue c).run W w=.ok f w:=by
 cases a:W.info? c with
 | none=>rw [a] at h;cases h
 | some i=>rw [a] at h;simp at h;simp [zeroValue,typeInfo,a,h]
theorem bL (f:t.guard=none) (rest:U8) (g:t.op=.alloc rest) (d:Option Tmp) (hd:t.dst=d) (z:U3) (hz:(W.info? rest).bind (·.zero)=some z) (h:wpList W k y o (m.put d (.p w.heap.size 0)) (w.alloc (.cells z.cells rest))):wpList W k y (t::o) m w:=by
 subst hd;refine V0 f λK e=>?_;have b:(V9 m.eval t).run W w=.ok (.value (.p w.heap.size 0)) (w.alloc (.cells z.cells rest)):=by simp [V9,g,Instr.alloc,QB4,tN hz,newVar,newRow]
 unfold QD1;rw [b,QD0];exact e _ _ h
theorem xO (f:t.guard=none) (d:Option Tmp) (hd:t.dst=d) (v:U3) (b:(V9 m.eval t).run W w=.ok (.value v) w) (h:wpList W k y o (m.put d v) w):wpList W k y (t::o) m w:=by subst hd;refine V0 f λK e=>?_;unfold QD1;rw [b,QD0];exact e _ _ h
theorem ay (h:Below B a w) {g:Nat} (c:B<=g) (cs:Array U3):Below B a (w.setRow g cs):=
 ⟨h.os,h.tape,h.output,by rw [setRow_size];exact h.size,λk b=>(Y3 w g k cs aa).trans (h.block k b)⟩
theorem Cn:io.all (·.oneCell'):=by kernel_rfl
theorem tO:(prog.info? 149).map (·.size)=some 490:=by kernel_rfl
theorem Co:CB 90 #[] G (.agg io):=by go_enter func90,ntmps90;apply wp_seq_k;intro c b;apply wp_region_list;refine bL rfl 149 rfl (some 0) rfl _ Cm ?_;apply wpList_nil;refine b _ _ ?_;clear b c;apply wp_seq_k;intro c b;apply wp_region_lit;refine jH 99 0 99 (.p G.heap.size 0) (.agg io) ab ?_;intro m f d j;have g:(G.alloc (.cells (S5 zL).cells 149)).heap[G.heap.size]?=some (.cells zL 149 (0,0)):=U7 _ _;refine X6 rfl 149 (.tmp 0) (.tmp 99) rfl rfl G.heap.size io f d 149 zL g (by rw [tO,nh]) (by rw [Cl,nh]) Cn ?_;apply wpList_nil;refine b _ _ ?_;clear b c;apply wp_ret;refine V4 (results_cell_row results90 _ _ _ _ _ _ _ f (X3 _ _ _ _ _ _ g) underlying149 rfl (by rw [tO,nh])) j ⟨rfl,?_⟩;exact ay (bal _ _) (Z7 _) _
def oN (op:Int):Bool:=decide (1<=op/\op<=98)
def dB (op:Int):ByteArray:=if oN op then (az (op-1).toNat).name else ⟨#[]⟩
def fJ (op:Int):ByteArray:=if oN op then (az (op-1).toNat).fm.str else ⟨#[]⟩
def Row.val (r:Row):Value:=.agg #[.string r.name,.string r.fm.str,.u r.op,.u r.f3z,.u r.more]
def noRow:Value:=.agg #[.string ⟨#[]⟩,.string ⟨#[]⟩,.u 0,.u 0,.u 0]
def vH (op:Int):Value:=if oN op then (az (op-1).toNat).val else noRow
theorem oY (h:oN P=false):vH P=noRow:=by simp [vH,h]
theorem wH (h:oN ((x:Int)+1)):vH ((x:Int)+1)=(az x).val:=by simp [vH,h]
theorem dF {P:V5} {fn:Func} {p u:Tmp} {ty:U8} (h:fn.results=#[.cell p ty,.tmp u]) (tmps:Array U3) (w:U5) (g:Nat) (t:U8) (cs:Array U3) (a:Nat × Nat) (d:Y2) (e:tmps.getD p undef=.p g 0) (b:w.heap[g]?=some (.cells cs t a)) (f:P.underlying ty=some d) (hd:(match d with | .struct _ | .array _ _=>true | _=>false)=true) (c:(P.info? ty).map (·.size)=some cs.size):(results fn tmps).run P w=.ok (.tuple #[.agg cs,tmps.getD u undef]) w:=by rw [results_cell_tmp h,e];simp [asAddr,V7 w g t ty cs a d b f hd c]
theorem tP:∃ a b c d e,vH O=.agg #[.string a,.string b,.u c,.u d,.u e]/\Hid (a=dB O)/\Hid (b=fJ O):=by
 cases h:oN O with
 | true=>exact ⟨_,_,_,_,_,by simp [vH,h];rfl,(by simp [dB,h]:(az (O-1).toNat).name=dB O),(by simp [fJ,h]:(az (O-1).toNat).fm.str=fJ O)⟩
 | false=>exact ⟨_,_,_,_,_,by simp [vH,h];rfl,(by simp [dB,h]:(⟨#[]⟩:ByteArray)=dB O),(by simp [fJ,h]:(⟨#[]⟩:ByteArray)=fJ O)⟩
theorem zM:(prog.info? 95).map (·.size)=some 5:=by kernel_rfl
theorem Ma (r:Row):(#[S1 r.name,.string r.fm.str,.u r.op,.u r.f3z,.u r.more]:Array U3).all (·.oneCell'):=by simp [R5]
theorem FJ (kk:V6) (k:Nat) (hk:k<98):(Z5 149 (.agg io) (.int kk (k:Int))).run prog G=.ok (az k).val G:=by
 have f:(sizeOf 95).run prog G=.ok 5 G:=by
  obtain ⟨g,e,a⟩:∃ i,prog.info? 95=some i/\i.size=5:=by
   have h:(prog.info? 95).map (·.size)=some 5:=ab;cases b:prog.info? 95 with
   | none=>rw [b] at h;cases h
   | some i=>rw [b] at h;exact ⟨i,rfl,dd⟩
  simp [sizeOf,typeInfo,e,a]
 have c:(isAgg 95).run prog G=.ok true G:=by simp [isAgg,X9 underlying95]
 have d:(0:Int)<=(k:Int)/\(k:Int)<((98:Nat):Int):=aa
 unfold Z5;simp only [asIntOf,QB4,QB5,QB7,X9 underlying149];rw [JZ8 d];simp only [QB4,f,QB7,part,c,T2,if_true,QB5];rw [zK k hk];rfl
theorem kW (a:Hid (f=.agg io)) (kk:V6) (k:Nat) (hk:k<98) (r:Row) (b:Hid (r=az k)) (w:U5): (Z5 149 f (.int kk (k:Int))).run prog w=.ok (.agg #[.string r.name,.string r.fm.str,.u r.op,.u r.f3z,.u r.more]) w:=by rw [a.out,b.out];exact FJ w kk k hk
theorem vI (e:Hid (f=.agg io)) (kk:V6) (c:Nat) (hk:c<98) (r:Row) (l:Hid (r=az c)) (T:t.guard=none) (x i:X7) (j:t.op=.index 149 x i) (hx:m.eval x=f) (g:m.eval i=.int kk (c:Int)) (h:wpList prog k y o (m.put t.dst (.agg #[.string r.name,.string r.fm.str,.u r.op,.u r.f3z,.u r.more])) w):wpList prog k y (t::o) m w:=by
 refine V0 T λK d=>?_;have b:(V9 m.eval t).run prog w=.ok (.value (.agg #[.string r.name,.string r.fm.str,.u r.op,.u r.f3z,.u r.more])) w:=by simp [V9,j,hx,g,kW e kk c hk r l]
 unfold QD1;rw [b,QD0];exact d _ _ h
theorem pE:Calls prog 90 #[] G λe a=>∃ T,e=.returned T/\Hid (T=.agg io)/\Bw G a :=
 (Co G).mono λe a h=>⟨.agg io,h.1,(rfl:S5 io=.agg io),h.2⟩
theorem ol (y:(QB6 .i64 O).wf) (w:U5):CB 58 #[.i O] w (.tuple #[vH O,.bool (oN O)]):=by
 by_cases b:O<1;·have F:Hid (oN O=false):=(by show oN O=false;simp [oN];omega);have j:decide (O<1):=mx;clear b;go_enter func58,ntmps58;go_wp2;refine V4 (v:=.tuple #[noRow,.bool false]) (by simp [results,results58,go_sem];rfl) rfl ⟨by rw [oY F.out,F.out],?_⟩;exact bal _ _
 ·by_cases d:98<O;·have F:Hid (oN O=false):=(by show oN O=false;simp [oN];omega);have j:decide (O<1)=false:=mx;have q:decide (98<O):=(by simpa using d);clear b d;go_enter func58,ntmps58;go_wp2;refine V4 (v:=.tuple #[noRow,.bool false]) (by simp [results,results58,go_sem];rfl) rfl ⟨by rw [oY F.out,F.out],?_⟩;exact bal _ _
  ·have g:oN O:=(by show oN O=true;simp [oN];omega);have j:decide (O<1)=false:=mx;have q:decide (98<O)=false:=(by simpa using d);obtain ⟨k,s⟩:∃ k:Nat,O=(k:Int)+1:=⟨(O-1).toNat,aa⟩;have f:k<98:=aa;subst s;have F:Hid (oN ((k:Int)+1)):=g;clear b d g;go_enter func58,ntmps58;go_wp2_with fail;refine (pE _).mono ?_;rintro e u ⟨T,rfl,p,l⟩;obtain ⟨r,c⟩:∃ r,r=az k:=⟨_,rfl⟩;have o:Hid (r=az k):=c;clear c;have m:u.heap[w.heap.size]?=some (.cells #[.string ⟨#[]⟩,.string ⟨#[]⟩,.u 0,.u 0,.u 0] 95 (0,0)):=(by rw [l.block _ bh];exact U7 _ _);go_wp2_with (first | refine vI p .i64 k f r o rfl _ _ rfl rfl rfl ?_ | refine X6 rfl 95 _ _ rfl rfl w.heap.size #[.string r.name,.string r.fm.str,.u r.op,.u r.f3z,.u r.more] rfl rfl 95 _ m zM rfl (Ma r) ?_);refine V4 (dF results58 _ _ _ _ _ _ _ rfl (X3 _ _ _ _ _ _ m) underlying95 rfl zM) rfl ⟨?_,?_⟩;·rw [wH F.out,F.out,<- o.out];rfl
   ·exact ay ((bal _ _).trans (l.mono bh)) (Z7 _) _
theorem xP (f:(QB6 .i64 O).wf) (w:U5):CB 113 #[.i O] w (.string (dB O)):=by go_enter func113,ntmps113;go_wp2_with fail;refine (ol O f _).mono ?_;rintro e r ⟨rfl,b⟩;obtain ⟨l,m,o,p,q,d,c,j⟩:=tP O;rw [d];go_wp2_with fail;go_ret;exact ⟨by rw [<- c.out];rfl,b.alloc b.size _⟩
theorem iq (f:(QB6 .i64 O).wf) (w:U5):CB 87 #[.i O] w (.string (fJ O)):=by go_enter func87,ntmps87;go_wp2_with fail;refine (ol O f _).mono ?_;rintro e r ⟨rfl,b⟩;obtain ⟨l,m,o,p,q,d,j,c⟩:=tP O;rw [d];go_wp2_with fail;go_ret;exact ⟨by rw [<- c.out];rfl,b.alloc b.size _⟩
def b9 (s:ByteArray):Nat->Nat->Int
 | 0,_=>0
 | n+1,k=>if ((az k).name.toList==s.toList)=true then (k:Int)+1 else b9 s n (k+1)
def Fm.mask:Fm->Int
 | .r=>4261441663 | .w=>4261441663 | .h=>4227887231 | .a=>4160778367 | .x=>4294967295 | .u=>127 | .j=>127 | .i=>28799 | .s=>28799 | .b=>28799 | .c=>28799
def Fm.at:Fm->Nat
 | .r=>25 | .w=>25 | .h=>26 | .a=>27 | .x=>20 | .u=>0 | .j=>0 | .i=>0 | .s=>0 | .b=>0 | .c=>0
def Fm.hasRd:Fm->Bool
 | .r=>true | .i=>true | .h=>true | .w=>true | .s=>false | .b=>false | .u=>true | .j=>true | .a=>true | .c=>true | .x=>false
def Fm.hasA:Fm->Bool
 | .r=>true | .i=>true | .h=>true | .w=>true | .s=>true | .b=>true | .u=>false | .j=>false | .a=>true | .c=>true | .x=>false
def Fm.hasB:Fm->Bool
 | .r=>true | .i=>false | .h=>false | .w=>false | .s=>true | .b=>true | .u=>false | .j=>false | .a=>true | .c=>false | .x=>false
def Fm.pcs:Fm->List (Nat × Nat × Nat)
 | .r=>[] | .i=>[(20,12,0)] | .h=>[(20,6,0)] | .w=>[(20,5,0)] | .s=>[(25,7,5),(7,5,0)] | .b=>[(31,1,12),(7,1,11),(25,6,5),(8,4,1)]
 | .u=>[(12,20,12)] | .j=>[(31,1,20),(12,8,12),(20,1,11),(21,10,1)] | .a=>[(25,2,0)] | .c=>[(20,12,0)] | .x=>[]
def Fm.width:Fm->Nat
 | .r=>64 | .i=>12 | .h=>64 | .w=>64 | .s=>12 | .b=>13 | .u=>32 | .j=>21 | .a=>64 | .c=>64 | .x=>64
structure Ins where
 op:Int
 rd:Int
 a:Int
 b:Int
 imm:Int
deriving DecidableEq
def Ins.val (i:Ins):Value:=.agg #[.i i.op,.i i.rd,.i i.a,.i i.b,.i i.imm]
def aG (x:Int) (k n:Nat):Int:=x/2^k%2^n
theorem jI:0<=aG O D F/\aG O D F<2^F:=by have a:(0:Int)<2^F:=T3 aa;exact ⟨T5 _ aa,T4 _ a⟩
theorem xQ (h:D<=F):(2:Int)^D<=2^F:=by obtain ⟨d,rfl⟩:=Nat.exists_eq_add_of_le h;rw [Int.pow_add];have a:(0:Int)<2^D:=T3 aa;have b:(0:Int)<2^d:=T3 aa;have c:(2:Int)^D*1<=2^D*2^d:=Int.mul_le_mul_of_nonneg_left aa aa;omega
theorem gm (b:0<=O) (i:O<18446744073709551616) (hn:F<64): X0 .and .u64 (O/2^D) (IntKind.u64.wrap (IntKind.u64.wrap (2^F)-1))=aG O D F:=by
 have m:(0:Int)<2^F:=T3 aa;have l:(0:Int)<2^D:=T3 aa;have j:(2:Int)^F<=2^63:=xQ F 63 aa;have g:(2:Int)^63=9223372036854775808:=ba
 have c:IntKind.u64.wrap (2^F)=2^F:=by rw [Y6];omega
 have d:IntKind.u64.wrap (2^F-1)=2^F-1:=by rw [Y6];omega
 have a:0<=O/2^D:=T6 b aa;have h:O/2^D<=O:=T8 _ b;rw [c,d,u64_and _ _ a aa aa aa];have e:(2^F-1:Int).toNat=2^F-1:=by
  have:(2:Int)^F=((2^F:Nat):Int):=bh
  rw [this];omega
 rw [e,QA5];unfold aG;have f:((O/2^D).toNat:Int)=O/2^D:=Int.toNat_of_nonneg a;rw [Int.natCast_emod,f];simp
theorem FK:D &&& F=2^J*(D/2^J &&& F/2^J)+(D%2^J &&& F%2^J):=by rw [<- Nat.and_div_two_pow,<- Nat.and_mod_two_pow];exact (QA8 _ _).symm
theorem Ij:D &&& (2^F-1)=D%2^F:=QA5 D F
theorem Ik (m:Nat) (h:D/2^J%2^m=0) (hx:F<2^m):D ||| F*2^J=D+F*2^J:=by
 have i:0<2^J:=QA7 J;have o:0<2^m:=QA7 m;have e:D=D/2^J/2^m*2^(J+m)+D%2^J:=by have g:=QA8 D (2^J);have d:=QA8 (D/2^J) (2^m);rw [h,QA3] at d;rw [<- d] at g;rw [QA6,<- QB1,Nat.mul_right_comm,QA2 _ (2^J),QA2 _ (2^m)] ;omega
 have b:D%2^J<2^J:=Nat.mod_lt _ i;have j:D/2^J/2^m*2^(J+m) ||| D%2^J=D/2^J/2^m*2^(J+m)+D%2^J:=by refine Y0 J _ _ ?_ b;rw [QA6,QA2 (2^J),<- QB1];exact QA4 _ _
 have l:F*2^J ||| D%2^J=F*2^J+D%2^J:=Y0 J _ _ (QA4 _ _) b
 have c:F*2^J+D%2^J<2^(J+m):=by rw [QA6,QA2 (2^J)];have:(F+1)*2^J<=2^m*2^J:=Nat.mul_le_mul_right _ hx;rw [Nat.add_mul] at this;omega
 have n:D/2^J/2^m*2^(J+m) ||| (F*2^J+D%2^J)=D/2^J/2^m*2^(J+m)+(F*2^J+D%2^J):=Y0 (J+m) _ _ (QA4 _ _) c
 have f:D ||| F*2^J=D/2^J/2^m*2^(J+m) ||| (F*2^J ||| D%2^J):=by
  conv=>lhs;rw [e,<- j]
  rw [Nat.or_assoc,Nat.or_comm (D%2^J)]
 rw [f,l,n];omega
def fl (i:Nat) (f:Fm) (o z m x:Int):Prop:=x%128=o/\(0<=z->x/4096%8=z) /\
 (match f with
 | .r=>x/33554432=m/\(i=97->x/128%32=0)
 | .h=>x/67108864=m
 | .w=>x/33554432=m
 | .a=>x/134217728=m/\(i=62\/i=73->x/1048576%32=0)
 | .x=>x=m*1048576+o
 | _=>True)
instance (i:Nat) (f:Fm) (o z m x:Int):Decidable (fl i f o z m x):=by
 unfold fl;cases f<;>infer_instance
theorem gR (d:0<=O) (e:O<18446744073709551616) (hk:D<64):X0 .and .u64 O (2^D-1)=O%2^D:=by
 have h:=gm O 0 D d e hk;have g:(0:Int)<2^D:=T3 aa;have f:(2:Int)^D<=2^63:=xQ D 63 aa;have c:(2:Int)^63=9223372036854775808:=ba
 have a:IntKind.u64.wrap (2^D)=2^D:=by rw [Y6];omega
 have b:IntKind.u64.wrap (2^D-1)=2^D-1:=by rw [Y6];omega
 rw [a,b] at h;simpa [aG] using h
def aX (n:Nat) (x:Int):Int:=IntKind.u64.wrap (QC7 (IntKind.u64.wrap (x*2^(64-n)))/2^(64-n))
def pF (f:Fm) (x:Int):Int :=
 match f with
 | .i=>x/1048576
 | .h=>x/1048576%64
 | .w=>x/1048576%32
 | .s=>x/33554432*32+x/128%32
 | .b=>x/2147483648*4096+x/128%2*2048+x/33554432%64*32+x/256%16*2
 | .u=>x/4096*4096
 | .j=>x/2147483648*1048576+x/4096%256*4096+x/1048576%2*2048+x/2097152%1024*2
 | .a=>x/33554432%4
 | .c=>x/1048576
 | .r=>0
 | .x=>0
def aR (f:Fm) (x:Int):Int:=QC7 (aX f.width (pF f x))
theorem xR (a:0<=O) (b:O<9223372036854775808):QC7 (aX 64 O)=O:=by
 have e:(2:Int)^(64-64)=1:=ba
 unfold aX;rw [e,Y6,Y6];unfold QC7;omega
theorem pG (f:0<=O) (n:O<18446744073709551616) (hx:0<=A) (b:A<2^F) (l:D+F<=64) (h:O/2^D%2^F=0):X0 .or .u64 O (A*2^D)=O+A*2^D:=by
 obtain ⟨x,rfl⟩:=T0 f;obtain ⟨X,rfl⟩:=T0 hx;have c:X<2^F:=by
  have:((X:Nat):Int)<((2^F:Nat):Int):=mx
  omega
 have i:x/2^D%2^F=0:=by
  have:(((x/2^D%2^F:Nat)):Int)=0:=dd
  omega
 have e:((X:Int)*2^D)=((X*2^D:Nat):Int):=bh
 have j:X*2^D<18446744073709551616:=by have g:X*2^D<2^F*2^D:=Nat.mul_lt_mul_of_pos_right c (QA7 D);rw [<- QA6] at g;have o:2^(F+D)<=2^64:=QB0 aa aa;have d:2^64=18446744073709551616:=ba;omega
 rw [e,u64_or_nat x (X*2^D) aa j,Ik x X D F i c];simp
def Mb:List UInt8->List UInt8->List (List UInt8)
 | cur,[]=>[cur]
 | cur,c::cs=>if c=32 then cur::Mb [] cs else Mb (cur++[c]) cs
theorem nj (s:ByteArray) (a b:Nat):(s.extract a b)=⟨((s.data.toList.drop a).take (b-a)).toArray⟩:=by apply ByteArray.ext;apply Array.toList_inj.1;simp
theorem QY {c:UInt8} (hk:x<256) (h:c.toNat=x):c=UInt8.ofNat x:=by apply UInt8.toNat_inj.1;rw [h];simp;omega
def pH (c:UInt8):Bool:=decide (48<=c.toNat/\c.toNat<=57)
def gS (a:Nat) (d:UInt8):Nat:=a*10+(d.toNat-48)
def mq (l:List UInt8):Nat:=l.foldl gS 0
theorem rF (d:UInt8):mq (z++[d])=mq z*10+(d.toNat-48):=by simp [mq,gS]
theorem FL (l:List UInt8) (h:l.all pH):mq l<10^l.length:=by
 suffices H:∀ n (l:List UInt8),l.length=n->l.all pH->mq l<10^n from H _ l rfl h
 intro n;induction n with
 | zero=>intro l a _;rw [List.eq_nil_of_length_eq_zero a];simp [mq]
 | succ n c =>
   intro l a b;obtain ⟨m,d,rfl⟩:∃ m d,l=m++[d]:=by
    rcases List.eq_nil_or_concat l with h|⟨m,d,h⟩;·rw [h] at a;simp at a
    ·exact ⟨m,d,dd⟩
   simp only [List.length_append,List.length_cons,List.length_nil,Z8,Nat.add_right_cancel_iff] at a;simp only [M5,I5,K0,QD4,QD5] at b;have e:=c m a b.1;have f:48<=d.toNat/\d.toNat<=57:=of_decide_eq_true b.2;rw [rF,QB2];omega
theorem FQ (h:z.all pH) (hl:z.length<=18):mq z<1000000000000000000 :=
 QA1 (FL z h) (QB3 (QB0 ba hl) ba)
theorem gG:(QB9 D).all pH/\mq (QB9 D)=D:=by
 induction D using Nat.strongRecOn with
 | _ D c =>
   by_cases h:D<10
   ·rw [Lib.decDigits_one h];have:(UInt8.ofNat (48+D)).toNat=48+D:=by simp;omega
    simp only [I5,K0,QD4,pH,this,mq,gS,List.foldl_cons,List.foldl_nil];exact ⟨bb,aa⟩
   ·rw [QB9,dif_neg h];obtain ⟨a,b⟩:=c (D/10) aa;have:(UInt8.ofNat (48+D%10)).toNat=48+D%10:=by simp;omega
    rw [rF,b,this];simp only [M5,a,I5,K0,QD4,pH,this];exact ⟨bb,aa⟩
theorem xS:QB9 D≠[]:=by intro h;have:=QC0 D;rw [h] at this;have:=Lib.nDigits_pos D;simp at *;omega
theorem jJ (h:D<1000000000000000000):(QB9 D).length<=18:=by
 rw [QC0];by_cases b:D=0;·subst b;rw [QC1 ba];decide
 ·suffices H:∀ n D:Nat,0<n->D<10^n->Lib.nDigits D<=n from H 18 D ba dd
  intro n;induction n with
  | zero=>intro D b _;omega
  | succ n e =>
    intro D _ c;by_cases a:D<10;·rw [QC1 a];omega
    ·rw [Lib.nDigits_big a];have d:0<n:=by
      rcases Z9 n with rfl|h;·simp at c;omega
      ·exact h
     have:=e (D/10) d (by rw [QB2] at c;omega);omega
theorem zN:(prog.info? 32).map (λi=>(i.zero,i.size,i.bytes))=some (some (.u 0),1,8):=by kernel_rfl
theorem rG:(r.map (R4 .u64)).set D (.u I)=(r.set D I).map (R4 .u64):=by rw [N1]
theorem info5:(prog.info? 5).map (λi=>(i.zero,i.size,i.bytes))=some (some (.int .u8 0),1,1):=by kernel_rfl
theorem de (hn:D<=1048576): CE 44 #[.slice T D F] G (.bool (bA D)):=by
 by_cases b:4096<=D
 ·by_cases c:D<=65536
  ·have f:decide ((D:Int)<=65536):=bb;by_cases d:D%4096=0;·have cap:Hid (bA D):=(by show bA D=true;simp [bA,b,c,d]);have g:((D:Int)%4096==0):=bb;go_enter func44,ntmps44;go_wp2;go_ret;exact ⟨by rw [cap.out];rfl,rfl⟩
   ·have cap:Hid (bA D=false):=(by show bA D=false;simp [bA,d]);have g:((D:Int)%4096==0)=false:=bb;exact m5
  ·have cap:Hid (bA D=false):=(by show bA D=false;simp [bA,c]);have f:decide ((D:Int)<=65536)=false:=bb;exact m5
 ·have cap:Hid (bA D=false):=(by show bA D=false;simp [bA,b]);have l:decide ((4096:Int)<=D)=false:=bb;exact m5
theorem fo:CE 214 #[.i O] G (.bool (jq O)):=by
 rcases Ck O with (rfl|rfl|rfl|rfl)|h;·go_enter func214,ntmps214;exact nc
 ·go_enter func214,ntmps214;exact nc
 ·go_enter func214,ntmps214;exact nc
 ·go_enter func214,ntmps214;exact nc
 ·have F:Hid (jq O=false):=Ih h;obtain ⟨c,d,f,g⟩:=h;go_enter func214,ntmps214;go_wp2;go_ret;exact ⟨bc,rfl⟩
def dO (n:Nat) (addr size:Int):Int:=if iP n addr size then addr-2147483648 else 0
theorem km (hn:D<=1048576) (t:0<=I) (p:I<=18446744073709551615): CE 211 #[.slice T D F,.u I,.i L] R (.tuple #[.i (dO D I L),.bool (iP D I L)]):=by
 cases j:bA D;·have b:Hid (iP D I L=false):=(by show iP D I L=false;simp [iP,j]);have d:Hid (dO D I L=0):=kp;go_enter func211,ntmps211;go_wp2_with (go_at_call 44;refine (de _ _ _ _ hn).mono ?_;rintro e c ⟨rfl,rfl⟩);go_ret2;exact ⟨l7,rfl⟩
 ·have u:=gg j;cases g:jq L;·have b:Hid (iP D I L=false):=(by show iP D I L=false;simp [iP,g]);have d:Hid (dO D I L=0):=kp;go_enter func211,ntmps211;go_wp2_with (first | (go_at_call 44;refine (de _ _ _ _ hn).mono ?_;rintro e c ⟨rfl,rfl⟩) | (go_at_call 214;refine (fo _ _).mono ?_;rintro e c ⟨rfl,rfl⟩));go_ret2;exact ⟨l7,rfl⟩
  ·have l:L=1\/L=2\/L=4\/L=8:=of_decide_eq_true g;have r:1<=L:=aa;have s:L<=8:=aa;clear l;by_cases f:I<2147483648;·have b:Hid (iP D I L=false):=(by show iP D I L=false;simp [iP];omega);have d:Hid (dO D I L=0):=kp;have m:decide (I<2147483648):=cb;go_enter func211,ntmps211;go_wp2_with (first | (go_at_call 44;refine (de _ _ _ _ hn).mono ?_;rintro e c ⟨rfl,rfl⟩) | (go_at_call 214;refine (fo _ _).mono ?_;rintro e c ⟨rfl,rfl⟩));go_ret2;exact ⟨l7,rfl⟩
   ·have m:decide (I<2147483648)=false:=cb;by_cases q:I-2147483648+L<=D;·have b:Hid (iP D I L):=(by show iP D I L=true;simp [iP,j,g];omega);have d:Hid (dO D I L=I-2147483648):=(by show dO D I L=_;simp [dO,b.out]);have o:decide ((D:Int)-L<I-2147483648)=false:=bb;go_enter func211,ntmps211;go_wp2_with (first | (go_at_call 44;refine (de _ _ _ _ hn).mono ?_;rintro e c ⟨rfl,rfl⟩) | (go_at_call 214;refine (fo _ _).mono ?_;rintro e c ⟨rfl,rfl⟩));go_ret2;exact ⟨l7,rfl⟩
    ·have b:Hid (iP D I L=false):=(by show iP D I L=false;simp [iP];omega);have d:Hid (dO D I L=0):=kp;have o:decide ((D:Int)-L<I-2147483648):=bb;go_enter func211,ntmps211;go_wp2_with (first | (go_at_call 44;refine (de _ _ _ _ hn).mono ?_;rintro e c ⟨rfl,rfl⟩) | (go_at_call 214;refine (fo _ _).mono ?_;rintro e c ⟨rfl,rfl⟩));go_ret2;exact ⟨l7,rfl⟩
theorem O3 (g:Int) (w:U5):(Z5 303 (.agg #[.int .u8 O,.int .u8 A,.int .u8 C,.int .u8 I,.int .u8 L,.int .u8 M,.int .u8 N,.int .u8 g]) (.i 0)).run prog w=.ok (.int .u8 O) w:=by kernel_rfl
theorem O4 (g:Int) (w:U5):(Z5 303 (.agg #[.int .u8 O,.int .u8 A,.int .u8 C,.int .u8 I,.int .u8 L,.int .u8 M,.int .u8 N,.int .u8 g]) (.i 1)).run prog w=.ok (.int .u8 A) w:=by kernel_rfl
theorem O5 (g:Int) (w:U5):(Z5 303 (.agg #[.int .u8 O,.int .u8 A,.int .u8 C,.int .u8 I,.int .u8 L,.int .u8 M,.int .u8 N,.int .u8 g]) (.i 2)).run prog w=.ok (.int .u8 C) w:=by kernel_rfl
theorem O6 (g:Int) (w:U5):(Z5 303 (.agg #[.int .u8 O,.int .u8 A,.int .u8 C,.int .u8 I,.int .u8 L,.int .u8 M,.int .u8 N,.int .u8 g]) (.i 3)).run prog w=.ok (.int .u8 I) w:=by kernel_rfl
theorem O7 (g:Int) (w:U5):(Z5 303 (.agg #[.int .u8 O,.int .u8 A,.int .u8 C,.int .u8 I,.int .u8 L,.int .u8 M,.int .u8 N,.int .u8 g]) (.i 4)).run prog w=.ok (.int .u8 L) w:=by kernel_rfl
theorem O8 (g:Int) (w:U5):(Z5 303 (.agg #[.int .u8 O,.int .u8 A,.int .u8 C,.int .u8 I,.int .u8 L,.int .u8 M,.int .u8 N,.int .u8 g]) (.i 5)).run prog w=.ok (.int .u8 M) w:=by kernel_rfl
theorem O9 (g:Int) (w:U5):(Z5 303 (.agg #[.int .u8 O,.int .u8 A,.int .u8 C,.int .u8 I,.int .u8 L,.int .u8 M,.int .u8 N,.int .u8 g]) (.i 6)).run prog w=.ok (.int .u8 N) w:=by kernel_rfl
theorem Pa (a:Int) (w:U5):(Z5 303 (.agg #[.int .u8 O,.int .u8 A,.int .u8 C,.int .u8 I,.int .u8 L,.int .u8 M,.int .u8 N,.int .u8 a]) (.i 7)).run prog w=.ok (.int .u8 a) w:=by kernel_rfl
theorem Ss (g:Int) (w:U5) (k:Nat) (hk:k<8): (Z5 303 (.agg #[.int .u8 O,.int .u8 A,.int .u8 C,.int .u8 I,.int .u8 L,.int .u8 M,.int .u8 N,.int .u8 g]) (.i (k:Int))).run prog w=.ok (.int .u8 ([O,A,C,I,L,M,N,g].getD k 0)) w:=by
 match k,hk with
 | 0,_=>exact O3 O A C I L M N g w
 | 1,_=>exact O4 O A C I L M N g w
 | 2,_=>exact O5 O A C I L M N g w
 | 3,_=>exact O6 O A C I L M N g w
 | 4,_=>exact O7 O A C I L M N g w
 | 5,_=>exact O8 O A C I L M N g w
 | 6,_=>exact O9 O A C I L M N g w
 | 7,_=>exact Pa O A C I L M N g w
theorem tQ (o:Int) (w:U5) (hb:r=[O,A,C,I,L,M,N,o]) (q:∀ i,0<=r.getD i 0/\r.getD i 0<=255): CB 212 #[.agg #[.int .u8 O,.int .u8 A,.int .u8 C,.int .u8 I,.int .u8 L,.int .u8 M,.int .u8 N,.int .u8 o]] w (.u (le r 0 8)):=by
 have bs:Hid (r=[O,A,C,I,L,M,N,o]):=hb;have p:Hid (∀ i,0<=r.getD i 0/\r.getD i 0<=255):=q;clear hb q;go_enter func212,ntmps212;go_wp2;go_loop [3,7] (λx i=>∃ k:Nat,k<=8/\i=.i (k:Int)/\x=.u (le r 0 k)) (λ_ i=>8-(intOf i).toNat);case atStart=>exact ⟨0,aa,rfl,rfl⟩
 case round =>
  obtain ⟨k,B,rfl,rfl⟩:=hrel;by_cases bZ:k<8
  ·obtain ⟨x,b⟩:∃ x,x=r.getD k 0:=⟨_,rfl⟩;obtain ⟨y,c⟩:∃ y,y=le r 0 k:=⟨_,rfl⟩;have u:=p.out k;have z:=zI r p.out k 0;rw [<- b] at u;rw [<- c] at z ⊢;have t:∀ w,(Z5 303 (.agg #[.int .u8 O,.int .u8 A,.int .u8 C,.int .u8 I,.int .u8 L,.int .u8 M,.int .u8 N,.int .u8 o]) (.i (k:Int))).run prog w=.ok (.int .u8 x) w:=(by intro w;rw [b,bs.out];exact Ss O A C I L M N o w k bZ);have S:Hid (X0 .or .u64 y (IntKind.u64.wrap (x*2^(8*k)))=le r 0 (k+1)):=(by show X0 .or .u64 y (IntKind.u64.wrap (x*2^(8*k)))=le r 0 (k+1);have:=FC r p.out 0 k bZ;rw [Z8] at this;rw [b,c];exact this);clear b c;go_wp2;go_round;case rel=>exact ⟨k+1,aa,by go_num,by rw [S.out]⟩
   case measure=>simp [intOf];omega
  ·have s:k=8:=aa;subst s;go_wp2;go_ret;exact ⟨rfl,bal _ _⟩
theorem pI (c:1<=D) (hm:D<=8) (b:0<=O) (hx:O<18446744073709551616): CE 213 #[.u O,.i (D:Int)] G (.u (O%256^D)):=by have F:Hid (IntKind.u64.wrap (O*2^(64-8*D))/2^(64-8*D)=O%256^D):=wG O D c hm b;go_enter func213,ntmps213;go_wp2;go_ret;exact ⟨by rw [<- F.out];rfl,rfl⟩
def lM (zs:List Int) (n:Nat) (addr size:Int):Int:=if iP n addr size then le zs (addr-2147483648).toNat size.toNat else 0
theorem OC (hz:K.length=J) (v:F+8<=J) (r:Sl .u8 R (some ⟨D,0,none⟩) K) (s:∀ y ∈ K,(QB6 .u8 y).wf): ∃ d f h j k l m o:Int,∃ B:{bs:List Int // bs=[d,f,h,j,k,l,m,o]}, R.cell? ⟨D,F,none⟩=some (.int .u8 d)/\R.cell? ⟨D,F+1,none⟩=some (.int .u8 f)/\R.cell? ⟨D,F+2,none⟩=some (.int .u8 h)/\R.cell? ⟨D,F+3,none⟩=some (.int .u8 j) /\ R.cell? ⟨D,F+4,none⟩=some (.int .u8 k)/\R.cell? ⟨D,F+5,none⟩=some (.int .u8 l)/\R.cell? ⟨D,F+6,none⟩=some (.int .u8 m)/\R.cell? ⟨D,F+7,none⟩=some (.int .u8 o) /\ Hid (∀ i,0<=B.1.getD i 0/\B.1.getD i 0<=255)/\Hid (le B.1 0 8=le K F 8):=by
 have c:∀ i,i<8->R.cell? ⟨D,F+i,none⟩=some (.int .u8 (K.getD (F+i) 0)):=by intro i u;obtain ⟨b,t,e,_,q⟩:=r (F+i) aa;simp only [Option.some.injEq,Addr.mk.injEq,and_true] at e;obtain ⟨rfl,rfl⟩:=e;rw [Z8] at q;exact q
 have a:=j7 s;refine ⟨_,_,_,_,_,_,_,_,⟨[K.getD F 0,K.getD (F+1) 0,K.getD (F+2) 0,K.getD (F+3) 0,K.getD (F+4) 0,K.getD (F+5) 0,K.getD (F+6) 0,K.getD (F+7) 0],rfl⟩,c 0 aa,c 1 aa,c 2 aa,c 3 aa,c 4 aa,c 5 aa,c 6 aa,c 7 aa,?_,?_⟩
 ·intro i;match i with
  | 0=>exact a F
  | 1=>exact a (F+1)
  | 2=>exact a (F+2)
  | 3=>exact a (F+3)
  | 4=>exact a (F+4)
  | 5=>exact a (F+5)
  | 6=>exact a (F+6)
  | 7=>exact a (F+7)
  | i+8=>simp
 ·show le [K.getD F 0,K.getD (F+1) 0,K.getD (F+2) 0,K.getD (F+3) 0,K.getD (F+4) 0,K.getD (F+5) 0,K.getD (F+6) 0,K.getD (F+7) 0] 0 8=le K F 8;rfl
theorem pJ (hz:K.length=F) (hn:F<=1048576) (Q:Sl .u8 R (some ⟨D,0,none⟩) K) (S:∀ y ∈ K,(QB6 .u8 y).wf) (O:F<=J) (I:J<=9223372036854775807) (G:0<=L) (j:L<=18446744073709551615): CB 185 #[.slice (some ⟨D,0,none⟩) F J,.u L,.i M] R (.tuple #[.u (lM K F L M),.bool (iP F L M)]):=by
 have zs:Hid (K.length=F):=hz;have c:Hid (∀ y ∈ K,(QB6 .u8 y).wf):=S;clear hz S;cases b:iP F L M;·have q:Hid (lM K F L M=0):=(by show lM K F L M=0;simp [lM,b]);go_enter func185,ntmps185;go_wp2_with (go_at_call 211;refine (km _ _ _ _ _ _ hn G j).mono ?_;rintro e r ⟨rfl,rfl⟩);go_ret2;exact ⟨by rw [q.out];rfl,QC2 _ _⟩
 ·obtain ⟨_,_,hb1,hb2,hs1,hs2,hn1,hn2⟩:=lF b;obtain ⟨f,hf⟩:∃ f:Nat,L=2147483648+(f:Int):=⟨(L-2147483648).toNat,aa⟩;obtain ⟨m,hm⟩:∃ m:Nat,M=(m:Int):=⟨M.toNat,aa⟩;subst hf hm;have q:Hid (lM K F (2147483648+(f:Int)) (m:Int)=le K f m):=(by show lM K F (2147483648+(f:Int)) (m:Int)=le K f m;simp only [lM,b,if_true];rw [show (2147483648+(f:Int)-2147483648).toNat=f from aa,T2]);have size:Hid (dO F (2147483648+(f:Int)) (m:Int)=f):=(by show dO F (2147483648+(f:Int)) (m:Int)=f;simp only [dO,b,if_true];omega);by_cases hle:f<=F-8;·have H:∀ R,(Z6 303 (.slice (some ⟨D,f,none⟩) 8 (J-f))).run prog R=.ok (.p D f) R:=λR=>Y5 R 303 _ 8 _ 8 (J-f) underlying303 aa;obtain ⟨s,t,u,z,A,C,E,n,B,T,U,V,W,X,Y,Z,c7,l,addr⟩:=OC D f F K R zs.out aa Q c.out;go_enter func185,ntmps185;go_wp2_with (first | (go_at_call 211;refine (km _ _ _ _ _ _ hn G j).mono ?_;rw [size.out];rintro e r ⟨rfl,rfl⟩) | (go_at_call 212;refine (tQ B.1 s t u z A C E n _ B.2 l.out).mono ?_;rw [addr.out];rintro e w1 ⟨rfl,o⟩));have w:Hid (le K f 8%256^m=le K f m):=(by have:=Ic K (j7 c.out) f m (8-m);rw [show m+(8-m)=8 from aa] at this;exact this);have N:=tA K (j7 c.out) 8 f aa;refine (pI (le K f 8) m _ aa aa N.1 N.2).mono ?_;rw [w.out];rintro e w2 ⟨rfl,rfl⟩;go_wp2_with fail;go_ret2;exact ⟨by rw [q.out];rfl,o⟩
  ·obtain ⟨p,hp⟩:∃ p,F=p+8:=⟨F-8,aa⟩;obtain ⟨d,hd⟩:∃ d,f=p+d:=⟨f-p,aa⟩;subst hp hd;have H:∀ R,(Z6 303 (.slice (some ⟨D,p,none⟩) 8 (J-p))).run prog R=.ok (.p D p) R:=λR=>Y5 R 303 _ 8 _ 8 (J-p) underlying303 aa;obtain ⟨s,t,u,z,A,C,E,n,B,T,U,V,W,X,Y,Z,c7,l,addr⟩:=OC D p (p+8) K R zs.out aa Q c.out;have P:iP (p+8) (2147483648+((p:Int)+(d:Int))) (m:Int):=(by rw [<- Int.natCast_add];exact b);have g:Hid (le K p 8/2^(8*d)=le K (p+d) (8-d)):=(by show le K p 8/2^(8*d)=le K (p+d) (8-d);have:=OZ K (j7 c.out) p d (8-d);rw [show d+(8-d)=8 from aa] at this;rw [tB];exact this);have w:Hid (le K (p+d) (8-d)%256^m=le K (p+d) m):=(by have:=Ic K (j7 c.out) (p+d) m (8-d-m);rw [show m+(8-d-m)=8-d from aa] at this;exact this);have cap:Hid (0<=le K (p+d) (8-d)/\le K (p+d) (8-d)<18446744073709551616):=tA K (j7 c.out) (8-d) (p+d) aa;go_enter func185,ntmps185;go_wp2_with (first | (go_at_call 211;refine (km _ _ _ _ _ _ hn G j).mono ?_;rw [size.out];rintro e r ⟨rfl,rfl⟩) | (go_at_call 212;refine (tQ B.1 s t u z A C E n _ B.2 l.out).mono ?_;rw [addr.out];rintro e w1 ⟨rfl,o⟩));rw [g.out];refine (pI (le K (p+d) (8-d)) m _ aa aa cap.out.1 cap.out.2).mono ?_;rw [w.out];rintro e w2 ⟨rfl,rfl⟩;go_wp2_with fail;go_ret2;exact ⟨by rw [q.out];rfl,o⟩
def gH (zs:List Int) (n:Nat) (addr size x:Int):Nat:=(jG zs n addr size x).length
theorem Mc:G.ownsRow J 5 1 (.slice none 0 0) 0 (([]:List Int).map (R4 .u8)):=World.ownsRow_nil G J 5 1
theorem vJ (hz:K.length=D) (hn:D<=1048576) (J:Sl .u8 R T K) (S:0<=L) (A:L<=18446744073709551615) (size:0<=N) (hx1:N<=18446744073709551615): Calls prog 191 #[.slice T D F,.u L,.i M,.u N] R λe cap=>∃ (w:Option U6) (c:Nat),e=.returned (.tuple #[.slice w (gH K D L M N) c,.bool (iP D L M)]) /\ cap.ownsRow R.heap.size 5 1 (.slice w (gH K D L M N) c) (gH K D L M N) ((jG K D L M N).map (R4 .u8))/\Bw R cap:=by
 have E:Hid (K.length=D):=hz;clear hz;cases q:iP D L M;·have z:Hid (jG K D L M N=[]):=(by show jG K D L M N=[];simp [jG,q]);have G:Hid (gH K D L M N=0):=(by show gH K D L M N=0;simp [gH,z.out]);go_enter func191,ntmps191;go_wp2_with (go_at_call 211;refine (km _ _ _ _ _ _ hn S A).mono ?_;rintro e cap ⟨rfl,rfl⟩);go_ret2;rw [z.out,G.out];exact ⟨_,_,rfl,Mc _ _,QC2 _ _⟩
 ·obtain ⟨hr,hsz,X,Y,hs1,hs2,hn1,hn2⟩:=lF q;obtain ⟨f,Z⟩:∃ f:Nat,L=2147483648+(f:Int):=⟨(L-2147483648).toNat,aa⟩;obtain ⟨m,hm⟩:∃ m:Nat,M=(m:Int):=⟨M.toNat,aa⟩;subst Z hm;have z:Hid (jG K D (2147483648+(f:Int)) (m:Int) N=iM K f N m):=(by show jG K D (2147483648+(f:Int)) (m:Int) N=iM K f N m;simp only [jG,q,if_true];rw [show (2147483648+(f:Int)-2147483648).toNat=f from aa,T2]);have G:Hid (gH K D (2147483648+(f:Int)) (m:Int) N=D):=(by show gH K D (2147483648+(f:Int)) (m:Int) N=D;rw [gH,z.out,gQ,E.out]);have W:Hid (dO D (2147483648+(f:Int)) (m:Int)=f):=(by show dO D (2147483648+(f:Int)) (m:Int)=f;simp only [dO,q,if_true];omega);obtain ⟨b,Q,rfl,a,I⟩:=J 0 (by have:=E.out;omega);clear I;obtain ⟨V,U,O,n,P⟩:=V8 info5;have C:(prog.info? 5).map (·.size)=some 1:=(by rw [U];simp [n]);have B:V.bytes*D<=281474976710656:=(by rw [P];omega);have H:D<=maxLen:=ct;go_enter func191,ntmps191;go_wp2_with (first | (go_at_call 211;refine (km _ _ _ _ _ _ hn S A).mono ?_;rw [W.out];rintro e cap ⟨rfl,zs⟩;have addr:=zs.symm;subst addr) | (at_make;refine wpList_make_full _ rfl (.tmp 24) (.tmp 24) 22 rfl R.heap.size 5 V (.int .u8 0) 1 underlying22 U O n .i64 .i64 _ _ D rfl rfl rfl rfl B H (Z7 _) ?_;intro w1 s g) | (refine lL rfl (.tmp 26) (.tmp 27) 22 rfl 5 underlying22 C .u8 R.heap.size R.heap.size D D b Q F K _ rfl rfl s (J.below ((QC2 _ _).grown g (Z7 _) l1)) E.out ?_;intro w2 p l));have o:Bw R w2:=QC5 ((QC2 _ _).grown g (Z7 _) l1) l g.size (by intro k h;cases h;exact Z7 _);clear s g l J;go_loopw [30] (λi wr=>∃ j:Nat,j<=m/\i=.i (j:Int)/\wr.ownsRow R.heap.size 5 1 (.slice (some ⟨R.heap.size,0,none⟩) D D) D ((iM K f N j).map (R4 .u8))/\Bw R wr)
   (λi _=>m-(intOf i).toNat)
  case atStart=>exact ⟨0,Nat.zero_le _,rfl,p,o⟩
  case round =>
   obtain ⟨j,hj,rfl,d,r⟩:=hrel;clear p o;by_cases bZ:j<m
   ·have hfr:wr.frozen? ⟨R.heap.size,f+j,none⟩=false:=d.frozenAt (f+j);have y:=(d.stored (f+j) (.int .u8 (N/256^j%256))).1;obtain ⟨v3,hv3⟩:∃ v,wr.cell? ⟨R.heap.size,f+j,none⟩=some v:=(by rw [d.cellAt (f+j) aa];exact ⟨_,A0 (by rw [I4,gQ,E.out];omega)⟩);rw [iR] at y;have t:(wr.setCell ⟨R.heap.size,f+j,none⟩ (.int .u8 (N/256^j%256))).ownsRow R.heap.size 5 1 (.slice (some ⟨R.heap.size,0,none⟩) D D) D ((iM K f N (j+1)).map (R4 .u8)):=y;have u:Bw R (wr.setCell ⟨R.heap.size,f+j,none⟩ (.int .u8 (N/256^j%256))):=r.setCell (Z7 _) _;have x:0<=N/256^j:=T6 size (U0 (T3 aa));clear y d;rw [<- tB] at t u x;go_wp2;go_roundw;case rel=>exact ⟨j+1,aa,by go_num,t,u⟩
    case measure=>simp [intOf];omega
   ·have:j=m:=by omega
    subst this;go_wp2;go_ret2;rw [G.out,z.out];exact ⟨_,_,rfl,d,r⟩
structure FRow where
 t:U8
 v:U3
 n:Nat
 xs:List U3
structure bi (B E:Nat) (w:U5) (L:List FRow):Prop where
 own:∀ r ∈ L,w.ownsRow B r.t 1 r.v r.n r.xs
 hi:∀ r ∈ L,∀ k,r.v.ownBlock=some k->k<E
 ne:L.Pairwise (λr s=>∀ k,r.v.ownBlock=some k->s.v.ownBlock≠some k)
structure oJ (B E:Nat) (w w':U5):Prop where
 os:w'.os=w.os
 tape:w'.tape=w.tape
 output:w'.output=w.output
 size:w.heap.size<=w'.heap.size
 block:∀ k,k<w.heap.size->(k<B\/E<=k)->w'.heap[k]?=w.heap[k]?
theorem oJ.refl:oJ D F G G:=⟨rfl,rfl,rfl,Z7 _,λ_ _ _=>rfl⟩
theorem oJ.below (h:oJ B g w a) (b:x<=B) (d:x<=w.heap.size):Below x w a:=⟨h.os,h.tape,h.output,h.size,λk c=>h.block k aa (.inl aa)⟩
theorem oJ.of_grown {row:Option Nat} (h:w.grownBy a row) (b:∀ k,row=some k->B<=k/\k<x):oJ B x w a :=
 ⟨h.os,h.tape,h.output,h.size,λk w' c=>h.block k w' (λe=>by have:=b k e.symm;omega)⟩
theorem dp {w':U5} (h:w.ownsRow B c 1 f x p) (hk:∀ k,f.ownBlock=some k->w'.heap[k]?=w.heap[k]?):w'.ownsRow B c 1 f x p:=by
 refine ⟨h.1,?_⟩;rcases h.2 with b|⟨g,cap,a,t,b,d,e⟩;·exact .inl b
 ·exact .inr ⟨g,cap,a,t,b,(hk g (by rw [t];rfl)).trans d,e⟩
theorem bi.mono {L:List FRow} (h:bi B x w L) (hk:∀ k,B<=k->k<x->k<w.heap.size->a.heap[k]?=w.heap[k]?):bi B x a L :=
 ⟨λr w'=>dp (h.own r w') (λk e=>hk k ((h.own r w').lt k e).1 (h.hi r w' k e) ((h.own r w').lt k e).2),h.hi,h.ne⟩
theorem bi.below {L:List FRow} (h:bi B x w L) (hb:Bw w a):bi B x a L:=h.mono λk _ _ w'=>hb.block k w'
theorem bi.low {B B':Nat} {L:List FRow} (h:bi B x w L) (hb:B'<=B) (he:x<=g):bi B' g w L :=
 ⟨λr a=>cS (h.own r a) hb,λr a k e=>QA1 (h.hi r a k e) he,h.ne⟩
theorem bi.set {L:List FRow} (h:bi B x w L) (p:U6) (v:U3) (d:p.block<B\/x<=p.block):bi B x (w.setCell p v) L:=h.mono λk a b c=>QC3 w p v k aa
theorem bi.nil:bi D F G []:=⟨λr a=>(nomatch a),λr a=>(nomatch a),List.Pairwise.nil⟩
theorem bi.cons {L:List FRow} (h:bi B x w L) (r:FRow) (base b:Nat) (c:w.ownsRow base r.t 1 r.v r.n r.xs) (g:x<=base) (f:B<=base) (i:w.heap.size<=b) (j:x<=b):bi B b w (r::L):=by
 refine ⟨λs a=>?_,λs a k e=>?_,F0.2 ⟨λs a k e d=>?_,h.ne⟩⟩
 ·rcases G3.1 a with rfl|a;·exact cS c f
  ·exact h.own s a
 ·rcases G3.1 a with rfl|a;·have:=(c.lt k e).2;omega
  ·have:=h.hi s a k e;omega
 ·have:=(c.lt k e).1;have:=h.hi s a k d;omega
theorem bi.snoc {L:List FRow} (h:bi B x w L) (r:FRow) (base b:Nat) (m:w.ownsRow base r.t 1 r.v r.n r.xs) (g:x<=base) (i:B<=base) (j:w.heap.size<=b) (l:x<=b):bi B b w (L++[r]):=by
 have c:=h.cons r base b m g i j l;refine ⟨λs a=>c.own s ?_,λs a=>c.hi s ?_,H8.2 ⟨h.ne,H3 _ _,λs a q d k e f=>?_⟩⟩
 ·rcases H5.1 a with a|a;·exact A5 _ a
  ·rw [H1.1 a];exact F3 ..
 ·rcases H5.1 a with a|a;·exact A5 _ a
  ·rw [H1.1 a];exact F3 ..
 ·simp only [H1] at d;subst d;exact (F0.1 c.ne).1 s a k f e
theorem bi.mark {L1 L2:List FRow} {r:FRow} (h:bi B x w (L1++r::L2)) (i:w.grownBy a r.v.ownBlock) (xs:List U3) (l:a.ownsRow B r.t 1 r.v r.n xs):bi B x a (L1++⟨r.t,r.v,r.n,xs⟩::L2)/\oJ B x w a:=by
 have b:=H8.1 h.ne;have c:=F0.1 b.2.1;have kept:∀ s ∈ L1++r::L2,(∀ k,s.v.ownBlock=some k->r.v.ownBlock≠some k)->a.ownsRow B s.t 1 s.v s.n s.xs:=λs w' j=>dp (h.own s w') (λk e=>i.block k ((h.own s w').lt k e).2 (λd=>j k e d.symm));have g:r ∈ L1++r::L2:=bh
 refine ⟨⟨λs w'=>?_,λs w' k e=>?_,?_⟩,oJ.of_grown i λk e=>⟨((h.own r g).lt k e).1,h.hi r g k e⟩⟩
 ·rcases H5.1 w' with w' | w';·exact kept s (K4 _ w') (λk e=>b.2.2 s w' r (F3 ..) k e)
  ·rcases G3.1 w' with rfl|w';·exact l
   ·exact kept s (K1 _ (A5 _ w')) (λk e d=>c.1 s w' k d e)
 ·rcases H5.1 w' with w'|w';·exact h.hi s (K4 _ w') k e
  ·rcases G3.1 w' with rfl|w';·exact h.hi r g k e
   ·exact h.hi s (K1 _ (A5 _ w')) k e
 ·refine H8.2 ⟨b.1,F0.2 ⟨λs w' k e=>c.1 s w' k e,c.2⟩,λs w' q f k e=>?_⟩;rcases G3.1 f with rfl | f;·exact b.2.2 s w' r (F3 ..) k e
  ·exact b.2.2 s w' q (A5 _ f) k e
def aI (a:Option U6) (n c:Nat) (xs:List Int):FRow:=⟨5,.slice a n c,n,xs.map (R4 .u8)⟩
def oK (a:Option U6) (e c:Nat) (xs:List Int) (b:Option U6) (f d:Nat) (ys:List Int):List FRow:=[aI a e c xs,aI b f d ys]
theorem ah {p:Prop} (h:p):Hid p:=h
theorem aA (hb:Bw w a) {g:Nat} {o:Obj} (h:w.heap[g]?=some o):a.heap[g]?=some o:=by rw [hb.block g (QD2.1 h).1];exact h
theorem cW (h:w.heap[g]?=some (.cells #[E,b,n,d,e,f] c (0,0))):w.cell? ⟨g,0,none⟩=some E/\w.cell? ⟨g,1,none⟩=some b/\w.cell? ⟨g,2,none⟩=some n/\w.cell? ⟨g,3,none⟩=some d/\w.cell? ⟨g,4,none⟩=some e/\w.cell? ⟨g,5,none⟩=some f:=by refine ⟨?_,?_,?_,?_,?_,?_⟩<;>simp [QC8,h]
theorem fK (h:w.heap[g]?=some (.cells j c (0,0))) (i:Nat):w.frozen? ⟨g,i,none⟩=false:=by simp [World.frozen?,h]
theorem wI (h:w.heap[g]?=some (.cells j c (0,0))):w.frozen? ⟨g,0,none⟩=false/\w.frozen? ⟨g,1,none⟩=false/\w.frozen? ⟨g,2,none⟩=false/\w.frozen? ⟨g,3,none⟩=false/\w.frozen? ⟨g,4,none⟩=false/\w.frozen? ⟨g,5,none⟩=false :=
 ⟨fK h 0,fK h 1,fK h 2,fK h 3,fK h 4,fK h 5⟩
theorem tR {w:U5} {o1 o2:Obj} (hb:Below ((w.alloc o1).alloc o2).heap.size ((w.alloc o1).alloc o2) a):a.heap[w.heap.size]?=some o1/\a.heap[w.heap.size+1]?=some o2:=by have w2:=U7 (w.alloc o1) o2;rw [World.size_alloc] at w2;exact ⟨aA hb ((QC4 _ _ _ d4).trans (U7 w o1)),aA hb w2⟩
theorem bj (h:w.heap[g]?=some (.cells j c l)) (i:Nat) (v:U3): (w.setCell ⟨g,i,none⟩ v).heap[g]?=some (.cells (j.setIfInBounds i v) c l):=by simp [QC9,Array.getElem?_modify,h]
theorem mt (h:w.heap[g]?=some Q) (p:U6) (v:U3) (a:g≠p.block):(w.setCell p v).heap[g]?=some Q:=(QC3 w p v g a).trans h
theorem cy (p:U6) (v:U3):(G.setCell p v).heap.size=G.heap.size:=by simp [QC9]
theorem lN:(prog.info? 34).map (·.size)=some 6:=by kernel_rfl
def Pb (w:U5) (g:Nat) (a b c x3 d e:U3):World:=(((((w.setCell ⟨g,0,none⟩ a).setCell ⟨g,1,none⟩ b).setCell ⟨g,2,none⟩ c).setCell ⟨g,3,none⟩ x3).setCell ⟨g,4,none⟩ d).setCell ⟨g,5,none⟩ e
theorem lO (h:w.heap[g]?=some (.cells #[E,b,n,d,e,f] c l)) (i j k x3 t m:U3):(Pb w g i j k x3 t m).heap[g]?=some (.cells #[i,j,k,x3,t,m] c l):=
 bj (bj (bj (bj (bj (bj h 0 i) 1 j) 2 k) 3 x3) 4 t) 5 m
theorem iT (h:Below B a w) {g:Nat} (v:B<=g) (b c d x3 e f:U3):Below B a (Pb w g b c d x3 e f):=
 (((((h.setCell (by exact v) b).setCell (by exact v) c).setCell (by exact v) d).setCell (by exact v) x3).setCell (by exact v) e).setCell (by exact v) f
theorem bi.put6 {L:List FRow} (h:bi B x w L) (g:Nat) (a:g<B\/x<=g) (b c d x3 e f:U3):bi B x (Pb w g b c d x3 e f) L :=
 (((((h.set ⟨g,0,none⟩ b a).set ⟨g,1,none⟩ c a).set ⟨g,2,none⟩ d a).set ⟨g,3,none⟩ x3 a).set ⟨g,4,none⟩ e a).set ⟨g,5,none⟩ f a
theorem Cp (hb:J<=G.heap.size) (o:Obj) (a:o=.cells #[] 5 (0,0)):(G.alloc o).ownsRow J 5 1 (.slice (some ⟨G.heap.size,0,none⟩) 0 0) 0 []:=by subst a;exact World.ownsRow_lit G #[] 0 hb ct rfl
theorem zO (p:t.guard=none) (s x:X7) (I:t.op=.call {callee:=.builtin .append,args:=#[s,x],argTypes:=#[22,22]}) (base g:Nat) (J:m.eval s=.slice (some ⟨g,0,none⟩) 0 0) (d:w.ownsRow base 5 1 (.slice (some ⟨g,0,none⟩) 0 0) 0 []) (ad:Option U6) (a c:Nat) (zs:List Int) (hx:m.eval x=.slice ad a c) (hz:zs.length=a) (hm:a<=1048576) (q:Sl .u8 w ad zs) (f:base<=w.heap.size) (h:∀ l n rest,rest.ownsRow base 5 1 (.slice l a n) a (zs.map (R4 .u8))->w.grownBy rest (some g)->wpList prog k y o (m.put t.dst (.slice l a n)) rest):wpList prog k y (t::o) m w:=by
 obtain ⟨L,H,B,C,D⟩:=V8 info5;cases ad with
 | none =>
   have z:a=0:=by
    rcases Z9 a with G|G;·exact G
    ·obtain ⟨b,F,e,_⟩:=q 0 aa;cases e
   subst z;have E:zs=[]:=List.length_eq_zero_iff.1 hz;subst E;refine V0 p λK R=>?_;have T:=run_append_room_src (P:=prog) w 22 22 t.type 5 L underlying22 H g 0 0 0 (.slice none 0 c) 0 [] (Src.ofNil w underlying22 c) aa (λj i=>by simp at i) (λj i=>by simp at i);unfold QD1 V9;simp only [I,resolve,invoke,builtin,QB4,QB5,QB7,L7,M7,P2,J,hx,T];exact R _ _ (h _ _ w d ⟨rfl,rfl,rfl,Z7 _,λ_ _ _=>rfl⟩)
 | some A =>
   have r:∀ j u,(zs.map (R4 .u8))[j]?=some u->w.cell? (A.add j)=some u:=by
    intro j u v;have i:j<zs.length:=by
     rcases QA0 j zs.length with h|h;·exact h
     ·rw [A6 dd] at v;cases v
    obtain ⟨b,F,e,_,S⟩:=q j i;cases e;rw [FH,S];rw [L5,A0 i] at v;rw [List.getD_eq_getElem?_getD,A0 i];exact v
   refine wpList_append_own _ p s x 22 I base 5 L (.int .u8 0) 1 1 underlying22 H B C D rfl ba _ 0 [] J d A a c (zs.map (R4 .u8)) hx (by rw [I4,hz];omega) r (Y4 _ _) ct aa f ?_;intro V rest Q O X;simp only [Z8,List.nil_append] at Q;have U:∃ l n,V=.slice l a n:=by
    rcases Q.2 with ⟨e,N⟩|⟨W,cap,M,e,_⟩;·exact ⟨none,0,by rw [e,N]⟩
    ·exact ⟨_,_,e⟩
   obtain ⟨l,n,rfl⟩:=U;exact h l n rest Q O
structure DV where
 t:Int
 cm:Int
 so:Bool
 xs:List Int
 ys:List Int
 ir:Int
def zeroD:DV:=⟨0,0,false,[],[],0⟩
def iU (D:DV) (a:Option U6) (c:Nat) (b:Option U6) (d:Nat):Array Value:=#[.u D.t,.u D.cm,.bool D.so,.slice a D.xs.length c,.slice b D.ys.length d,.i D.ir]
theorem fp (D:DV) (a:Option U6) (c:Nat) (b:Option U6) (d:Nat):(iU D a c b d).all (·.oneCell'):=by simp [iU,R5]
def zP (D:DV) (a:Option U6) (c:Nat) (b:Option U6) (d:Nat):List FRow:=oK a D.xs.length c D.xs b D.ys.length d D.ys
def cT (D:DV):Prop:=(∀ y ∈ D.xs,(QB6 .u8 y).wf=true)/\∀ y ∈ D.ys,(QB6 .u8 y).wf
def lm (b c:Nat) (a:Int):Bool:=decide (b<=16)&&decide (c<=4096)&&decide (0<=a/\a<=1)
def ic (addr size:Int):Nat :=
 if addr=33554432/\size=4 then 0 else if addr=33570816/\size=8 then 1 else if addr=33603576/\size=8 then 2 else if addr=268435456/\size=1 then 3 else if addr=268435457/\size=1 then 4 else if addr=268435461/\size=1 then 5 else 6
def jW (b:Bool):Int:=if b=true then 1 else 0
def ml (D:DV):Nat->Int × DV × Bool
 | 0=>(jW D.so,D,true)
 | 1=>(D.cm,D,true)
 | 2=>(D.t,D,true)
 | 3=>(D.xs.getD 0 0,⟨D.t,D.cm,D.so,D.xs.drop 1,D.ys,D.ir⟩,true)
 | 4=>(IntKind.u64.wrap D.ir,D,true)
 | 5=>(IntKind.u64.wrap (32+jW (decide (0<D.xs.length))),D,true)
 | _=>(0,zeroD,false)
def fy (D:DV) (x:Int):Nat->DV × Bool
 | 0=>(⟨D.t,D.cm,X0 .and .u64 x 1==1,D.xs,D.ys,D.ir⟩,true)
 | 1=>(⟨D.t,x,D.so,D.xs,D.ys,D.ir⟩,true)
 | 2=>(⟨x,D.cm,D.so,D.xs,D.ys,D.ir⟩,true)
 | 3=>(⟨D.t,D.cm,D.so,D.xs,if D.ys.length<4096 then D.ys++[IntKind.u8.wrap x] else D.ys,D.ir⟩,true)
 | 4=>(⟨D.t,D.cm,D.so,D.xs,D.ys,wrap64 (X0 .and .u64 x 1)⟩,true)
 | 5=>(D,true)
 | _=>(zeroD,false)
def dK (D:DV):Int:=IntKind.u64.wrap (IntKind.u64.wrap (IntKind.u64.wrap (8*jW D.so)+IntKind.u64.wrap (128*jW (decide (D.cm<=D.t))))+IntKind.u64.wrap (2048*jW ((D.ir==1)&&decide (0<D.xs.length))))
def tT (D:DV) (addr size:Int):Int × DV × Bool:=if lm D.xs.length D.ys.length D.ir=true then ml D (ic addr size) else (0,zeroD,false)
def qJ (D:DV) (addr size x:Int):DV × Bool:=if lm D.xs.length D.ys.length D.ir=true then fy D x (ic addr size) else (zeroD,false)
def fL (D:DV):Int:=if lm D.xs.length D.ys.length D.ir=true then dK D else 0
def ky (D:DV) (n:Int):DV:=if (lm D.xs.length D.ys.length D.ir&&!decide (n<0))=true then ⟨IntKind.u64.wrap (D.t+IntKind.u64.wrap n),D.cm,D.so,D.xs,D.ys,D.ir⟩ else zeroD
def lP (D:DV) (b:Int):DV:=if lm D.xs.length D.ys.length D.ir=true then ⟨D.t,D.cm,D.so,if D.xs.length<16 then D.xs++[b] else D.xs,D.ys,D.ir⟩ else zeroD
theorem lQ (P:Nat->Prop) (c:O=33554432->A=4->P 0) (d:O=33570816->A=8->P 1) (e:O=33603576->A=8->P 2) (f:O=268435456->A=1->P 3) (g:O=268435457->A=1->P 4) (i:O=268435461->A=1->P 5) (j:(O=33554432->¬ A=4)->(O=33570816->¬ A=8)->(O=33603576->¬ A=8)->(O=268435456->¬ A=1)->(O=268435457->¬ A=1)->(O=268435461->¬ A=1)->P 6):P (ic O A):=by
 unfold ic;split;·rename_i h;exact c h.1 h.2
 ·rename_i k;split;·rename_i h;exact d h.1 h.2
  ·rename_i l;split;·rename_i h;exact e h.1 h.2
   ·rename_i m;split;·rename_i h;exact f h.1 h.2
    ·rename_i n;split;·rename_i h;exact g h.1 h.2
     ·rename_i o;split;·rename_i h;exact i h.1 h.2
      ·rename_i p;exact j (λa b=>k ⟨a,b⟩) (λa b=>l ⟨a,b⟩) (λa b=>m ⟨a,b⟩) (λa b=>n ⟨a,b⟩) (λa b=>o ⟨a,b⟩) (λa b=>p ⟨a,b⟩)
theorem kz:bi D F G (zP zeroD none 0 none 0):=by
 refine ⟨λr a=>?_,λr a k e=>?_,?_⟩
 ·simp only [zP,oK,G3,L6,or_false] at a;rcases a with rfl|rfl;·exact ⟨rfl,.inl ⟨rfl,rfl⟩⟩
  ·exact ⟨rfl,.inl ⟨rfl,rfl⟩⟩
 ·simp only [zP,oK,G3,L6,or_false] at a;rcases a with rfl|rfl;·cases e
  ·cases e
 ·exact F0.2 ⟨λs b k e=>ki,H3 _ _⟩
theorem bi.newIn {i j:Nat} {d:Option U6} {e:Nat} {ys:List Int} (h:bi B x w (oK q i j s d g e ys)) (a:Option U6) (n c:Nat) (zs:List Int) (base b:Nat) (p:w.ownsRow base 5 1 (.slice a n c) n (zs.map (R4 .u8))) (k:x<=base) (l:B<=base) (m:w.heap.size<=b) (o:x<=b):bi B b w (oK a n c zs d g e ys):=by have t:bi B x w [aI d g e ys]:=⟨λr f=>h.own r (A5 _ f),λr f=>h.hi r (A5 _ f),(F0.1 h.ne).2⟩;exact t.cons (aI a n c zs) base b p k l m o
theorem bi.newOut {e:Nat} {i:Option U6} {d j:Nat} {ys:List Int} (h:bi B x w (oK q g e s i d j ys)) (a:Option U6) (n c:Nat) (zs:List Int) (base b:Nat) (p:w.ownsRow base 5 1 (.slice a n c) n (zs.map (R4 .u8))) (k:x<=base) (l:B<=base) (m:w.heap.size<=b) (o:x<=b):bi B b w (oK q g e s a n c zs):=by have t:bi B x w [aI q g e s]:=⟨λr f=>h.own r (by rw [H1.1 f];exact F3 ..),λr f=>h.hi r (by rw [H1.1 f];exact F3 ..),H3 _ _⟩;exact t.snoc (aI a n c zs) base b p k l m o
theorem mu {P:V5} {fn:Func} {s p u:Tmp} {ty:U8} (h:fn.results=#[.tmp s,.cell p ty,.tmp u]) (tmps:Array U3) (w:U5) (g:Nat) (t:U8) (cs:Array U3) (e:Nat × Nat) (d:Y2) (k:tmps.getD p undef=.p g 0) (i:w.heap[g]?=some (.cells cs t e)) (l:P.underlying ty=some d) (hd:(match d with | .struct _ | .array _ _=>true | _=>false)=true) (j:(P.info? ty).map (·.size)=some cs.size):(results fn tmps).run P w=.ok (.tuple #[tmps.getD s undef,.agg cs,tmps.getD u undef]) w:=by
 have f:(results fn tmps).run P w=((asAddr (tmps.getD p undef)).run P w).andThen λa b=>((loadVar ty a).run P b).andThen λv c=>.ok (.tuple #[tmps.getD s undef,v,tmps.getD u undef]) c:=by simp only [results,h];simp [QB4,QB8]
 rw [f,k];simp [asAddr,V7 w g t ty cs e d i l hd j]
theorem rH {P:V5} {fn:Func} {p u:Tmp} {ty:U8} (h:fn.results=#[.cell p ty,.tmp u]) (tmps:Array U3) (w:U5) (g:Nat) (t:U8) (cs:Array U3) (e:Nat × Nat) (d:Y2) (k:tmps.getD p undef=.p g 0) (i:w.heap[g]?=some (.cells cs t e)) (l:P.underlying ty=some d) (hd:(match d with | .struct _ | .array _ _=>true | _=>false)=true) (j:(P.info? ty).map (·.size)=some cs.size):(results fn tmps).run P w=.ok (.tuple #[.agg cs,tmps.getD u undef]) w:=by
 have f:(results fn tmps).run P w=((asAddr (tmps.getD p undef)).run P w).andThen λa b=>((loadVar ty a).run P b).andThen λv c=>.ok (.tuple #[v,tmps.getD u undef]) c:=by simp only [results,h];simp [QB4,QB8]
 rw [f,k];simp [asAddr,V7 w g t ty cs e d i l hd j]
structure MV where
 pc:Int
 x:List Int
 pr:Int
 cs:List Int
 ram:List Int
 d:DV
 hd:Int
 hl:Bool
 wt:Bool
structure MA where
 ax:Option U6
 cx:Nat
 ac:Option U6
 cc:Nat
 ar:Option U6
 cr:Nat
 ai:Option U6
 ci:Nat
 ao:Option U6
 co:Nat
def au:MV:=⟨0,[],0,[],[],zeroD,0,false,false⟩
def zeroA:MA:=⟨none,0,none,0,none,0,none,0,none,0⟩
def aJ (M:MV) (A:MA):Array Value:=#[.u M.pc,.slice A.ax M.x.length A.cx,.i M.pr,.slice A.ac M.cs.length A.cc,.slice A.ar M.ram.length A.cr,.u M.d.t,.u M.d.cm,.bool M.d.so,.slice A.ai M.d.xs.length A.ci,.slice A.ao M.d.ys.length A.co,.i M.d.ir,.u M.hd,.bool M.hl,.bool M.wt]
def aK (a:Option U6) (n c:Nat) (xs:List Int):FRow:=⟨32,.slice a n c,n,xs.map (R4 .u64)⟩
def aU (M:MV) (A:MA):List FRow:=[aK A.ax M.x.length A.cx M.x,aK A.ac M.cs.length A.cc M.cs,aI A.ar M.ram.length A.cr M.ram,aI A.ai M.d.xs.length A.ci M.d.xs,aI A.ao M.d.ys.length A.co M.d.ys]
structure D7 (w:U5) (M:MV) (A:MA):Prop where
 x:Sl .u64 w A.ax M.x
 cs:Sl .u64 w A.ac M.cs
 ram:Sl .u8 w A.ar M.ram
 xs:Sl .u8 w A.ai M.d.xs
 ys:Sl .u8 w A.ao M.d.ys
theorem D7.below {M:MV} {A:MA} (h:D7 w M A) (hb:Bw w a):D7 a M A:=⟨h.x.below hb,h.cs.below hb,h.ram.below hb,h.xs.below hb,h.ys.below hb⟩
theorem bi.msl {M:MV} {A:MA} (h:bi B x w (aU M A)):D7 w M A :=
 ⟨gj (h.own (aK A.ax M.x.length A.cx M.x) d5),gj (h.own (aK A.ac M.cs.length A.cc M.cs) d5),gj (h.own (aI A.ar M.ram.length A.cr M.ram) d5),gj (h.own (aI A.ai M.d.xs.length A.ci M.d.xs) d5),gj (h.own (aI A.ao M.d.ys.length A.co M.d.ys) d5)⟩
theorem br {v3 v4 i j k a t v13:U3} (h:w.heap[g]?=some (.cells #[d,E,n,v3,v4,e,f,i,j,k,a,b,t,v13] c (0,0))):w.cell? ⟨g,0,none⟩=some d/\w.cell? ⟨g,1,none⟩=some E/\w.cell? ⟨g,2,none⟩=some n/\w.cell? ⟨g,3,none⟩=some v3/\w.cell? ⟨g,4,none⟩=some v4/\w.cell? ⟨g,5,none⟩=some e/\w.cell? ⟨g,6,none⟩=some f/\w.cell? ⟨g,7,none⟩=some i/\w.cell? ⟨g,8,none⟩=some j/\w.cell? ⟨g,9,none⟩=some k/\w.cell? ⟨g,10,none⟩=some a/\w.cell? ⟨g,11,none⟩=some b/\w.cell? ⟨g,12,none⟩=some t/\w.cell? ⟨g,13,none⟩=some v13:=by simp [QC8,h]
theorem fd (h:w.heap[g]?=some (.cells j c (0,0))):w.frozen? ⟨g,0,none⟩=false/\w.frozen? ⟨g,1,none⟩=false/\w.frozen? ⟨g,2,none⟩=false/\w.frozen? ⟨g,3,none⟩=false/\w.frozen? ⟨g,4,none⟩=false/\w.frozen? ⟨g,5,none⟩=false/\w.frozen? ⟨g,6,none⟩=false/\w.frozen? ⟨g,7,none⟩=false/\w.frozen? ⟨g,8,none⟩=false/\w.frozen? ⟨g,9,none⟩=false/\w.frozen? ⟨g,10,none⟩=false/\w.frozen? ⟨g,11,none⟩=false/\w.frozen? ⟨g,12,none⟩=false/\w.frozen? ⟨g,13,none⟩=false :=
 ⟨fK h 0,fK h 1,fK h 2,fK h 3,fK h 4,fK h 5,fK h 6,fK h 7,fK h 8,fK h 9,fK h 10,fK h 11,fK h 12,fK h 13⟩
def Il (w:U5) (g:Nat) (e f h x3 i j k l m n a b c d:U3):World:=(((((((((((((w.setCell ⟨g,0,none⟩ e).setCell ⟨g,1,none⟩ f).setCell ⟨g,2,none⟩ h).setCell ⟨g,3,none⟩ x3).setCell ⟨g,4,none⟩ i).setCell ⟨g,5,none⟩ j).setCell ⟨g,6,none⟩ k).setCell ⟨g,7,none⟩ l).setCell ⟨g,8,none⟩ m).setCell ⟨g,9,none⟩ n).setCell ⟨g,10,none⟩ a).setCell ⟨g,11,none⟩ b).setCell ⟨g,12,none⟩ c).setCell ⟨g,13,none⟩ d
theorem wJ {w:U5} {g:Nat} {O v1 v2 v3 v4 z y x v u f e c v13:U3} {t:U8} {o:Nat × Nat} (h:w.heap[g]?=some (.cells #[O,v1,v2,v3,v4,z,y,x,v,u,f,e,c,v13] t o)) (a b d x3 j k m n q r i l p s:U3):(Il w g a b d x3 j k m n q r i l p s).heap[g]?=some (.cells #[a,b,d,x3,j,k,m,n,q,r,i,l,p,s] t o):=by have E:(w.setCell ⟨g,0,none⟩ a).heap[g]?=some (.cells #[a,v1,v2,v3,v4,z,y,x,v,u,f,e,c,v13] t o):=bj h 0 a;have F:((w.setCell ⟨g,0,none⟩ a).setCell ⟨g,1,none⟩ b).heap[g]?=some (.cells #[a,b,v2,v3,v4,z,y,x,v,u,f,e,c,v13] t o):=bj E 1 b;have G:(((w.setCell ⟨g,0,none⟩ a).setCell ⟨g,1,none⟩ b).setCell ⟨g,2,none⟩ d).heap[g]?=some (.cells #[a,b,d,v3,v4,z,y,x,v,u,f,e,c,v13] t o):=bj F 2 d;have H:((((w.setCell ⟨g,0,none⟩ a).setCell ⟨g,1,none⟩ b).setCell ⟨g,2,none⟩ d).setCell ⟨g,3,none⟩ x3).heap[g]?=some (.cells #[a,b,d,x3,v4,z,y,x,v,u,f,e,c,v13] t o):=bj G 3 x3;have I:(((((w.setCell ⟨g,0,none⟩ a).setCell ⟨g,1,none⟩ b).setCell ⟨g,2,none⟩ d).setCell ⟨g,3,none⟩ x3).setCell ⟨g,4,none⟩ j).heap[g]?=some (.cells #[a,b,d,x3,j,z,y,x,v,u,f,e,c,v13] t o):=bj H 4 j;have J:((((((w.setCell ⟨g,0,none⟩ a).setCell ⟨g,1,none⟩ b).setCell ⟨g,2,none⟩ d).setCell ⟨g,3,none⟩ x3).setCell ⟨g,4,none⟩ j).setCell ⟨g,5,none⟩ k).heap[g]?=some (.cells #[a,b,d,x3,j,k,y,x,v,u,f,e,c,v13] t o):=bj I 5 k;have K:(((((((w.setCell ⟨g,0,none⟩ a).setCell ⟨g,1,none⟩ b).setCell ⟨g,2,none⟩ d).setCell ⟨g,3,none⟩ x3).setCell ⟨g,4,none⟩ j).setCell ⟨g,5,none⟩ k).setCell ⟨g,6,none⟩ m).heap[g]?=some (.cells #[a,b,d,x3,j,k,m,x,v,u,f,e,c,v13] t o):=bj J 6 m;have L:((((((((w.setCell ⟨g,0,none⟩ a).setCell ⟨g,1,none⟩ b).setCell ⟨g,2,none⟩ d).setCell ⟨g,3,none⟩ x3).setCell ⟨g,4,none⟩ j).setCell ⟨g,5,none⟩ k).setCell ⟨g,6,none⟩ m).setCell ⟨g,7,none⟩ n).heap[g]?=some (.cells #[a,b,d,x3,j,k,m,n,v,u,f,e,c,v13] t o):=bj K 7 n;have M:(((((((((w.setCell ⟨g,0,none⟩ a).setCell ⟨g,1,none⟩ b).setCell ⟨g,2,none⟩ d).setCell ⟨g,3,none⟩ x3).setCell ⟨g,4,none⟩ j).setCell ⟨g,5,none⟩ k).setCell ⟨g,6,none⟩ m).setCell ⟨g,7,none⟩ n).setCell ⟨g,8,none⟩ q).heap[g]?=some (.cells #[a,b,d,x3,j,k,m,n,q,u,f,e,c,v13] t o):=bj L 8 q;have N:((((((((((w.setCell ⟨g,0,none⟩ a).setCell ⟨g,1,none⟩ b).setCell ⟨g,2,none⟩ d).setCell ⟨g,3,none⟩ x3).setCell ⟨g,4,none⟩ j).setCell ⟨g,5,none⟩ k).setCell ⟨g,6,none⟩ m).setCell ⟨g,7,none⟩ n).setCell ⟨g,8,none⟩ q).setCell ⟨g,9,none⟩ r).heap[g]?=some (.cells #[a,b,d,x3,j,k,m,n,q,r,f,e,c,v13] t o):=bj M 9 r;have A:(((((((((((w.setCell ⟨g,0,none⟩ a).setCell ⟨g,1,none⟩ b).setCell ⟨g,2,none⟩ d).setCell ⟨g,3,none⟩ x3).setCell ⟨g,4,none⟩ j).setCell ⟨g,5,none⟩ k).setCell ⟨g,6,none⟩ m).setCell ⟨g,7,none⟩ n).setCell ⟨g,8,none⟩ q).setCell ⟨g,9,none⟩ r).setCell ⟨g,10,none⟩ i).heap[g]?=some (.cells #[a,b,d,x3,j,k,m,n,q,r,i,e,c,v13] t o):=bj N 10 i;have B:((((((((((((w.setCell ⟨g,0,none⟩ a).setCell ⟨g,1,none⟩ b).setCell ⟨g,2,none⟩ d).setCell ⟨g,3,none⟩ x3).setCell ⟨g,4,none⟩ j).setCell ⟨g,5,none⟩ k).setCell ⟨g,6,none⟩ m).setCell ⟨g,7,none⟩ n).setCell ⟨g,8,none⟩ q).setCell ⟨g,9,none⟩ r).setCell ⟨g,10,none⟩ i).setCell ⟨g,11,none⟩ l).heap[g]?=some (.cells #[a,b,d,x3,j,k,m,n,q,r,i,l,c,v13] t o):=bj A 11 l;have C:(((((((((((((w.setCell ⟨g,0,none⟩ a).setCell ⟨g,1,none⟩ b).setCell ⟨g,2,none⟩ d).setCell ⟨g,3,none⟩ x3).setCell ⟨g,4,none⟩ j).setCell ⟨g,5,none⟩ k).setCell ⟨g,6,none⟩ m).setCell ⟨g,7,none⟩ n).setCell ⟨g,8,none⟩ q).setCell ⟨g,9,none⟩ r).setCell ⟨g,10,none⟩ i).setCell ⟨g,11,none⟩ l).setCell ⟨g,12,none⟩ p).heap[g]?=some (.cells #[a,b,d,x3,j,k,m,n,q,r,i,l,p,v13] t o):=bj B 12 p;have D:((((((((((((((w.setCell ⟨g,0,none⟩ a).setCell ⟨g,1,none⟩ b).setCell ⟨g,2,none⟩ d).setCell ⟨g,3,none⟩ x3).setCell ⟨g,4,none⟩ j).setCell ⟨g,5,none⟩ k).setCell ⟨g,6,none⟩ m).setCell ⟨g,7,none⟩ n).setCell ⟨g,8,none⟩ q).setCell ⟨g,9,none⟩ r).setCell ⟨g,10,none⟩ i).setCell ⟨g,11,none⟩ l).setCell ⟨g,12,none⟩ p).setCell ⟨g,13,none⟩ s).heap[g]?=some (.cells #[a,b,d,x3,j,k,m,n,q,r,i,l,p,s] t o):=bj C 13 s;exact D
theorem rI (h:Below B a w) {g:Nat} (v:B<=g) (f i j x3 k l m n o q b c d e:U3):Below B a (Il w g f i j x3 k l m n o q b c d e):=
 ((((((((((((((h.setCell (p:=⟨g,0,none⟩) v f).setCell (p:=⟨g,1,none⟩) v i).setCell (p:=⟨g,2,none⟩) v j).setCell (p:=⟨g,3,none⟩) v x3).setCell (p:=⟨g,4,none⟩) v k).setCell (p:=⟨g,5,none⟩) v l).setCell (p:=⟨g,6,none⟩) v m).setCell (p:=⟨g,7,none⟩) v n).setCell (p:=⟨g,8,none⟩) v o).setCell (p:=⟨g,9,none⟩) v q).setCell (p:=⟨g,10,none⟩) v b).setCell (p:=⟨g,11,none⟩) v c).setCell (p:=⟨g,12,none⟩) v d).setCell (p:=⟨g,13,none⟩) v e)
theorem bi.put14 {L:List FRow} (h:bi B x w L) (g:Nat) (a:g<B\/x<=g) (f i j x3 k l m n o p b c d e:U3):bi B x (Il w g f i j x3 k l m n o p b c d e) L :=
 ((((((((((((((h.set ⟨g,0,none⟩ f a).set ⟨g,1,none⟩ i a).set ⟨g,2,none⟩ j a).set ⟨g,3,none⟩ x3 a).set ⟨g,4,none⟩ k a).set ⟨g,5,none⟩ l a).set ⟨g,6,none⟩ m a).set ⟨g,7,none⟩ n a).set ⟨g,8,none⟩ o a).set ⟨g,9,none⟩ p a).set ⟨g,10,none⟩ b a).set ⟨g,11,none⟩ c a).set ⟨g,12,none⟩ d a).set ⟨g,13,none⟩ e a)
theorem ei:(prog.info? 36).map (·.size)=some 14:=by kernel_rfl
theorem aB (h:w.heap[g]?=some Q) (a:Obj):(w.alloc a).heap[g]?=some Q:=(QC4 w a g (QD2.1 h).1).trans h
theorem QZ (w1:(w.alloc Q).grownBy a (some g)) (b:g=w.heap.size):Bw w a:=by subst b;exact QC5 ((QC2 _ _).alloc (Z7 _) Q) w1 bh (λk c=>by simp at c;omega)
theorem xU (h:lm x g P):x<=16/\g<=4096/\0<=P/\P<=1:=by unfold lm at h;simp only [QD5,JZ6] at h;exact ⟨h.1.1,h.1.2,h.2.1,h.2.2⟩
def U (x:Int):Prop:=0<=x/\x<18446744073709551616
def bt (x:Int) (i:Nat):Bool:=(U1 64 x).getLsbD i
theorem bq:U (IntKind.u64.wrap O):=by rw [Y6];exact ⟨T5 _ aa,T4 _ aa⟩
theorem af (o:BinOp) (x y:Int):U (X0 o .u64 x y):=bq _
theorem Cq:U1 64 (IntKind.u64.wrap O)=U1 64 O:=by rw [Y6];apply BitVec.eq_of_toInt_eq;rw [U2,U2];exact Int.emod_bmod O (2^64)
theorem pK (v:BitVec 64):U1 64 (IntKind.u64.wrap (v.toNat:Int))=v:=by rw [Cq];simp
theorem aq:bt (X0 .and .u64 O A) D=(bt O D&&bt A D):=by show (U1 64 (IntKind.u64.wrap ((U1 64 O &&& U1 64 A).toNat:Int))).getLsbD D=_;rw [pK];simp [bt]
theorem bC:bt (X0 .or .u64 O A) D=(bt O D||bt A D):=by show (U1 64 (IntKind.u64.wrap ((U1 64 O ||| U1 64 A).toNat:Int))).getLsbD D=_;rw [pK];simp [bt]
theorem aw (a:D<64):bt (X0 .andNot .u64 O A) D=(bt O D&&!bt A D):=by show (U1 64 (IntKind.u64.wrap ((U1 64 O &&& ~~~U1 64 A).toNat:Int))).getLsbD D=_;rw [pK];simp [bt,a]
theorem nl (h:U O) (i:Nat):bt O i=O.toNat.testBit i:=by
 obtain ⟨a,b⟩:=h;obtain ⟨n,rfl⟩:=T0 a;have c:n<2^64:=aa
 unfold bt;rw [<- BitVec.testBit_toNat,X8 n aa,T2]
theorem aS (hx:U O) (f:U A) (h:∀ i,i<64->bt O i=bt A i):O=A:=by have e:U1 64 O=U1 64 A:=BitVec.eq_of_getLsbD_eq (λi d=>h i d);have a:=congrArg BitVec.toNat e;obtain ⟨b,g⟩:=hx;obtain ⟨c,j⟩:=f;obtain ⟨n,rfl⟩:=T0 b;obtain ⟨m,rfl⟩:=T0 c;rw [X8 n aa,X8 m aa] at a;rw [a]
theorem kX (h:U O) (k:Nat):U (O/2^k):=by have a:(0:Int)<2^k:=T3 aa;exact ⟨T6 h.1 aa,Int.lt_of_le_of_lt (T8 _ h.1) h.2⟩
theorem FU (h:0<=O) (k:Nat):(O/2^k).toNat=O.toNat/2^k:=by
 obtain ⟨n,rfl⟩:=T0 h;have:((n:Int)/2^k)=((n/2^k:Nat):Int):=bh
 rw [this,T2,T2]
theorem it (h:U O) (k i:Nat):bt (O/2^k) i=bt O (i+k):=by rw [nl _ (kX O h k),nl _ h,FU _ h.1,Nat.testBit_div_two_pow]
theorem sY (a:64<=D):bt O D=false:=by unfold bt;exact BitVec.getLsbD_of_ge _ _ a
theorem rJ (hn:F<64):U (aG O D F):=by
 have:=jI O D F;have b:=xQ F 63 aa;have a:(2:Int)^63=9223372036854775808:=ba
 exact ⟨this.1,aa⟩
theorem kA (h:U O) (k n i:Nat) (hn:n<64):bt (aG O k n) i=(decide (i<n)&&bt O (i+k)):=by
 rw [nl _ (rJ O k n hn),<- it O h,nl _ (kX O h k)];unfold aG;have a:=(kX O h k).1;obtain ⟨m,b⟩:=T0 a;rw [b];have:((m:Int)%2^n)=((m%2^n:Nat):Int):=bh
 rw [this,T2,T2,QA9]
theorem my (h:U O) (k i:Nat):bt (IntKind.u64.wrap (O*2^k)) i=(decide (k<=i)&&decide (i<64)&&bt O (i-k)):=by
 rw [nl _ (bq _),nl _ h];obtain ⟨n,rfl⟩:=T0 h.1;rw [Y6];have e:((n:Int)*2^k)%18446744073709551616=((n*2^k%2^64:Nat):Int):=bh
 rw [e,T2,T2,QA9,Nat.testBit_mul_two_pow];cases decide (i<64)<;>cases decide (k<=i)<;>simp
theorem Md:∀ k,J<k->D+k<=r.length->(iM r D I k).getD (D+J) 0=I/256^J%256:=by
 intro k;induction k with
 | zero=>intro h;omega
 | succ k b =>
   intro c d;rw [iM];by_cases e:J=k
   ·subst e;have:D+J<(iM r D I J).length:=by rw [gQ];omega
    simp [H2,this]
   ·have a:((iM r D I k).set (D+k) (I/256^k%256)).getD (D+J) 0=(iM r D I k).getD (D+J) 0:=by
     have:D+k≠D+J:=aa
     simp only [H2,L4 this]
    rw [a];exact b aa aa
theorem Me:∀ (m f d:Nat),(∀ j,j<m->r.getD (f+j) 0=O/256^(d+j)%256)->le r f m=O/256^d%256^m:=by
 intro m;induction m with
 | zero=>intro f d _;simp [le,Int.emod_one]
 | succ m o =>
   intro f d h;rw [le,o (f+1) (d+1) (λj u=>by have:=h (j+1) aa;rw [show f+(j+1)=f+1+j from aa,show d+(j+1)=d+1+j from aa] at this;exact this)];have b:=h 0 aa;rw [QA3,QA3] at b;rw [b];have c:O/256^(d+1)=O/256^d/256:=(by rw [T9,Int.ediv_ediv_of_nonneg (U0 (T3 aa))]);have e:(256:Int)^(m+1)=256*256^m:=(by rw [T9,Int.mul_comm]);rw [c,e];generalize O/256^d=y;have l:(0:Int)<256^m:=T3 aa;generalize (256:Int)^m=N at *;have n:=T7 (y/256) N;have v:=T7 y 256;have t:=T5 (y/256) (show N≠0 by omega);have k:=T4 (y/256) l;have g:y=(y%256+256*(y/256%N))+(256*N)*(y/256/N):=(by have xs:256*(y/256)=256*(y/256%N)+256*(N*(y/256/N)):=(by rw [<- Int.mul_add,n]);rw [Int.mul_assoc];omega);have s:256*(y/256%N)+256<=256*N:=aa;have i:∀ (A K M:Int),0<=A->A<M->(A+M*K)%M=A:=λA K M p q=>by rw [Int.add_mul_emod_self_left,Int.emod_eq_of_lt p q]
   have a:=i (y%256+256*(y/256%N)) (y/256/N) (256*N) aa aa;rw [<- g] at a;exact a.symm
theorem Pc (h:D+F<=r.length):le (iM r D I F) D F=I%256^F:=by have:=Me (iM r D I F) I F D 0 (λj a=>by rw [Z8];exact Md r D I j F a h);simpa using this
theorem Mf:∀ k,(J<D\/D+k<=J)->(iM r D I k).getD J 0=r.getD J 0:=by
 intro k;induction k with
 | zero=>intro h;rfl
 | succ k b =>intro h;have e:(iM r D I (k+1)).getD J 0=(iM r D I k).getD J 0:=(by show ((iM r D I k).set (D+k) (I/256^k%256)).getD J 0=_;have a:D+k≠J:=aa;simp [H2,L4 a]);rw [e];exact b aa
theorem Mg:∀ m g,(∀ j,j<m->K.getD (g+j) 0=r.getD (g+j) 0)->le K g m=le r g m:=by
 intro m;induction m with
 | zero=>intro g h;rfl
 | succ m b =>intro g h;show K.getD g 0+256*le K (g+1) m=r.getD g 0+256*le r (g+1) m;have a:=h 0 aa;rw [QA3] at a;rw [a,b (g+1) (λj c=>by have:=h (j+1) aa;rw [show g+1+j=g+(j+1) from aa];exact this)]
theorem Cr (h:F+J<=D\/D+J<=F):le (iM r D L J) F J=le r F J :=
 Mg _ _ J F λj a=>Mf r D L (F+j) J aa
theorem xV (ty:U8) (v:w.ownsRow x 5 1 f g p) (a:U6) (c:Nat) (b:Int) (d:∀ j u,[R4 .u8 b][j]?=some u->w.cell? (a.add j)=some u) (hn:g<=1048576) {base:U3} {w':U5} (l:(Builtin.append_ #[22,22] ty #[f,.slice (some a) 1 c]).run prog w=.ok base w'):base.ownBlock=f.ownBlock\/base.ownBlock=some w.heap.size:=by
 obtain ⟨q,s,o,k,xs⟩:=V8 info5;have y:∀ u ∈ [R4 .u8 b],u.oneCell':=ex
 have t:[R4 .u8 b].length=1*q.size:=by rw [k];rfl
 rcases v.2 with ⟨e,D⟩|⟨n,cap,r,e,E,m,z,A,B,C⟩
 ·subst e;right;have h:=run_append_grow_src (P:=prog) w 22 22 ty 5 q (.int .u8 0) underlying22 s o none 0 0 [] (run_firstCells_none w.drew q.size 0 0 0) (.slice (some a) 1 c) 1 [.int .u8 b] (Src.ofSlice w underlying22 a 1 c [.int .u8 b] t d y) aa aa (Y1 aa (by rw [xs];omega));rw [h] at l;injection l with e1 _
  rw [<- e1];rfl
 ·subst e;by_cases i:g+1<=cap
  ·left;have h:=run_append_room (P:=prog) w 22 ty 5 q underlying22 s n g cap r m a 1 c [.int .u8 b] t d y i (by rw [k] at *;simp;omega);rw [h] at l;injection l with e1 _
   rw [<- e1];rfl
  ·right;have holds:∀ j u,p[j]?=some u->w.cell? ((⟨n,0,none⟩:U6).add j)=some u:=v.cells (g:=n) rfl;have h:=run_append_grow (P:=prog) w 22 ty 5 q (.int .u8 0) underlying22 s o ⟨n,0,none⟩ g cap p (by rw [k];exact v.1) holds a 1 c [.int .u8 b] t d aa aa (Y1 aa (by rw [xs];omega));rw [h] at l;injection l with e1 _
   rw [<- e1];rfl
theorem xW (p:t.guard=none) (s x:X7) (E:t.op=.call {callee:=.builtin .append,args:=#[s,x],argTypes:=#[22,22]}) (base n:Nat) (v:U3) (zs:List Int) (F:m.eval s=v) (i:w.ownsRow base 5 1 v n (zs.map (R4 .u8))) (hn:n<=1048576) (ad:U6) (c:Nat) (b:Int) (hx:m.eval x=.slice (some ad) 1 c) (d:∀ j u,[R4 .u8 b][j]?=some u->w.cell? (ad.add j)=some u) (l:base<=w.heap.size) (h:∀ f g a,a.ownsRow base 5 1 (.slice f (n+1) g) (n+1) ((zs++[b]).map (R4 .u8))->w.grownBy a v.ownBlock->((S2 f (n+1) g).ownBlock=v.ownBlock\/(S2 f (n+1) g).ownBlock=some w.heap.size)->wpList prog k y o (m.put t.dst (.slice f (n+1) g)) a):wpList prog k y (t::o) m w:=by
 obtain ⟨I,D,q,r,rest⟩:=V8 info5;obtain ⟨J,a,z,Q,B,N⟩:=run_append_own (P:=prog) w base 22 t.type 5 I (.int .u8 0) 1 1 underlying22 D q r rest rfl ba v n (zs.map (R4 .u8)) i ad 1 c [.int .u8 b] rfl d ex ct aa l;have H:=xV t.type i ad c b d hn z;have G:∃ f g,J=.slice f (n+1) g:=by
  rcases Q.2 with ⟨_,L⟩|⟨M,cap,A,e,_⟩;·omega
  ·exact ⟨_,_,e⟩
 obtain ⟨f,g,rfl⟩:=G;refine V0 p λK C=>?_;unfold QD1 V9;simp only [E,resolve,invoke,builtin,QB4,QB5,QB7,L7,M7,P2,F,hx,z];exact C _ _ (h f g a (by rw [List.map_append];exact Q) B H)
theorem Im (u:U3) (h:[R4 .u8 I][J]?=some u):(G.alloc (.cells #[.int .u8 I] 5)).cell? ((⟨G.heap.size,0,none⟩:U6).add J)=some u:=by
 have c:J=0:=by
  rcases Z9 J with a|a;·exact a
  ·rw [A6 bb] at h;cases h
 subst c;rw [FH];simp only [List.getElem?_cons_zero,Option.some.injEq] at h;subst h;have e:=U7 G (.cells #[.int .u8 I] 5);show (G.alloc (.cells #[.int .u8 I] 5)).cell? ⟨G.heap.size,0,none⟩=_;simp only [QC8,e];rfl
