/- Own lemmas. -/
import Derived.Test.YtlidafnochnddaaGreatDoorAut
import Derived.Test.YtlidafnochnddaaGreatDoorK05
set_option maxRecDepth 100000
set_option maxHeartbeats 3200000
namespace Go.Proofs.YtlidafnochnddaaGreatDoor
open Go.RowKit Tryz
open IntKind renaming u64->Uz
open ChangeMaps renaming setBlock->A0,heap_setBlock_other->A5,heap_setBlock_same->A6
open Go renaming run_underlying->F3,World->G3,cell_of_row->H2,Value->H5,wpList_plain->H8
open Instr renaming lookup->I4,mapUpdate->I5,findAsking->K0,findKey->K1,findNow->K4
open List renaming range->L5,all_eq_true->L6,map_cons->L7
open MapKept renaming run_getObj_map->F0
open Nat renaming min_def->N1,le_refl->P2
open Result renaming andThen_ok->M5,andThen->M7
open Value renaming int->L4
set_option linter.unusedVariables false
variable {w:Array Oper} {a:List Oper} {b:Oper} {j:Act} {k:G3} {e:Exit->Act->G3->Prop} {o:Nat} {A:H5} (Q:G3) (c d:Nat)
def bareKey (op:Int):Value:=.agg #[.i op,.i 0,.i 0,.i 0,.i 0]
def bareVal (k:Nat):Int:=d7 .x (az k).op (az k).f3z (az k).more
def bareEs (k:Nat):Array MapEntry:=((L5 ((k-92).min 5)).map λi=>{key:=bareKey ((i:Int)+93),val:=.u (bareVal (92+i)),born:=i}).toArray
theorem bare_rows:∀ k,k<98->((az k).fm=.x↔92<=k/\k<=96):=by
 have h:(L5 98).all (λk=>decide ((az k).fm=.x)==decide (92<=k/\k<=96)):=ab
 intro k a;have:=L6.1 h k eo;simp only [beq_iff_eq,decide_eq_decide] at this;exact this
theorem run_eqInst (a b c d e f g c' i j:Int) (w:G3):(Op.equal 61 (.agg #[.i a,.i b,.i c,.i d,.i e]) (.agg #[.i f,.i g,.i c',.i i,.i j])).run prog w=.ok (a==f&&b==g&&c==c'&&d==i&&e==j) w:=by
 have q:Op.equal 61 (.agg #[.i a,.i b,.i c,.i d,.i e]) (.agg #[.i f,.i g,.i c',.i i,.i j])=Op.equalIn (9999+1) 61 (.agg #[.i a,.i b,.i c,.i d,.i e]) (.agg #[.i f,.i g,.i c',.i i,.i j]):=rfl;rw [q,run_equalIn_struct w 9999 _ _ _ (by rw [Program.fieldsOf,underlying61]) tY];simp only [Program.fieldsOf,underlying61];have P:∀ (k:Nat) (l m n o p v:H5),(#[l,m,n,o,p]:Array H5)[k]?=some v->∀ w,(part 2 #[l,m,n,o,p] k).run prog w=.ok v w:=by intro k l m n o p v h w;simp [part,isAgg,F3 underlying2,h]
 have Q:∀ (x y:Int) (w:G3),(Op.equalIn 9999 2 (.i x) (.i y)).run prog w=.ok (x==y) w:=λx y w=>run_equalIn_int w 9998 2 .i64 .i64 x y underlying2;simp [Op.eqFields,Sem.run_bind,P 0 _ _ _ _ _ _ rfl,P 1 _ _ _ _ _ _ rfl,P 2 _ _ _ _ _ _ rfl,P 3 _ _ _ _ _ _ rfl,P 4 _ _ _ _ _ _ rfl,Q];by_cases r:a=f<;>by_cases s:b=g<;>by_cases t:c=c'<;>by_cases u:d=i<;>by_cases z:e=j<;>simp [r,s,t,u,z]
theorem run_findAsking (op rd a b imm:Int) (w:G3):∀ (l:List (Int × Int × Nat)) (n:Nat), (K0 61 (.agg #[.i op,.i rd,.i a,.i b,.i imm]) (l.map λp=>{key:=bareKey p.1,val:=.u p.2.1,born:=p.2.2}) n).run prog w = .ok ((l.zipIdx n).findSome? λq=>if (op==q.1.1&&rd==0&&a==0&&b==0&&imm==0)=true then some (q.2,L4 .u64 q.1.2.1) else none) w:=by
 intro l;induction l with
 | nil=>intro n;simp [K0]
 | cons p l c =>
   intro n;simp only [L7,K0,Sem.run_bind,bareKey,run_eqInst,M5,List.zipIdx_cons,List.findSome?_cons];cases h:(op==p.1&&rd==0&&a==0&&b==0&&imm==0);·simp only [Bool.false_eq_true,if_false];exact c (n+1)
   ·simp
theorem run_checkKeyB (e:Bool) (op rd a b imm:Int) (w:G3):(Instr.checkKey e 10000 61 (.agg #[.i op,.i rd,.i a,.i b,.i imm])).run prog w=.ok () w:=by kernel_rfl
theorem bareEs_push (a:c<5):bareEs (92+c+1)=(bareEs (92+c)).push {key:=bareKey ((c:Int)+93),val:=.u (bareVal (92+c)),born:=c}:=by
 have:c=0\/c=1\/c=2\/c=3\/c=4:=aa
 rcases this with rfl|rfl|rfl|rfl|rfl<;>rfl
def bareL (n:Nat):List (Int × Int × Nat):=(L5 n).map λ(i:Nat)=>((i:Int)+93,bareVal (92+i),i)
theorem bareEs_list:(bareEs c).toList=(bareL ((c-92).min 5)).map λp=>{key:=bareKey p.1,val:=.u p.2.1,born:=p.2.2}:=by simp [bareEs,bareL]
theorem run_findKeyB (op rd a b imm:Int) (n:Nat) (w:G3):(K1 61 (.agg #[.i op,.i rd,.i a,.i b,.i imm]) ((bareL n).map λp=>{key:=bareKey p.1,val:=.u p.2.1,born:=p.2.2})).run prog w = .ok (((bareL n).zipIdx 0).findSome? λq=>if (op==q.1.1&&rd==0&&a==0&&b==0&&imm==0)=true then some (q.2,L4 .u64 q.1.2.1) else none) w:=by
 have h:=run_findAsking op rd a b imm w (bareL n) 0;unfold K1;rw [Sem.run_bind,F3 underlying61,M5];cases c:bareL n with
 | nil=>simp [K4]
 | cons p l=>rw [c] at h;simp only [L7,K4,Instr.sameNow] at h ⊢;exact h
theorem run_bareUpdate (b:d<5) (hb:Q.heap[c]?=some (.map (bareEs (92+d)) d)): (I5 151 (.map (some c)) (.agg #[.i ((d:Int)+93),.i 0,.i 0,.i 0,.i 0]) (.u (bareVal (92+d)))).run prog Q=.ok () (A0 Q c (.map (bareEs (92+d+1)) (d+1))):=by
 have a:(K1 61 (.agg #[.i ((d:Int)+93),.i 0,.i 0,.i 0,.i 0]) (bareEs (92+d)).toList).run prog Q=.ok none Q:=by
  rw [bareEs_list,run_findKeyB];have:d=0\/d=1\/d=2\/d=3\/d=4:=aa
  rcases this with rfl|rfl|rfl|rfl|rfl<;>rfl
 rw [bareEs_push d b];simp [I5,F3 underlying151,F0 hb,run_checkKeyB,a,MapKept.run_setObj_map _ hb,M7,A0,bareKey]
theorem u64_zero:(prog.info? 32).bind (·.zero)=some (.u 0):=by kernel_rfl
theorem run_bareLookup (bm j:Nat) (h:j<5) (rd a b imm:Int) (clock:Nat) (hb:Q.heap[bm]?=some (.map (bareEs 98) clock)): (I4 151 (.map (some bm)) (.agg #[.i ((j:Int)+93),.i rd,.i a,.i b,.i imm]) true).run prog Q = .ok (.tuple #[.u (if (rd==0&&a==0&&b==0&&imm==0) then bareVal (92+j) else 0),.bool (rd==0&&a==0&&b==0&&imm==0)]) Q:=by
 have d:=run_findKeyB ((j:Int)+93) rd a b imm 5 Q;have g:(bareEs 98).toList=(bareL 5).map λp=>{key:=bareKey p.1,val:=.u p.2.1,born:=p.2.2}:=bareEs_list 98;rw [<- g] at d;have f:(((bareL 5).zipIdx 0).findSome? λq=>if ((j:Int)+93==q.1.1&&rd==0&&a==0&&b==0&&imm==0)=true then some (q.2,L4 .u64 q.1.2.1) else none)=if (rd==0&&a==0&&b==0&&imm==0)=true then some (j,L4 .u64 (bareVal (92+j))) else none:=by
  have e:∀ q:(Int × Int × Nat) × Nat,((j:Int)+93==q.1.1&&rd==0&&a==0&&b==0&&imm==0)=((j:Int)+93==q.1.1&&(rd==0&&a==0&&b==0&&imm==0)):=(by intro q;simp [Bool.and_assoc]);simp only [e];generalize (rd==0&&a==0&&b==0&&imm==0)=c;have:j=0\/j=1\/j=2\/j=3\/j=4:=aa
  cases c;·simp
  ·rcases this with rfl|rfl|rfl|rfl|rfl<;>rfl
 rw [f] at d;generalize (rd==0&&a==0&&b==0&&imm==0)=c at d ⊢;cases c;·simp at d;simp [I4,F3 underlying151,F0 hb,run_checkKeyB,d,tN u64_zero]
 ·simp at d;simp [I4,F3 underlying151,F0 hb,run_checkKeyB,d]
theorem run_bareUpdateK (k:92<=d) (e:d<=96) (hb:Q.heap[c]?=some (.map (bareEs d) ((d-92).min 5))): (I5 151 (.map (some c)) (.agg #[.i ((d:Int)+1),.i 0,.i 0,.i 0,.i 0]) (.u (bareVal d))).run prog Q=.ok () (A0 Q c (.map (bareEs (d+1)) ((d+1-92).min 5))):=by
 obtain ⟨i,rfl⟩:∃ i,d=92+i:=⟨d-92,aa⟩;have a:(92+i-92).min 5=i:=by simp only [N1];split<;>omega
 have b:(92+i+1-92).min 5=i+1:=by simp only [N1];split<;>omega
 have bm:(((92+i:Nat)):Int)+1=(i:Int)+93:=aa
 rw [a] at hb;rw [b,bm];exact run_bareUpdate Q c i aa hb
theorem bareEs_same (h:¬ (92<=c/\c<=96)):bareEs (c+1)=bareEs c/\(c+1-92).min 5=(c-92).min 5:=by
 have e:(c+1-92).min 5=(c-92).min 5:=by simp only [N1];split<;>split<;>omega
 exact ⟨by unfold bareEs;rw [e],e⟩
theorem wpList_updB {w':G3} {val:H5} (H:Hid ((I5 151 (.map (some o)) A val).run prog k=.ok () w')) (c:b.guard=none) (x y z:Operand) (d:b.op=.mapUpdate 151 x y z) (hx:j.eval x=.map (some o)) (key:j.eval y=A) (hz:j.eval z=val) (h:wpList prog w e a (j.put b.dst undef) w'):wpList prog w e (b::a) j k:=by refine H8 c λK rest=>?_;unfold Oper.wp;simp [execOp,d,hx,key,hz,H.out,M7];exact rest _ _ h
theorem wpList_lookB {V:H5} (H:Hid ((I4 151 (.map (some o)) A true).run prog k=.ok V k)) (d:b.guard=none) (x y:Operand) (key:b.op=.lookup 151 x y true) (hx:j.eval x=.map (some o)) (f:j.eval y=A) (h:wpList prog w e a (j.put b.dst V) k):wpList prog w e (b::a) j k:=by
 refine H8 d λK c=>?_;have rest:(execOp j.eval b).run prog k=.ok (.value V) k:=by simp [execOp,key,hx,f,H.out]
 unfold Oper.wp;rw [rest,Oper.upon_value];exact c _ _ h
theorem bareWord_any (hj:c<5) (rd a b imm:Int) (w:G3): Calls prog 59 #[.agg #[.i ((c:Int)+93),.i rd,.i a,.i b,.i imm]] w λe w' => e=.returned (.tuple #[.u (if (rd==0&&a==0&&b==0&&imm==0) then bareVal (92+c) else 0),.bool (rd==0&&a==0&&b==0&&imm==0)])/\Bw w w':=by
 obtain ⟨v,hv⟩:∃ v,v=(if (rd==0&&a==0&&b==0&&imm==0) then bareVal (92+c) else 0):=⟨_,rfl⟩
 obtain ⟨t,ht⟩:∃ t,t=(rd==0&&a==0&&b==0&&imm==0):=⟨_,rfl⟩
 have s:=λ(w:G3) bm clock D=>run_bareLookup w bm c hj rd a b imm clock D
 rw [<- hv,<- ht] at s ⊢
 clear hv ht
 obtain ⟨F,P⟩:∃ F:Int,F=(c:Int)+93:=⟨_,rfl⟩
 rw [<- P] at s ⊢
 have LK:Hid (∀ (w:G3) bm clock,w.heap[bm]?=some (.map (bareEs 98) clock)->(I4 151 (.map (some bm)) (.agg #[.i F,.i rd,.i a,.i b,.i imm]) true).run prog w=.ok (.tuple #[.u v,.bool t]) w):=s
 clear s P
 have MK:∀ w:G3,(Instr.makeMap 151 none).run prog w=.ok (.map (some w.heap.size)) (w.alloc (.map #[] 0)):=λw=>rfl
 go_enter func59,ntmps59
 go_wp2_with fail
 refine (pE _).mono ?_
 rintro e S ⟨T,rfl,HT,D⟩
 clear MK
 have hsz:w.heap.size+1<S.heap.size:=by have:=D.size;simp at this;omega
 have G0:Hid (S.heap[w.heap.size]?=some (.cells #[.i F,.i rd,.i a,.i b,.i imm] 61 (0,0))):=by
  show _=_
  rw [D.block _ bb];exact heap_alloc2_old _ _ _
 have M0:Hid (S.heap[w.heap.size+1]?=some (.map (bareEs 0) ((0-92).min 5))):=by
  show _=_
  rw [D.block _ bh];exact heap_alloc2_new _ _ _
 have N:Bw w S:=((bal _ _).alloc bh _).trans (D.mono bb)
 clear D
 go_wp2_with fail
 go_loopw [14] (λi wr=>∃ k:Nat,k<=98/\i=.i k/\Hid (wr.heap[w.heap.size+1]?=some (.map (bareEs k) ((k-92).min 5))) /\
  Hid (wr.heap[w.heap.size]?=some (.cells #[.i F,.i rd,.i a,.i b,.i imm] 61 (0,0)))/\Bw w wr)
  (λi _=>98-(intOf i).toNat)
 case atStart=>exact ⟨0,aa,rfl,M0,G0,N⟩
 case round =>
  obtain ⟨k,hk,rfl,M,G,u⟩:=hrel
  clear G0 N M0
  by_cases bZ:k<98
  ·have H:=bare_rows k bZ
   obtain ⟨r,A⟩:∃ r,r=az k:=⟨_,rfl⟩
   have hr:Hid (r=az k):=A
   rw [<- A] at H
   have g:r.fm=.x->d7 r.fm r.op r.f3z r.more=bareVal k:=by
    intro h;rw [h,A];rfl
   clear A
   obtain ⟨R,f,o,m3,m⟩:=r
   obtain ⟨z,Y⟩:∃ z,z=Row.f3z ⟨R,f,o,m3,m⟩:=⟨_,rfl⟩
   rw [<- Y] at g
   simp only at H g
   have q:Hid (∀ w:G3,(Instr.index 149 T (.i (k:Int))).run prog w=.ok (.agg #[.string R,.string f.str,.u o,.u z,.u m]) w):=by
    intro w
    rw [kW HT .i64 k bZ _ hr w,Y]
   clear hr Y
   by_cases I:f=.x
   ·have j:=H.1 I
    have l:=kB ((k:Int)+1) R f o z m
    rw [g I] at l
    subst I
    obtain ⟨BB,C⟩:∃ B,B=bareVal k:=⟨_,rfl⟩
    obtain ⟨MM,L⟩:∃ M,M=fV ((k:Int)+1) .x:=⟨_,rfl⟩
    rw [<- C,<- L] at l
    simp only [Fm.str] at l q
    have RP:Hid (∀ w:G3,CB 91 #[.i ((k:Int)+1),.agg #[.string R,.string ⟨#[88]⟩,.u o,.u z,.u m]] w (.tuple #[.u MM,.u BB])):=l
    have U:Hid (BB=bareVal k):=C
    clear l C L H g
    go_wp2_with (refine jg q rfl _ _ rfl rfl rfl ?_)
    refine (RP.out _).mono ?_
    rintro e J ⟨rfl,O⟩
    have y:Bw wr J:=(bal _ _).trans (O.mono bh)
    have K:=aC y M.out
    have G2:=aC y G.out
    have d:=ae u y
    have W:Hid _:=run_bareUpdateK J (w.heap.size+1) k j.1 j.2 K
    rw [<- U.out] at W
    have MF:Hid ((A0 J (w.heap.size+1) (.map (bareEs (k+1)) ((k+1-92).min 5))).heap[w.heap.size+1]?=some (.map (bareEs (k+1)) ((k+1-92).min 5))):=A6 K _
    have GF:Hid ((A0 J (w.heap.size+1) (.map (bareEs (k+1)) ((k+1-92).min 5))).heap[w.heap.size]?=some (.cells #[.i F,.i rd,.i a,.i b,.i imm] 61 (0,0))):=by
     show _=_
     rw [A5 K _ aa];exact G2
    have BF:Bw w (A0 J (w.heap.size+1) (.map (bareEs (k+1)) ((k+1-92).min 5))):=
     ⟨d.os,d.tape,d.output,by simpa [A0] using d.size,λn hn=>(A5 K _ aa).trans (d.block n hn)⟩
    obtain ⟨w3,Q⟩:∃ w3,w3=A0 J (w.heap.size+1) (.map (bareEs (k+1)) ((k+1-92).min 5)):=⟨_,rfl⟩
    rw [<- Q] at W MF GF BF
    clear O Q K G2 y d M G u
    go_wp2_with (refine wpList_updB W rfl _ _ _ rfl rfl rfl rfl ?_)
    go_roundw
    case rel=>exact ⟨k+1,aa,by go_num,MF,GF,BF⟩
    case measure=>simp [intOf];omega
   ·have p:=bareEs_same k (λh=>I (H.2 h))
    clear H g
    cases f
    case x=>exact absurd rfl I
    all_goals (
     clear I
     simp only [Fm.str] at q
     go_wp2_with (refine jg q rfl _ _ rfl rfl rfl ?_)
     go_roundw
     case rel =>
      have E:∀ Z:Obj,Bw wr (wr.alloc Z):=λZ=>(Below.refl _ _).alloc (P2 _) Z
      exact ⟨k+1,aa,by go_num,by rw [p.1,p.2];exact aC (E _) M.out,aC (E _) G.out,ae u (E _)⟩
     case measure=>simp [intOf];omega)
  ·have X:k=98:=by omega
   subst X
   have q0:wr.cell? ⟨w.heap.size,0,none⟩=some (.i F):=(H2 _ _ _ _ _ _ G.out).trans rfl
   have q1:wr.cell? ⟨w.heap.size,1,none⟩=some (.i rd):=(H2 _ _ _ _ _ _ G.out).trans rfl
   have q2:wr.cell? ⟨w.heap.size,2,none⟩=some (.i a):=(H2 _ _ _ _ _ _ G.out).trans rfl
   have q3:wr.cell? ⟨w.heap.size,3,none⟩=some (.i b):=(H2 _ _ _ _ _ _ G.out).trans rfl
   have q4:wr.cell? ⟨w.heap.size,4,none⟩=some (.i imm):=(H2 _ _ _ _ _ _ G.out).trans rfl
   have V:Hid _:=LK.out wr (w.heap.size+1) _ M.out
   go_wp2_with (refine wpList_lookB V rfl _ _ rfl rfl rfl ?_)
   go_ret2
   exact ⟨rfl,u⟩
end Go.Proofs.YtlidafnochnddaaGreatDoor
namespace Go.Proofs.YtlidafnochnddaaGreatDoor.fnExactEncode
open Go.RowKit Tryz
open IntKind renaming u64->Uz
open List renaming range->L5,all_eq_true->L6
set_option linter.unusedVariables false
theorem bareDoes:BareDoes:=by
 intro i c g w;have l:1<=i.op/\i.op<=98:=of_decide_eq_true g;obtain ⟨k,b⟩:∃ k:Nat,i.op=(k:Int)+1:=⟨(i.op-1).toNat,aa⟩;have a:k<98:=aa
 have d:cO i.op=az k:=by rw [b];simp [cO]
 rw [d] at c ⊢;have m:=(bare_rows k a).1 c;obtain ⟨j,rfl⟩:∃ j,k=92+j:=⟨k-92,aa⟩;have h:=bareWord_any j aa i.rd i.a i.b i.imm w;have e:(j:Int)+93=i.op:=by rw [b];omega
 have f:(i.rd==0&&i.a==0&&i.b==0&&i.imm==0)=lS i:=by rw [Bool.eq_iff_iff];simp [lS,and_assoc]
 rw [e,f] at h;exact h
theorem bare_word:∀ k,k<98->(az k).fm=.x->py (d7 .x (az k).op (az k).f3z (az k).more)=some ⟨(k:Int)+1,0,0,0,0⟩:=by
 have h:(L5 98).all (λk=>!decide ((az k).fm=.x)||decide (py (d7 .x (az k).op (az k).f3z (az k).more)=some ⟨(k:Int)+1,0,0,0,0⟩)):=ab
 intro k a b;have:=L6.1 h k eo;simp [b] at this;exact this
theorem enc_eq (i:Ins):tX i=j9 i:=by
 unfold tX j9;cases B:oN i.op with
 | false=>simp
 | true =>
   have C:1<=i.op/\i.op<=98:=of_decide_eq_true B;obtain ⟨k,q⟩:∃ k:Nat,i.op=(k:Int)+1:=⟨(i.op-1).toNat,aa⟩;have r:k<98:=aa;have w:cO i.op=az k:=(by rw [q];simp [cO]);have SR:0<=mX i:=(by unfold mX ju;split<;>exact (fW _ _ _).1);by_cases v:(cO i.op).fm=.x
   ·rw [JZ8 rfl,JZ8 v];have l:=v;rw [w] at l;have D:=bare_word k r l;by_cases m:lS i;·have f:=m;simp only [lS,JZ6] at f;have n:i=⟨(k:Int)+1,0,0,0,0⟩:=(by obtain ⟨a,b,c,d,e⟩:=i;simp only at f q;rw [q,f.1,f.2.1,f.2.2.1,f.2.2.2]);have p:=D;rw [<- n] at p;have o:0<=d7 .x (az k).op (az k).f3z (az k).more:=(fW _ _ _).1;obtain ⟨_,g,_,j⟩:=qN o p;rw [JZ8 m,g,j,w,p];simp
    ·rw [JZ9 m];have t:¬ py (mX i)=some i:=by
      intro h;obtain ⟨_,y,A,E,n⟩:=pQ h;apply m;have s:y=k:=by
       have:i.op=(y:Int)+1:=by rw [n];rfl
       omega
      subst s;rw [n];unfold lS js;rw [l];have:aR .x (mX i)=0:=xR 0 aa aa;simp [dP,aV,bV,Fm.hasRd,Fm.hasA,Fm.hasB,this]
     simp [t]
   ·rw [JZ8 rfl,JZ9 v];have z:0<=tW i:=(tZ _ _ _ _ i).1;by_cases h:py (tW i)=some i;·obtain ⟨_,g,_,j⟩:=qN z h;rw [JZ8 h,g,j];simp [h]
    ·have t:¬ py (mX i)=some i:=(by intro x;obtain ⟨_,_,u,_⟩:=qN SR x;apply h;rw [u];exact x);rw [JZ9 h];simp [t]
end Go.Proofs.YtlidafnochnddaaGreatDoor.fnExactEncode
namespace Go.Proofs.YtlidafnochnddaaGreatDoor
open Go.RowKit Tryz
open IntKind renaming u64->Uz
open Go renaming World->G3,bits->H1,Addr->H3
open Nat renaming le_refl->P2
open Value renaming int->L4
set_option linter.unusedVariables false
variable (x:DV) (D:Int)
theorem stV_0:fy x D 0=(⟨x.t,x.cm,H1 .and .u64 D 1==1,x.xs,x.ys,x.ir⟩,true):=by rw [fy]
theorem stV_1:fy x D 1=(⟨x.t,D,x.so,x.xs,x.ys,x.ir⟩,true):=by rw [fy]
theorem stV_2:fy x D 2=(⟨D,x.cm,x.so,x.xs,x.ys,x.ir⟩,true):=by rw [fy]
theorem stV_3r (h:x.ys.length<4096):fy x D 3=(⟨x.t,x.cm,x.so,x.xs,x.ys++[IntKind.u8.wrap D],x.ir⟩,true):=by rw [fy,JZ8 h]
theorem stV_3f (h:¬ x.ys.length<4096):fy x D 3=(x,true):=by rw [fy,JZ9 h]
theorem stV_4:fy x D 4=(⟨x.t,x.cm,x.so,x.xs,x.ys,wrap64 (H1 .and .u64 D 1)⟩,true):=by rw [fy]
theorem stV_5:fy x D 5=(x,true):=by rw [fy]
theorem stV_6:fy x D 6=(zeroD,false):=by rw [fy]<;>omega
def kindOf (l:List Int) (i:Nat):Int:=H1 .and .u64 (jV l i/8) 3
def trailN (a:Int):Nat->Nat->Nat
 | 0,k=>k
 | n+1,k=>if (H1 .and .u64 (a/2^k) 1==1)=true then trailN a n (k+1) else k
def regLo (a:Int) (k:Nat):Int:=Uz.wrap (H1 .andNot .u64 a (Uz.wrap (Uz.wrap (2^(k+1))-1))*4)
def regHi (a:Int) (k:Nat):Int:=Uz.wrap (Uz.wrap (regLo a k+Uz.wrap (2^(k+3)))-1)
def regFrom (l:List Int) (i:Nat):Int:=if 0<i then Uz.wrap (l.getD (16+i) 0*4) else 0
def regionV (l:List Int) (i:Nat):Int × Int × Bool :=
 if (kindOf l i==1)=true then (if Uz.wrap (l.getD (17+i) 0*4)<=regFrom l i then (0,0,false) else (regFrom l i,Uz.wrap (Uz.wrap (l.getD (17+i) 0*4)-1),true))
 else if (kindOf l i==2)=true then (Uz.wrap (l.getD (17+i) 0*4),Uz.wrap (Uz.wrap (l.getD (17+i) 0*4)+3),true)
 else if (kindOf l i==3)=true then (regLo (l.getD (17+i) 0) (trailN (l.getD (17+i) 0) 53 0),regHi (l.getD (17+i) 0) (trailN (l.getD (17+i) 0) 53 0),true)
 else (0,0,false)
def lastOf (x s:Int):Int:=Uz.wrap (Uz.wrap (x+Uz.wrap s)-1)
def skipB (r:Int × Int × Bool) (x y:Int):Bool:=!r.2.2||decide (y<r.1)||decide (r.2.1<x)
def outB (r:Int × Int × Bool) (x y:Int):Bool:=decide (x<r.1)||decide (r.2.1<y)
def letB (b p kind:Int):Bool :=
 if ((p==3)&&(b/128==0))=true then true else if (kind==1)=true then (H1 .and .u64 (b/4) 1==1) else if (kind==2)=true then (H1 .and .u64 b 1==1) else (H1 .and .u64 (b/2) 1==1)
def permRest (l:List Int) (p x y kind:Int):Nat->Nat->Bool
 | 0,_=>(p==3)
 | n+1,k=>if skipB (regionV l k) x y=true then permRest l p x y kind n (k+1) else !outB (regionV l k) x y&&letB (jV l k) p kind
def permV (n:Nat) (l:List Int) (p x s kind:Int):Bool:=aQ n l p&&jq s&&decide (1<=kind/\kind<=3)&&!decide (lastOf x s<x)&&permRest l p x (lastOf x s) kind 4 0
structure Fd where
 addr:Int
 code:Int
 marked:Bool
 at_:Int
 entry:Int
def pageC (k:Int):Int:=if k=1 then 12 else if k=2 then 13 else 15
def faultC (k:Int):Int:=if k=1 then 1 else if k=2 then 5 else 7
def pageF (k:Int):Fd:=⟨0,pageC k,false,0,0⟩
def faultF (k:Int):Fd:=⟨0,faultC k,false,0,0⟩
def pteAt (T va:Int) (lv:Nat):Int:=Uz.wrap (T+Uz.wrap (8*H1 .and .u64 (va/2^(12+9*lv)) 511))
def pteV (zs:List Int) (x:Int):Int:=le zs (x-2147483648).toNat 8
def badB (e:Int):Bool:=(H1 .and .u64 e 1==0)||((bu e 1==0)&&(bu e 2==1))||(e/18014398509481984 != 0)
def frameV (e:Int):Int:=H1 .and .u64 (e/1024) 17592186044415
def ptrB (e:Int):Bool:=(bu e 1==0)&&(bu e 3==0)
def stopB (e:Int) (lv:Nat):Bool:=((lv:Int)==0)||(H1 .and .u64 (e/16) 1==1)||(H1 .and .u64 (e/64) 3 != 0)
def lowM (m:Nat):Int:=Uz.wrap (Uz.wrap (2^m)-1)
def offB (e:Int) (lv:Nat):Bool:=H1 .and .u64 (frameV e) (lowM (9*lv)) != 0
def noKind (l:List Int) (kind e:Int):Bool :=
 ((kind==1)&&(bu e 3==0))||((kind==2)&&(bu e 1==0)&&((bu e 3==0)||(bu (l.getD 0 0) 19==0)))||((kind==3)&&(bu e 2==0))
def noPriv (l:List Int) (p kind e:Int):Bool :=
 ((p==0)&&(bu e 4==0))||((p==1)&&(bu e 4==1)&&((kind==1)||(bu (l.getD 0 0) 18==0)))
def leadV (e va:Int) (lv:Nat):Int:=H1 .or .u64 (H1 .andNot .u64 (Uz.wrap (frameV e*4096)) (lowM (12+9*lv))) (H1 .and .u64 va (lowM (12+9*lv)))
def wantV (e kind:Int):Int:=if (kind==3)=true then H1 .or .u64 (H1 .or .u64 e 64) 128 else H1 .or .u64 e 64
def leafV (l:List Int) (p va kind e x:Int) (lv:Nat):Fd :=
 if offB e lv=true then pageF kind else if noKind l kind e=true then pageF kind else if noPriv l p kind e=true then pageF kind
 else if (wantV e kind != e)=true then (if permRest l 1 x (lastOf x 8) 3 4 0=true then ⟨leadV e va lv,0,true,x,wantV e kind⟩ else faultF kind) else ⟨leadV e va lv,0,false,0,0⟩
def walkL (zs:List Int) (n:Nat) (l:List Int) (p va kind:Int):Nat->Int->Fd
 | 0,T=>if iP n (pteAt T va 0) 8=true then (if permRest l 1 (pteAt T va 0) (lastOf (pteAt T va 0) 8) 2 4 0=true then
  (if badB (pteV zs (pteAt T va 0))=true then pageF kind else if ptrB (pteV zs (pteAt T va 0))=true then pageF kind else leafV l p va kind (pteV zs (pteAt T va 0)) (pteAt T va 0) 0) else faultF kind) else faultF kind
 | lv+1,T=>if iP n (pteAt T va (lv+1)) 8=true then (if permRest l 1 (pteAt T va (lv+1)) (lastOf (pteAt T va (lv+1)) 8) 2 4 0=true then
  (if badB (pteV zs (pteAt T va (lv+1)))=true then pageF kind else if ptrB (pteV zs (pteAt T va (lv+1)))=true then (if stopB (pteV zs (pteAt T va (lv+1))) (lv+1)=true then pageF kind else walkL zs n l p va kind lv (Uz.wrap (frameV (pteV zs (pteAt T va (lv+1)))*4096))) else leafV l p va kind (pteV zs (pteAt T va (lv+1))) (pteAt T va (lv+1)) (lv+1)) else faultF kind) else faultF kind
def topT (l:List Int):Int:=Uz.wrap (H1 .and .u64 (l.getD 15 0) 17592186044415*4096)
def walkV (zs:List Int) (n:Nat) (l:List Int) (p va kind:Int):Fd :=
 if ((p==3)||(l.getD 15 0/1152921504606846976==0))=true then ⟨va,0,false,0,0⟩ else if (aX 39 va != va)=true then pageF kind else walkL zs n l p va kind 2 (topT l)
theorem walkL_step (zs:List Int) (n:Nat) (l:List Int) (p va kind:Int) (lv:Nat) (T:Int):walkL zs n l p va kind lv T = (if iP n (pteAt T va lv) 8=true then (if permRest l 1 (pteAt T va lv) (lastOf (pteAt T va lv) 8) 2 4 0=true then (if badB (pteV zs (pteAt T va lv))=true then pageF kind else if ptrB (pteV zs (pteAt T va lv))=true then (if stopB (pteV zs (pteAt T va lv)) lv=true then pageF kind else walkL zs n l p va kind (lv-1) (Uz.wrap (frameV (pteV zs (pteAt T va lv))*4096))) else leafV l p va kind (pteV zs (pteAt T va lv)) (pteAt T va lv) lv) else faultF kind) else faultF kind):=by
 cases lv with
 | zero =>rw [walkL];have:stopB (pteV zs (pteAt T va 0)) 0:=rfl;rw [this,JZ8 rfl]
 | succ lv=>rw [walkL];rfl
def Renew (w w':G3) (e:Option H3) (g:Nat) (xs:List Int) (f:Option H3) (h:Nat) (ys:List Int) (a:Option H3) (c:Nat) (zs:List Int) (b:Option H3) (d:Nat) (us:List Int):Prop :=
 ((a=e/\c=g/\zs=xs)/\b=f/\d=h/\us=ys) \/
 (w'.ownsRow w.heap.size 5 1 (.slice a zs.length c) zs.length (zs.map (L4 .u8))/\b=f/\d=h/\us=ys) \/
 ((a=e/\c=g/\zs=xs)/\w'.ownsRow w.heap.size 5 1 (.slice b us.length d) us.length (us.map (L4 .u8))) \/
 bi w.heap.size w'.heap.size w' (oK a zs.length c zs b us.length d us)
theorem Renew.below {w w1 w':G3} {c:Option H3} {g:Nat} {xs:List Int} {d:Option H3} {i:Nat} {ys:List Int} {e:Option H3} {j:Nat} {zs:List Int} {f:Option H3} {k:Nat} {us:List Int} (h:Renew w w1 c g xs d i ys e j zs f k us) (hb:Bw w1 w'):Renew w w' c g xs d i ys e j zs f k us:=by
 rcases h with h|⟨a,b⟩|⟨a,b⟩|h;·exact .inl h
 ·exact .inr (.inl ⟨aZ a hb,b⟩)
 ·exact .inr (.inr (.inl ⟨a,aZ b hb⟩))
 ·exact .inr (.inr (.inr ((h.below hb).low (P2 _) hb.size)))
