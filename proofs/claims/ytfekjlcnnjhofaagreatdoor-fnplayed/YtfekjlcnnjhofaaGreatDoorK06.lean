/- Own lemmas. -/
import Derived.Test.YtfekjlcnnjhofaaGreatDoorAut
import Derived.Test.YtfekjlcnnjhofaaGreatDoorK02
import Derived.Great.BuildSlice
import Derived.Deep.Cut
import Derived.Lib.TrailingZeros
import Derived.Lib.Mul64
set_option maxRecDepth 100000
set_option maxHeartbeats 4000000
namespace Go.Proofs.YtfekjlcnnjhofaaGreatDoor
open Go.RowKit Tryz
open Act renaming put->QB0
open Below renaming refl->Z8,heap_alloc->Z9
open BitVec renaming ofInt->R8,toInt_ofInt->S2
open Go renaming World->S5,heap_alloc_new->T3,bodyPost_ret->T4,Value->T5,bits->T6,Calls->V4,Addr->V8,wpList_plain->X0,wpList_nil->X3,info_parts->X5,execOp->X6,TypeId->X7,Program->X8,wp_seq_k->X9,wpList_store_rowTo->Y0,results_cell_row->Y1,ofInt_u64->Y2,wp_region_list->Y3,run_underlying->Y4,nat_join->Y5,growslice_fits->Y6,Oper->Y7,wp_region_lit->Y8,results_tmp2->Y9,Operand->Z0,IntKind->Z5,setRow_heap->Z6,cell_of_row->Z7
open Go.RowKit renaming wrap64->QA0,Below->QA1
open Instr renaming index->QC0,fill->QC1
open Int renaming eq_ofNat_of_zero_le->I5,toNat_natCast->K0,pow_pos->K1,mul_le_mul_of_nonneg_left->L0,emod_lt_of_pos->L6,emod_nonneg->N1,mul_comm->O1,emod_add_mul_ediv->P2,ediv_le_self->R4,ediv_nonneg->R5,pow_succ->R6,mul_emod->R7
open IntKind renaming wrap_u64->I3,u64->I4
open Lib renaming half_mul_le->QB9
open List renaming getElem?_eq_getElem->QA2,getD->QA3,map_append->QA4,getElem?_cons_zero->QA5,take_append_drop->QA6,getElem?_set_ne->QA7,take_length->QA8,map_cons->QA9
open Nat renaming le_refl->A5,zero_le->A6,mul_comm->A8,add_zero->A9,mul_mod_left->C5,and_two_pow_sub_one_eq_mod->C6,pow_add->D1,two_pow_pos->D2,div_add_mod->D3,testBit_mod_two_pow->D4,lt_of_lt_of_le->D8,eq_zero_or_pos->F0,mul_assoc->F3
open Oper renaming upon_value->QB7,wp->QB8
open Option renaming map_some->QB5,isNone->QB6
open Result renaming andThen_ok->QB2
open Sem renaming run_bind->QB3,run_pure->QB4
open Value renaming int->G1,agg->H8,slice->I1,string->I2
open World renaming size_alloc->QB1
set_option linter.unusedVariables false
variable (w:Option V8) (x p:Int) (a:S5)
theorem pW:V4 prog 110 #[] a λe b=>e=.returned (.slice (some ⟨a.heap.size,0,none⟩) 22 22)/\b=a.alloc (.cells (dV.map (G1 .i64)).toArray 2):=by go_enter func110,ntmps110;exact a02
def Uk (w:S5) (g:Nat):Prop:=g<w.heap.size/\∀ k,k<22->w.cell? ⟨g,k,none⟩=some (.i (dV.getD k 0))
theorem BF:V4 prog 110 #[] a λe w=>e=.returned (.slice (some ⟨a.heap.size,0,none⟩) 22 22)/\Hid (Uk w a.heap.size)/\Bw a w :=
 (pW a).mono λe w h=>by
  obtain ⟨b,rfl⟩:=h
  refine ⟨b,?_,bal _ _⟩
  show Uk _ _
  refine ⟨di,λk c=>?_⟩
  rw [Z7 _ _ _ _ _ _ (T3 _ _)]
  have d:k<dV.length:=c
  simp [QA3,QA2 d]
theorem dH:CB 108 #[.i x] a (.i (cN x)):=by
 by_cases c:x=256;·subst c;exact a07
 by_cases d:x=260;·subst d;exact a07
 by_cases f:x=324;·subst f;exact a07
 have o:cN x=eB x 22 0:=by unfold cN;rw [JZ9 c,JZ9 d,JZ9 f]
 rw [o];have t:(x==256)=false:=kc
 have u:(x==260)=false:=lg
 have z:(x==324)=false:=kd
 clear c d f o;go_enter func108,ntmps108;go_wp2_with fail;refine (BF _).mono ?_;rintro e r ⟨rfl,p,l⟩;go_wp2_with fail;go_loopw [4] (λi wr=>∃ k:Nat,k<=22/\i=.i k/\Hid (eB x (22-k) k=eB x 22 0)/\wr=r)
  (λi _=>22-(intOf i).toNat)
 case atStart=>exact ⟨0,ab,rfl,(rfl:eB x (22-0) 0=eB x 22 0),rfl⟩
 case round =>
  obtain ⟨k,A,rfl,g,rfl⟩:=hrel;by_cases b:k<22
  ·have s:=p.out.2 k b;cases m:(dV.getD k 0==x) with
   | true =>have F:Hid (eB x 22 0=(k:Int)):=g.out.symm.trans (Bp x k b m);generalize dV.getD k 0=y at *;go_wp2_with fail;go_ret;exact ⟨bh,l⟩
   | false =>
     have F:Hid (eB x (22-(k+1)) (k+1)=eB x 22 0):=(zn x k b m).symm.trans g.out;generalize dV.getD k 0=y at *;go_wp2_with fail;go_roundw;case rel=>exact ⟨k+1,ab,by go_num,F,trivial⟩
     case measure=>simp [intOf];omega
  ·have j:k=22:=ab;subst j;have F:Hid (eB x 22 0=-1):=g.out.symm;go_wp2_with fail;go_ret;exact ⟨bh,l⟩
theorem Jg:CE 78 #[.i 1,.u x] a (.u (bq 1 x)):=by go_enter func78,ntmps78;exact a02
theorem Jh:CE 78 #[.i 2,.u x] a (.u (bq 2 x)):=by go_enter func78,ntmps78;exact a02
theorem Ji:CE 78 #[.i 3,.u x] a (.u (bq 3 x)):=by go_enter func78,ntmps78;exact a02
theorem Jj:CE 78 #[.i 4,.u x] a (.u (bq 4 x)):=by go_enter func78,ntmps78;exact a02
theorem En:CE 78 #[.i 10,.u x] a (.u (bq 10 x)):=by go_enter func78,ntmps78;exact a02
theorem Jk:CE 78 #[.i 6,.u x] a (.u (bq 6 x)):=by go_enter func78,ntmps78;exact a02
theorem Eo:CE 78 #[.i 12,.u x] a (.u (bq 12 x)):=by go_enter func78,ntmps78;exact a02
theorem Jl:CE 78 #[.i 7,.u x] a (.u (bq 7 x)):=by go_enter func78,ntmps78;exact a02
theorem Ep:CE 78 #[.i 13,.u x] a (.u (bq 13 x)):=by go_enter func78,ntmps78;exact a02
theorem Er:CE 78 #[.i 17,.u x] a (.u (bq 17 x)):=by go_enter func78,ntmps78;exact a02
theorem Et:CE 78 #[.i 18,.u x] a (.u (bq 18 x)):=by go_enter func78,ntmps78;exact a02
theorem Eu:CE 78 #[.i 19,.u x] a (.u (bq 19 x)):=by go_enter func78,ntmps78;exact a02
theorem Ev:CE 78 #[.i 20,.u x] a (.u (bq 20 x)):=by go_enter func78,ntmps78;exact a02
theorem Jm:CE 78 #[.i 0,.u x] a (.u (bq 0 x)):=by
 have b:bq 0 x=mst x:=rfl;unfold mst at b;obtain ⟨y,d⟩:∃ y,T6 .and .u64 x 924074=y:=⟨_,rfl⟩;rw [d] at b;cases c:(T6 .and .u64 (y/2048) 3==2) with
 | true =>have F:Hid (bq 0 x=T6 .andNot .u64 y 6144):=(by show _=_;rw [b,JZ8 c]);clear b;exact a08
 | false =>have F:Hid (bq 0 x=y):=(by show _=_;rw [b,JZ9 (by rw [c];decide)]);clear b;exact a08
theorem Ew:CE 78 #[.i 16,.u x] a (.u (bq 16 x)):=by
 go_enter func78,ntmps78;go_wp2_with fail;go_loopw [5,6] (λy i wr=>∃ k:Nat,k<=4/\i=.u k/\y=.u (cT x k)/\wr=a)
  (λ_ i _=>4-(intOf i).toNat)
 case atStart=>exact ⟨0,ab,rfl,rfl,rfl⟩
 case round =>
  obtain ⟨k,r,rfl,rfl,rfl⟩:=hrel;by_cases p:k<4
  ·have c:cT x (k+1)=T6 .or .u64 (cT x k) (IntKind.u64.wrap (jB x k*2^(8*k))):=rfl;unfold jB at c;have o:IntKind.u64.wrap (8*(k:Int))=((8*k:Nat):Int):=dv;have l:8*k<64:=ab;have d:decide ((k:Int)<4):=bv;obtain ⟨b,m⟩:∃ b,T6 .and .u64 (x/2^(8*k)) 159=b:=⟨_,rfl⟩;obtain ⟨y,f⟩:∃ y,y=cT x k:=⟨_,rfl⟩;rw [m,<- f] at c;rw [<- f];cases j:(T6 .and .u64 b 1==0) with
   | true =>
     rw [JZ8 j] at c;have F:Hid (cT x (k+1)=T6 .or .u64 y (IntKind.u64.wrap (T6 .andNot .u64 b 2*2^(8*k)))):=c;clear c f;go_wp2_with fail;go_roundw;case rel=>exact ⟨k+1,ab,by go_num,by rw [F.out],trivial⟩
     case measure=>simp [intOf];omega
   | false =>
     rw [JZ9 (by rw [j];decide)] at c;have F:Hid (cT x (k+1)=T6 .or .u64 y (IntKind.u64.wrap (b*2^(8*k)))):=c;clear c f;go_wp2_with fail;go_roundw;case rel=>exact ⟨k+1,ab,by go_num,by rw [F.out],trivial⟩
     case measure=>simp [intOf];omega
  ·have g:k=4:=ab;subst g;have F:Hid (bq 16 x=cT x 4):=(rfl:bq 16 x=cT x 4);generalize cT x 4=y at *;exact a09
theorem BG {p:Int} (h:¬ (p=0\/p=1\/p=2\/p=3\/p=4\/p=10\/p=6\/p=12\/p=7\/p=13\/p=16\/p=17\/p=18\/p=19\/p=20)) (x:Int):bq p x=x:=by unfold bq;rw [JZ9 ab,JZ9 ab,JZ9 ab,JZ9 ab,JZ9 ab,JZ9 ab,JZ9 ab,JZ9 ab,JZ9 ab]
theorem fz:CE 78 #[.i x,.u p] a (.u (bq x p)):=by
 by_cases h:x=0\/x=1\/x=2\/x=3\/x=4\/x=10\/x=6\/x=12\/x=7\/x=13\/x=16\/x=17\/x=18\/x=19\/x=20
 ·rcases h with rfl|rfl|rfl|rfl|rfl|rfl|rfl|rfl|rfl|rfl|rfl|rfl|rfl|rfl|rfl;·exact Jm p a
  ·exact Jg p a
  ·exact Jh p a
  ·exact Ji p a
  ·exact Jj p a
  ·exact En p a
  ·exact Jk p a
  ·exact Eo p a
  ·exact Jl p a
  ·exact Ep p a
  ·exact Ew p a
  ·exact Er p a
  ·exact Et p a
  ·exact Eu p a
  ·exact Ev p a
 ·have F:Hid (bq x p=p):=BG h p;have g:(x==0)=false:=bv;have j:(x==1)=false:=bv;have l:(x==2)=false:=bv;have m:(x==3)=false:=bv;have d4:(x==4)=false:=bv;have Vv:(x==10)=false:=bv;have d6:(x==6)=false:=bv;have Wl:(x==12)=false:=bv;have d7:(x==7)=false:=bv;have Vu:(x==13)=false:=bv;have Vh:(x==16)=false:=bv;have Vt:(x==17)=false:=bv;have b:(x==18)=false:=bv;have c:(x==19)=false:=bv;have d:(x==20)=false:=bv;clear h;exact a08
theorem oA (n cap:Nat) (l:List Int) (a:S5) (hz:l.length=n) (hs:Sl .u64 a w l): CE 45 #[.slice w n cap] a (.bool (bD n l)):=by
 by_cases A:n=22
 ·have r:bD n l=fH l 22 0:=(by simp [bD,A]);rw [r];have C:Hid (l.length=n):=hz;subst A;clear hz r;go_enter func45,ntmps45;go_wp2_with fail;go_loopw [3] (λi wr=>∃ k:Nat,k<=22/\i=.i k/\Hid (fH l (22-k) k=fH l 22 0)/\wr=a)
   (λi _=>22-(intOf i).toNat)
  case atStart=>exact ⟨0,ab,rfl,(rfl:fH l (22-0) 0=fH l 22 0),rfl⟩
  case round =>
   obtain ⟨k,M,rfl,u,rfl⟩:=hrel;by_cases m:k<22
   ·obtain ⟨b,G,rfl,K,L⟩:=hs k (by rw [C.out];exact m);have c:fL k (l.getD k 0)->Hid (fH l (22-(k+1)) (k+1)=fH l 22 0):=λh=>(D6 l k m h).symm.trans u.out;have f:fL k (l.getD k 0)=false->Hid (fH l 22 0=false):=λh=>u.out.symm.trans (IR l k m h);generalize l.getD k 0=x at *;have J:decide ((k:Int)<22):=bv;by_cases B:k=9
    ·subst B;cases g:(T6 .and .u64 x 2730==x) with
     | true =>
       have F:=c (by simpa [fL] using g);have d:(T6 .and .u64 x 2730 != x)=false:=(by simp [bne,g]);clear c f;go_wp2_with fail;go_roundw;case rel=>exact ⟨9+1,ab,by go_num,F,trivial⟩
       case measure=>simp [intOf]
     | false =>have F:=f (by simpa [fL] using g);have d:(T6 .and .u64 x 2730 != x):=(by simp [bne,g]);clear c f;exact a09
    ·have d9:((k:Int)==9)=false:=bv;by_cases q:k=15
     ·subst q;have j:fL 15 x=((x/1152921504606846976==0)||(x/1152921504606846976==8)):=(by simp [fL]);obtain ⟨y,E⟩:∃ y,x/1152921504606846976=y:=⟨_,rfl⟩;rw [E] at j;cases p:(y==0) with
      | true =>
        have F:=c (by rw [j,p];rfl);have d:(y != 0)=false:=(by simp [bne,p]);clear c f j;go_wp2_with fail;go_roundw;case rel=>exact ⟨15+1,ab,by go_num,F,trivial⟩
        case measure=>simp [intOf]
      | false =>
        have d:(y != 0):=(by simp [bne,p]);cases t:(y==8) with
        | true =>
          have F:=c (by rw [j,p,t];rfl);have D:(y != 8)=false:=(by simp [bne,t]);clear c f j;go_wp2_with fail;go_roundw;case rel=>exact ⟨15+1,ab,by go_num,F,trivial⟩
          case measure=>simp [intOf]
        | false =>have F:=f (by rw [j,p,t];rfl);have D:(y != 8):=(by simp [bne,t]);clear c f j;exact a09
     ·have Vi:((k:Int)==15)=false:=bv;have s:fL k x=(bq k x==x):=(by simp [fL,B,q]);cases g:(bq k x==x) with
      | true =>
        have F:=c (s.trans g);have d:(bq k x != x)=false:=(by simp [bne,g]);clear c f s;go_wp2_with fail;refine (fz _ _ _).mono ?_;rintro e I ⟨rfl,o⟩;subst o;generalize bq k x=y at *;go_wp2_with fail;go_roundw;case rel=>exact ⟨k+1,ab,by go_num,F,trivial⟩
        case measure=>simp [intOf];omega
      | false =>have F:=f (s.trans g);have d:(bq k x != x):=(by simp [bne,g]);clear c f s;go_wp2_with fail;refine (fz _ _ _).mono ?_;rintro e I ⟨rfl,o⟩;subst o;generalize bq k x=y at *;exact a09
   ·have z:k=22:=ab;subst z;have F:Hid (fH l 22 0):=u.out.symm;exact a09
 ·have F:Hid (bD n l=false):=(by show _=_;simp [bD,A]);have d:((n:Int) != 22):=bv;go_enter func45,ntmps45;exact a09
theorem vt:CE 46 #[.i x] a (.bool (bZ x)):=by
 cases b:(x==0) with
 | true =>have F:Hid (bZ x):=(by show _=_;simp [bZ,b]);exact a0a
 | false =>
   cases d:(x==1) with
   | true =>have F:Hid (bZ x):=(by show _=_;simp [bZ,d]);exact a0a
   | false =>have F:Hid (bZ x=(x==3)):=(by show _=_;simp [bZ,b,d]);obtain ⟨c,f⟩:∃ c,(x==3)=c:=⟨_,rfl⟩;rw [f] at F;exact a0a
theorem BH:CB 120 #[.i x] a (.bool (dB x)):=by
 cases d:(x==3860) with
 | true =>have F:Hid (dB x):=(by show _=_;simp [dB,d]);go_enter func120,ntmps120;exact a0b
 | false =>
   cases f:(x==769) with
   | true =>have F:Hid (dB x):=(by show _=_;simp [dB,f]);go_enter func120,ntmps120;exact a0b
   | false =>have F:Hid (dB x=decide (0<=cN x)):=(by show _=_;simp [dB,d,f]);have g:Hid (∀ a,CB 108 #[.i x] a (.i (cN x))):=dH x;generalize cN x=y at *;obtain ⟨c,l⟩:∃ c,decide (0<=y)=c:=⟨_,rfl⟩;rw [l] at F;go_enter func120,ntmps120;go_wp2_with fail;refine (g.out _).mono ?_;rintro e m ⟨rfl,j⟩;go_wp2_with fail;go_ret;exact ⟨bh,j⟩
theorem Jn (n cap:Nat) (l:List Int) (x p:Int) (a:S5) (hz:l.length=n) (hs:Sl .u64 a w l): CB 105 #[.slice w n cap,.i x,.i p] a (.bool (jC n l x p)):=by
 have s:Hid (CE 45 #[.slice w n cap] a (.bool (bD n l))):=oA w n cap l a hz hs;have F:Hid (jC n l x p=(bD n l&&dB x&&bZ p&&decide ((QA0 (x.tdiv 256)).tmod 4<=p))):=(rfl:jC n l x p=_);have r:=BH x;have t:=vt p;generalize bD n l=o at *;generalize dB x=k at *;generalize bZ p=q at *;have f:Hid (∀ a,CB 120 #[.i x] a (.bool k)):=r;have g:Hid (∀ a,CE 46 #[.i p] a (.bool q)):=t;obtain ⟨d,u⟩:∃ d,decide ((QA0 (x.tdiv 256)).tmod 4<=p)=d:=⟨_,rfl⟩;rw [u] at F;clear r t hs hz;cases o with
 | false =>go_enter func105,ntmps105;go_wp2_with fail;refine s.out.mono ?_;rintro e y ⟨rfl,b⟩;subst b;exact a0b
 | true =>
   go_enter func105,ntmps105;go_wp2_with fail;refine s.out.mono ?_;rintro e y ⟨rfl,b⟩;subst b;go_wp2_with fail;refine (f.out _).mono ?_;rintro e z ⟨rfl,j⟩;cases k with
   | false =>go_wp2_with fail;go_ret;exact ⟨bh,j⟩
   | true =>
     go_wp2_with fail;refine (g.out _).mono ?_;rintro e A ⟨rfl,m⟩;subst m;cases q with
     | false =>go_wp2_with fail;go_ret;exact ⟨bh,j⟩
     | true =>go_wp2_with fail;go_ret;exact ⟨bh,j⟩
theorem xA (n cap:Nat) (l:List Int) (p:Int) (a:S5) (hz:l.length=n) (hs:Sl .u64 a w l): CE 27 #[.slice w n cap,.i p] a (.bool (bm n l p)):=by
 have f:Hid (CE 45 #[.slice w n cap] a (.bool (bD n l))):=oA w n cap l a hz hs;have g:Hid (∀ a,CE 46 #[.i p] a (.bool (bZ p))):=vt p;have F:Hid (bm n l p=(bD n l&&bZ p)):=(rfl:bm n l p=_);generalize bD n l=o at *;generalize bZ p=q at *;clear hz hs;cases o with
 | false =>go_enter func27,ntmps27;go_wp2_with fail;refine f.out.mono ?_;rintro e j ⟨rfl,b⟩;exact a0c
 | true =>go_enter func27,ntmps27;go_wp2_with fail;refine f.out.mono ?_;rintro e j ⟨rfl,b⟩;subst b;go_wp2_with fail;refine (g.out _).mono ?_;rintro e m ⟨rfl,d⟩;subst d;exact a09
variable {b:X8} {w:Array Y7} {P:Exit->Act->S5->Prop} {Q:S5} (a:Nat)
inductive Fm where | r | i | h | w | s | b | u | j | a | c | x
deriving DecidableEq
def Fm.str:Fm->ByteArray
 | .r=>⟨#[82]⟩ | .i=>⟨#[73]⟩ | .h=>⟨#[72]⟩ | .w=>⟨#[87]⟩ | .s=>⟨#[83]⟩ | .b=>⟨#[66]⟩ | .u=>⟨#[85]⟩ | .j=>⟨#[74]⟩ | .a=>⟨#[65]⟩ | .c=>⟨#[67]⟩ | .x=>⟨#[88]⟩
structure Row where
 name:ByteArray
 fm:Fm
 op:Int
 f3:Int
 more:Int
def rows:List Row:=[
 ⟨⟨#[108,117,105]⟩,.u,55,(-1),0⟩,
 ⟨⟨#[97,117,105,112,99]⟩,.u,23,(-1),0⟩,
 ⟨⟨#[106,97,108]⟩,.j,111,(-1),0⟩,
 ⟨⟨#[106,97,108,114]⟩,.i,103,0,0⟩,
 ⟨⟨#[98,101,113]⟩,.b,99,0,0⟩,
 ⟨⟨#[98,110,101]⟩,.b,99,1,0⟩,
 ⟨⟨#[98,108,116]⟩,.b,99,4,0⟩,
 ⟨⟨#[98,103,101]⟩,.b,99,5,0⟩,
 ⟨⟨#[98,108,116,117]⟩,.b,99,6,0⟩,
 ⟨⟨#[98,103,101,117]⟩,.b,99,7,0⟩,
 ⟨⟨#[108,98]⟩,.i,3,0,0⟩,
 ⟨⟨#[108,104]⟩,.i,3,1,0⟩,
 ⟨⟨#[108,119]⟩,.i,3,2,0⟩,
 ⟨⟨#[108,100]⟩,.i,3,3,0⟩,
 ⟨⟨#[108,98,117]⟩,.i,3,4,0⟩,
 ⟨⟨#[108,104,117]⟩,.i,3,5,0⟩,
 ⟨⟨#[108,119,117]⟩,.i,3,6,0⟩,
 ⟨⟨#[115,98]⟩,.s,35,0,0⟩,
 ⟨⟨#[115,104]⟩,.s,35,1,0⟩,
 ⟨⟨#[115,119]⟩,.s,35,2,0⟩,
 ⟨⟨#[115,100]⟩,.s,35,3,0⟩,
 ⟨⟨#[97,100,100,105]⟩,.i,19,0,0⟩,
 ⟨⟨#[115,108,116,105]⟩,.i,19,2,0⟩,
 ⟨⟨#[115,108,116,105,117]⟩,.i,19,3,0⟩,
 ⟨⟨#[120,111,114,105]⟩,.i,19,4,0⟩,
 ⟨⟨#[111,114,105]⟩,.i,19,6,0⟩,
 ⟨⟨#[97,110,100,105]⟩,.i,19,7,0⟩,
 ⟨⟨#[115,108,108,105]⟩,.h,19,1,0⟩,
 ⟨⟨#[115,114,108,105]⟩,.h,19,5,0⟩,
 ⟨⟨#[115,114,97,105]⟩,.h,19,5,16⟩,
 ⟨⟨#[97,100,100,105,119]⟩,.i,27,0,0⟩,
 ⟨⟨#[115,108,108,105,119]⟩,.w,27,1,0⟩,
 ⟨⟨#[115,114,108,105,119]⟩,.w,27,5,0⟩,
 ⟨⟨#[115,114,97,105,119]⟩,.w,27,5,32⟩,
 ⟨⟨#[97,100,100]⟩,.r,51,0,0⟩,
 ⟨⟨#[115,117,98]⟩,.r,51,0,32⟩,
 ⟨⟨#[115,108,108]⟩,.r,51,1,0⟩,
 ⟨⟨#[115,108,116]⟩,.r,51,2,0⟩,
 ⟨⟨#[115,108,116,117]⟩,.r,51,3,0⟩,
 ⟨⟨#[120,111,114]⟩,.r,51,4,0⟩,
 ⟨⟨#[115,114,108]⟩,.r,51,5,0⟩,
 ⟨⟨#[115,114,97]⟩,.r,51,5,32⟩,
 ⟨⟨#[111,114]⟩,.r,51,6,0⟩,
 ⟨⟨#[97,110,100]⟩,.r,51,7,0⟩,
 ⟨⟨#[97,100,100,119]⟩,.r,59,0,0⟩,
 ⟨⟨#[115,117,98,119]⟩,.r,59,0,32⟩,
 ⟨⟨#[115,108,108,119]⟩,.r,59,1,0⟩,
 ⟨⟨#[115,114,108,119]⟩,.r,59,5,0⟩,
 ⟨⟨#[115,114,97,119]⟩,.r,59,5,32⟩,
 ⟨⟨#[109,117,108]⟩,.r,51,0,1⟩,
 ⟨⟨#[109,117,108,104]⟩,.r,51,1,1⟩,
 ⟨⟨#[109,117,108,104,115,117]⟩,.r,51,2,1⟩,
 ⟨⟨#[109,117,108,104,117]⟩,.r,51,3,1⟩,
 ⟨⟨#[100,105,118]⟩,.r,51,4,1⟩,
 ⟨⟨#[100,105,118,117]⟩,.r,51,5,1⟩,
 ⟨⟨#[114,101,109]⟩,.r,51,6,1⟩,
 ⟨⟨#[114,101,109,117]⟩,.r,51,7,1⟩,
 ⟨⟨#[109,117,108,119]⟩,.r,59,0,1⟩,
 ⟨⟨#[100,105,118,119]⟩,.r,59,4,1⟩,
 ⟨⟨#[100,105,118,117,119]⟩,.r,59,5,1⟩,
 ⟨⟨#[114,101,109,119]⟩,.r,59,6,1⟩,
 ⟨⟨#[114,101,109,117,119]⟩,.r,59,7,1⟩,
 ⟨⟨#[108,114,46,119]⟩,.a,47,2,2⟩,
 ⟨⟨#[115,99,46,119]⟩,.a,47,2,3⟩,
 ⟨⟨#[97,109,111,115,119,97,112,46,119]⟩,.a,47,2,1⟩,
 ⟨⟨#[97,109,111,97,100,100,46,119]⟩,.a,47,2,0⟩,
 ⟨⟨#[97,109,111,120,111,114,46,119]⟩,.a,47,2,4⟩,
 ⟨⟨#[97,109,111,97,110,100,46,119]⟩,.a,47,2,12⟩,
 ⟨⟨#[97,109,111,111,114,46,119]⟩,.a,47,2,8⟩,
 ⟨⟨#[97,109,111,109,105,110,46,119]⟩,.a,47,2,16⟩,
 ⟨⟨#[97,109,111,109,97,120,46,119]⟩,.a,47,2,20⟩,
 ⟨⟨#[97,109,111,109,105,110,117,46,119]⟩,.a,47,2,24⟩,
 ⟨⟨#[97,109,111,109,97,120,117,46,119]⟩,.a,47,2,28⟩,
 ⟨⟨#[108,114,46,100]⟩,.a,47,3,2⟩,
 ⟨⟨#[115,99,46,100]⟩,.a,47,3,3⟩,
 ⟨⟨#[97,109,111,115,119,97,112,46,100]⟩,.a,47,3,1⟩,
 ⟨⟨#[97,109,111,97,100,100,46,100]⟩,.a,47,3,0⟩,
 ⟨⟨#[97,109,111,120,111,114,46,100]⟩,.a,47,3,4⟩,
 ⟨⟨#[97,109,111,97,110,100,46,100]⟩,.a,47,3,12⟩,
 ⟨⟨#[97,109,111,111,114,46,100]⟩,.a,47,3,8⟩,
 ⟨⟨#[97,109,111,109,105,110,46,100]⟩,.a,47,3,16⟩,
 ⟨⟨#[97,109,111,109,97,120,46,100]⟩,.a,47,3,20⟩,
 ⟨⟨#[97,109,111,109,105,110,117,46,100]⟩,.a,47,3,24⟩,
 ⟨⟨#[97,109,111,109,97,120,117,46,100]⟩,.a,47,3,28⟩,
 ⟨⟨#[102,101,110,99,101]⟩,.i,15,0,0⟩,
 ⟨⟨#[102,101,110,99,101,46,105]⟩,.i,15,1,0⟩,
 ⟨⟨#[99,115,114,114,119]⟩,.c,115,1,0⟩,
 ⟨⟨#[99,115,114,114,115]⟩,.c,115,2,0⟩,
 ⟨⟨#[99,115,114,114,99]⟩,.c,115,3,0⟩,
 ⟨⟨#[99,115,114,114,119,105]⟩,.c,115,5,0⟩,
 ⟨⟨#[99,115,114,114,115,105]⟩,.c,115,6,0⟩,
 ⟨⟨#[99,115,114,114,99,105]⟩,.c,115,7,0⟩,
 ⟨⟨#[101,99,97,108,108]⟩,.x,115,0,0⟩,
 ⟨⟨#[101,98,114,101,97,107]⟩,.x,115,0,1⟩,
 ⟨⟨#[115,114,101,116]⟩,.x,115,0,258⟩,
 ⟨⟨#[109,114,101,116]⟩,.x,115,0,770⟩,
 ⟨⟨#[119,102,105]⟩,.x,115,0,261⟩,
 ⟨⟨#[115,102,101,110,99,101,46,118,109,97]⟩,.r,115,0,9⟩]
def Row.f3z (r:Row):Int:=if r.f3<0 then 0 else r.f3
def Row.cellsI (r:Row):List Value:=[.string r.name,.string r.fm.str,.u r.op,.u r.f3z,.u r.more]
def Row.cellsS (r:Row):List Value:=[.string r.name,.string r.fm.str,.u r.op,.i r.f3,.u r.more]
def jE:Array Value:=(rows.flatMap Row.cellsI).toArray
def cellsS:Array Value:=(rows.flatMap Row.cellsS).toArray
theorem qF:rows.length=98:=by rfl
theorem rV {α g:Type} (f:α->List g) (m:Nat):∀ (l:List α),(∀ x ∈ l,(f x).length=m)->∀ k (h:k<l.length),((l.flatMap f).drop (k*m)).take m=f l[k]:=by
 intro l;induction l with
 | nil=>intro _ k h;simp at h
 | cons x l d =>
   intro a k h;have b:(f x).length=m:=a x di;cases k with
   | zero=>simp [<- b]
   | succ k =>have e:(k+1)*m=(f x).length+k*m:=(by rw [b,Nat.succ_mul];omega);rw [e,List.flatMap_cons,List.drop_append,List.drop_of_length_le ab,Nat.add_sub_cancel_left];exact d (λy c=>a y (by simp [c])) k et
theorem vu {α b:Type} (f:α->List b) (m:Nat) (l:List α) (hl:∀ x ∈ l,(f x).length=m) (k:Nat) (h:k<l.length) (j:Nat) (a:j<m):(l.flatMap f)[k*m+j]?=(f l[k])[j]?:=by rw [<- rV f m l hl k h];simp [a]
def ce (k:Nat):Row:=rows.getD k ⟨⟨#[]⟩,.x,0,0,0⟩
theorem yw (h:a<98):rows[a]'(by rw [qF];exact h)=ce a:=by simp [ce,QA3,QA2 (show a<rows.length by rw [qF];exact h)]
theorem BI (h:a<98):jE.extract (a*5) (a*5+5)=(ce a).cellsI.toArray:=by have:=rV Row.cellsI 5 rows (by intro x _;rfl) a (by rw [qF];exact h);rw [yw a h] at this;rw [<- this];simp [jE]
theorem oB:jE.size=490:=by kernel_rfl
theorem Jo (h:a<98) (j:Nat) (k:j<5):cellsS[a*5+j]?=(ce a).cellsS[j]?:=by have:=vu Row.cellsS 5 rows (by intro x _;rfl) a (by rw [qF];exact h) j k;rw [yw a h] at this;rw [<- this];simp [cellsS]
def oC (P:X8):List Y7->Act->Option Act
 | [],a=>some a
 | o::l,a =>
   match o.guard,o.op with
   | none,.build t parts =>
     match P.built t (parts.map λ(i,x)=>(i,a.eval x)).toList with
     | some cells=>oC P l (a.put o.dst (.agg cells))
     | none=>none
   | _,_=>none
theorem pX:∀ (l rest:List Y7) (a c:Act),oC b l a=some c->wpList b w P rest c Q->wpList b w P (l++rest) a Q:=by
 intro l;induction l with
 | nil=>intro rest a c h d;simp [oC] at h;subst h;exact d
 | cons o l i =>
   intro rest a c h d;unfold oC at h;split at h
   ·rename_i t parts f g;split at h;·rename_i cells e;exact wpList_buildTo f t parts g o.dst rfl cells e (i _ _ _ h d)
    ·cases h
   ·cases h
theorem kK {l:List Y7} {n:Act} (s t:Nat) (v x:T5) (h:(oC b (l.take a) n).map (λc=>(c.tmps.getD s undef,c.tmps.getD t undef,c.defers))=some (v,x,[])) (hr:∀ c:Act,c.tmps.getD s undef=v->c.tmps.getD t undef=x->c.defers=[]->wpList b w P (l.drop a) c Q):wpList b w P l n Q:=by
 rw [<- QA6 a l];cases d:oC b (l.take a) n with
 | none=>rw [d] at h;cases h
 | some c =>rw [d] at h;simp only [QB5,Option.some.injEq,Prod.mk.injEq] at h;exact pX _ _ _ _ d (hr c h.1 h.2.1 h.2.2)
variable {x:S5} {w:Array Y7} {k:List Y7} {a:Act} {n:Exit->Act->S5->Prop} {m:X8} {y:T5} {f:Y7} {o:Nat} (Q:S5) (P c:List Int) (j b:Int) (l t z:Nat) (T:Int) (d:Nat)
def BJ:Array Value:=(List.replicate 98 [I2 ⟨#[]⟩,.string ⟨#[]⟩,.u 0,.u 0,.u 0]).flatten.toArray
theorem Ex:BJ.size=490:=by kernel_rfl
theorem Ey:(prog.info? 235).bind (·.zero)=some (.agg BJ):=by kernel_rfl
theorem Ln {t:X7} (h:(m.info? t).bind (·.zero)=some y) (w:S5):(zeroValue t).run m w=.ok y w:=by
 cases a:m.info? t with
 | none=>rw [a] at h;cases h
 | some i=>rw [a] at h;simp at h;simp [zeroValue,typeInfo,a,h]
theorem cI (rest:f.guard=none) (t:X7) (g:f.op=.alloc t) (d:Option Tmp) (hd:f.dst=d) (z:T5) (hz:(m.info? t).bind (·.zero)=some z) (h:wpList m w n k (a.put d (.p x.heap.size 0)) (x.alloc (.cells z.cells t))):wpList m w n (f::k) a x:=by
 subst hd;refine X0 rest λK e=>?_;have b:(X6 a.eval f).run m x=.ok (.value (.p x.heap.size 0)) (x.alloc (.cells z.cells t)):=by simp [X6,g,Instr.alloc,QB3,Ln hz,newVar,newRow]
 unfold QB8;rw [b,QB7];exact e _ _ h
theorem nB (rest:f.guard=none) (d:Option Tmp) (hd:f.dst=d) (v:T5) (b:(X6 a.eval f).run m x=.ok (.value v) x) (h:wpList m w n k (a.put d v) x):wpList m w n (f::k) a x:=by subst hd;refine X0 rest λK e=>?_;unfold QB8;rw [b,QB7];exact e _ _ h
theorem aK {w:S5} (h:QA1 o x w) {g:Nat} (c:o<=g) (cs:Array T5):QA1 o x (w.setRow g cs):=
 ⟨h.os,h.tape,h.output,by rw [setRow_size];exact h.size,λk b=>(setRow_other w g k cs ab).trans (h.block k b)⟩
theorem EA:jE.all (·.oneCell'):=by kernel_rfl
theorem vy:(prog.info? 235).map (·.size)=some 490:=by kernel_rfl
theorem EB:CB 183 #[] Q (.agg jE):=by go_enter func183,ntmps183;apply X9;intro c b;apply Y3;refine cI rfl 235 rfl (some 0) rfl _ Ey ?_;apply X3;refine b _ _ ?_;clear b c;apply X9;intro c b;apply Y8;refine kK 99 0 99 (.p Q.heap.size 0) (.agg jE) ba ?_;intro m f d j;have g:(Q.alloc (.cells (H8 BJ).cells 235)).heap[Q.heap.size]?=some (.cells BJ 235 (0,0)):=T3 _ _;refine Y0 rfl 235 (.tmp 0) (.tmp 99) rfl rfl Q.heap.size jE f d 235 BJ g (by rw [vy,oB]) (by rw [Ex,oB]) EA ?_;apply X3;refine b _ _ ?_;clear b c;apply wp_ret;refine T4 (Y1 results183 _ _ _ _ _ _ _ f (Z6 _ _ _ _ _ _ g) underlying235 rfl (by rw [vy,oB])) j ⟨rfl,?_⟩;exact aK (bal _ _) (A5 _) _
theorem EC:(prog.info? 124).map (λi=>(i.zero,i.size,i.bytes))=some (some (.agg #[.string ⟨#[]⟩,.string ⟨#[]⟩,.u 0,.i 0,.u 0]),5,56):=by kernel_rfl
def GN (rs:List (List T5)):List (Nat × T5):=(rs.map λc=>H8 c.toArray).zipIdx.map λ(v,i)=>(i,v)
theorem Ul:QC1 (λi=>some (i*5,5)) ((Array.range (98*5)).map ((H8 #[.string ⟨#[]⟩,.string ⟨#[]⟩,.u 0,.i 0,.u 0]).cells[· % 5]!)) (GN (rows.map Row.cellsS))=some cellsS:=by kernel_rfl
theorem qm {P:X8} {Q:Exit->Act->S5->Prop} {n:S5} (len:Option Tmp) (r:Array (Nat × Z0)) (vs:List (Nat × T5)) (cells:Array T5) (f:TypeInfo) (e:T5) (h:(oC P (k.take l) a).map (λb=>((r.map λ(i,x)=>(i,b.eval x)).toList,b.tmps.size,b.defers))=some (vs,a.tmps.size,[])) (v:P.underlying t=some (.slice z)) (q:P.info? z=some f) (hz:f.zero=some e) (c:¬ d*f.size>2^24) (j:¬ d*f.size=0) (u:QC1 (λi=>some (i*f.size,f.size)) ((Array.range (d*f.size)).map (e.cells[· % e.cells.size]!)) vs=some cells) (g:((k.drop l)[0]?.map λo=>(o.guard,o.op,o.dst))=some (none,.buildSlice t d r,len)) (hr:∀ b:Act,b.tmps.size=a.tmps.size->b.defers=[]->wpList P w Q (k.drop (l+1)) (b.put len (.slice (some ⟨n.heap.size,0,none⟩) d d)) (n.alloc (.cells cells z))):wpList P w Q k a n:=by
 rw [<- QA6 l k];cases m:oC P (k.take l) a with
 | none=>rw [m] at h;cases h
 | some b =>
   rw [m] at h;simp only [QB5,Option.some.injEq,Prod.mk.injEq] at h;refine pX _ _ _ _ m ?_;cases p:k.drop l with
   | nil=>rw [p] at g;cases g
   | cons o rest =>rw [p] at g;simp only [QA5,QB5,Option.some.injEq,Prod.mk.injEq] at g;have s:k.drop (l+1)=rest:=(by rw [<- List.drop_drop,p];rfl);refine wpList_buildSlice g.1 t z d r g.2.1 cells f e v q hz c j (by rw [h.1];exact u) ?_;rw [g.2.2,<- s];exact hr b h.2.1 h.2.2
theorem ED:V4 prog 80 #[] Q λe r=>e=.returned (.slice (some ⟨Q.heap.size,0,none⟩) 98 98)/\r=Q.alloc (.cells cellsS 124):=by
 obtain ⟨q,o,g,c,p⟩:=X5 EC;go_enter func80,ntmps80;apply X9;intro f b;apply Y3;refine nB rfl (some 0) rfl (.slice none 0 0) ba ?_;apply X3;refine b _ _ ?_;clear b f;apply X9;intro f b;apply Y8;refine qm 98 121 124 98 (some 99) ((List.range 98).map λi=>(i,Operand.tmp (i+1))).toArray (GN (rows.map Row.cellsS)) cellsS q _ ba underlying121 o g (by rw [c];decide) (by rw [c];decide) (by rw [c];exact Ul) ba ?_;intro j l m;have d:j.tmps.size=100:=l;clear l;refine nB rfl (some 0) rfl (.slice (some ⟨Q.heap.size,0,none⟩) 98 98) ?_ ?_;·have e:(j.put (some 99) (.slice (some ⟨Q.heap.size,0,none⟩) 98 98)).eval (.tmp 99)=.slice (some ⟨Q.heap.size,0,none⟩) 98 98:=(by simp [QB0,Act.eval,d]);simp [X6,e]
 apply X3;refine b _ _ ?_;clear b f;apply wp_ret;refine T4 (results_tmp results80 _ _ _) m ⟨?_,rfl⟩;simp [QB0,d]
def rW (op:Int):Bool:=decide (1<=op/\op<=98)
def jX (op:Int):ByteArray:=if rW op then (ce (op-1).toNat).name else ⟨#[]⟩
def fq (op:Int):ByteArray:=if rW op then (ce (op-1).toNat).fm.str else ⟨#[]⟩
def Row.val (r:Row):Value:=.agg #[.string r.name,.string r.fm.str,.u r.op,.u r.f3z,.u r.more]
def noRow:Value:=.agg #[.string ⟨#[]⟩,.string ⟨#[]⟩,.u 0,.u 0,.u 0]
def xB (op:Int):Value:=if rW op then (ce (op-1).toNat).val else noRow
theorem vz {op:Int} (h:rW op=false):xB op=noRow:=by simp [xB,h]
theorem Jp (h:rW ((o:Int)+1)):xB ((o:Int)+1)=(ce o).val:=by simp [xB,h]
theorem gL {P:X8} {fn:Func} {p u:Tmp} {ty:X7} (h:fn.results=#[.cell p ty,.tmp u]) (tmps:Array T5) (w:S5) (g:Nat) (t:X7) (cs:Array T5) (a:Nat × Nat) (d:TypeDesc) (e:tmps.getD p undef=.p g 0) (b:w.heap[g]?=some (.cells cs t a)) (f:P.underlying ty=some d) (hd:(match d with | .struct _ | .array _ _=>true | _=>false)=true) (c:(P.info? ty).map (·.size)=some cs.size):(results fn tmps).run P w=.ok (.tuple #[.agg cs,tmps.getD u undef]) w:=by rw [results_cell_tmp h,e];simp [asAddr,run_loadVar_row w g t ty cs a d b f hd c]
theorem EE:∃ a b c d e,xB j=.agg #[.string a,.string b,.u c,.u d,.u e]/\Hid (a=jX j)/\Hid (b=fq j):=by
 cases h:rW j with
 | true=>exact ⟨_,_,_,_,_,by simp [xB,h];rfl,(by simp [jX,h]:(ce (j-1).toNat).name=jX j),(by simp [fq,h]:(ce (j-1).toNat).fm.str=fq j)⟩
 | false=>exact ⟨_,_,_,_,_,by simp [xB,h];rfl,(by simp [jX,h]:(⟨#[]⟩:ByteArray)=jX j),(by simp [fq,h]:(⟨#[]⟩:ByteArray)=fq j)⟩
theorem BK:(prog.info? 234).map (·.size)=some 5:=by kernel_rfl
theorem Pd (r:Row):(#[I2 r.name,.string r.fm.str,.u r.op,.u r.f3z,.u r.more]:Array T5).all (·.oneCell'):=by simp [Value.oneCell']
theorem Jq (kk:Z5) (k:Nat) (hk:k<98):(QC0 235 (.agg jE) (.int kk (k:Int))).run prog Q=.ok (ce k).val Q:=by
 have f:(sizeOf 234).run prog Q=.ok 5 Q:=by
  obtain ⟨g,e,a⟩:∃ i,prog.info? 234=some i/\i.size=5:=by
   have h:(prog.info? 234).map (·.size)=some 5:=ba;cases b:prog.info? 234 with
   | none=>rw [b] at h;cases h
   | some i=>rw [b] at h;exact ⟨i,rfl,et⟩
  simp [sizeOf,typeInfo,e,a]
 have c:(isAgg 234).run prog Q=.ok true Q:=by simp [isAgg,Y4 underlying234]
 have d:(0:Int)<=(k:Int)/\(k:Int)<((98:Nat):Int):=ab
 unfold QC0;simp only [asIntOf,QB3,QB4,QB2,Y4 underlying235];rw [JZ8 d];simp only [QB3,f,QB2,part,c,K0,if_true,QB4];rw [BI k hk];rfl
theorem tl (a:Hid (y=.agg jE)) (kk:Z5) (k:Nat) (hk:k<98) (r:Row) (hr:Hid (r=ce k)) (w:S5): (QC0 235 y (.int kk (k:Int))).run prog w=.ok (.agg #[.string r.name,.string r.fm.str,.u r.op,.u r.f3z,.u r.more]) w:=by rw [a.out,hr.out];exact Jq w kk k hk
theorem xC (e:Hid (y=.agg jE)) (kk:Z5) (c:Nat) (hk:c<98) (r:Row) (hr:Hid (r=ce c)) (rest:f.guard=none) (o i:Z0) (j:f.op=.index 235 o i) (hx:a.eval o=y) (g:a.eval i=.int kk (c:Int)) (h:wpList prog w n k (a.put f.dst (.agg #[.string r.name,.string r.fm.str,.u r.op,.u r.f3z,.u r.more])) x):wpList prog w n (f::k) a x:=by
 refine X0 rest λK d=>?_;have b:(X6 a.eval f).run prog x=.ok (.value (.agg #[.string r.name,.string r.fm.str,.u r.op,.u r.f3z,.u r.more])) x:=by simp [X6,j,hx,g,tl e kk c hk r hr]
 unfold QB8;rw [b,QB7];exact d _ _ h
theorem BL:V4 prog 183 #[] Q λe a=>∃ T,e=.returned T/\Hid (T=.agg jE)/\Bw Q a :=
 (EB Q).mono λe a h=>⟨.agg jE,h.1,(rfl:H8 jE=.agg jE),h.2⟩
theorem eH (w:S5):CE 47 #[.i j,.i b,.i T] w (.bool (decide (b<=j/\j<=T))):=by
 by_cases c:b<=j
 ·by_cases d:j<=T;·have F:Hid (decide (b<=j/\j<=T)):=(by show decide (b<=j/\j<=T)=true;simp [c,d]);have f:decide (b<=j):=kc;have g:decide (j<=T):=lg;clear c d;go_enter func47,ntmps47;go_wp2;go_ret;exact ⟨bh,rfl⟩
  ·have F:Hid (decide (b<=j/\j<=T)=false):=(by show decide (b<=j/\j<=T)=false;simp [d]);have f:decide (b<=j):=kc;have g:decide (j<=T)=false:=lg;clear c d;exact a03
 ·have F:Hid (decide (b<=j/\j<=T)=false):=(by show decide (b<=j/\j<=T)=false;simp [c]);have f:decide (b<=j)=false:=kc;clear c;exact a03
theorem yx (y:(Lit.int .i64 j).wf) (w:S5):CB 212 #[.i j] w (.tuple #[xB j,.bool (rW j)]):=by
 by_cases b:j<1;·have F:Hid (rW j=false):=(by show rW j=false;simp [rW];omega);have op:decide (j<1):=lw;clear b;go_enter func212,ntmps212;go_wp2;refine T4 (v:=.tuple #[noRow,.bool false]) (by simp [results,results212,go_sem];rfl) rfl ⟨by rw [vz F.out,F.out],?_⟩;exact bal _ _
 ·by_cases d:98<j;·have F:Hid (rW j=false):=(by show rW j=false;simp [rW];omega);have op:decide (j<1)=false:=lw;have q:decide (98<j):=lg;clear b d;go_enter func212,ntmps212;go_wp2;refine T4 (v:=.tuple #[noRow,.bool false]) (by simp [results,results212,go_sem];rfl) rfl ⟨by rw [vz F.out,F.out],?_⟩;exact bal _ _
  ·have g:rW j:=(by show rW j=true;simp [rW];omega);have op:decide (j<1)=false:=lw;have q:decide (98<j)=false:=lg;obtain ⟨k,s⟩:∃ k:Nat,j=(k:Int)+1:=⟨(j-1).toNat,ab⟩;have f:k<98:=ab;subst s;have F:Hid (rW ((k:Int)+1)):=g;clear b d g;go_enter func212,ntmps212;go_wp2_with fail;refine (BL _).mono ?_;rintro e u ⟨T,rfl,p,l⟩;obtain ⟨r,c⟩:∃ r,r=ce k:=⟨_,rfl⟩;have o:Hid (r=ce k):=c;clear c;have m:u.heap[w.heap.size]?=some (.cells #[.string ⟨#[]⟩,.string ⟨#[]⟩,.u 0,.u 0,.u 0] 234 (0,0)):=(by rw [l.block _ di];exact T3 _ _);go_wp2_with (first | refine xC p .i64 k f r o rfl _ _ rfl rfl rfl ?_ | refine Y0 rfl 234 _ _ rfl rfl w.heap.size #[.string r.name,.string r.fm.str,.u r.op,.u r.f3z,.u r.more] rfl rfl 234 _ m BK rfl (Pd r) ?_);refine T4 (gL results212 _ _ _ _ _ _ _ rfl (Z6 _ _ _ _ _ _ m) underlying234 rfl BK) rfl ⟨?_,?_⟩;·rw [Jp F.out,F.out,<- o.out];rfl
   ·exact aK ((bal _ _).trans (l.mono di)) (A5 _) _
theorem zH (f:(Lit.int .i64 j).wf) (w:S5):CB 188 #[.i j] w (.string (fq j)):=by go_enter func188,ntmps188;go_wp2_with fail;refine (yx j f _).mono ?_;rintro e r ⟨rfl,b⟩;obtain ⟨l,m,o,p,q,d,op,c⟩:=EE j;rw [d];go_wp2_with fail;go_ret;exact ⟨by rw [<- c.out];rfl,b.alloc b.size _⟩
def BM (w:S5) (g:Nat):Prop:=g<w.heap.size/\∀ k,k<98->∀ r,r=ce k->w.cell? ⟨g,k*5,none⟩=some (.string r.name)/\w.cell? ⟨g,k*5+1,none⟩=some (.string r.fm.str) /\
 w.cell? ⟨g,k*5+2,none⟩=some (.u r.op)/\w.cell? ⟨g,k*5+3,none⟩=some (.i r.f3)/\w.cell? ⟨g,k*5+4,none⟩=some (.u r.more)
theorem BM.below {w':S5} {g:Nat} (h:BM x g) {B:Nat} (a:g<B) (hb:QA1 B x w'):BM w' g:=by refine ⟨D8 h.1 hb.size,λk b r c=>?_⟩;have H:=h.2 k b r c;have e:∀ o,w'.cell? ⟨g,o,none⟩=x.cell? ⟨g,o,none⟩:=λo=>hb.cell (p:=⟨g,o,none⟩) a;rw [e,e,e,e,e];exact H
theorem oD:V4 prog 80 #[] Q λe a=>e=.returned (.slice (some ⟨Q.heap.size,0,none⟩) 98 98)/\Hid (BM a Q.heap.size)/\Bw Q a :=
 (ED Q).mono λe a h=>by
  obtain ⟨b,rfl⟩:=h
  refine ⟨b,?_,bal _ _⟩
  show BM _ _
  refine ⟨di,λk f r g=>?_⟩
  subst g
  have c:(Q.alloc (.cells cellsS 124)).heap[Q.heap.size]?=some (.cells cellsS 124 (0,0)):=T3 _ _
  have e:∀ j,j<5->(Q.alloc (.cells cellsS 124)).cell? ⟨Q.heap.size,k*5+j,none⟩=(ce k).cellsS[j]?:=by
   intro j d
   rw [Z7 _ _ _ _ _ _ c]
   exact Jo k f j d
  exact ⟨e 0 bc,e 1 bc,e 2 bc,e 3 bc,e 4 bc⟩
theorem zI (B:(Lit.int .i64 j).wf) (w:S5):CB 103 #[.i j] w (.string (jX j)):=by
 cases h:rW j with
 | false =>have F:Hid (rW j=false):=h;have b:decide (1<=j/\j<=98)=false:=h;clear h;go_enter func103,ntmps103;go_wp2_with fail;refine (eH j 1 98 _).mono ?_;rintro e s ⟨rfl,rfl⟩;rw [b];clear b;go_wp2_with fail;go_ret;exact ⟨by simp [jX,F.out],Z8 _ _⟩
 | true =>have b:decide (1<=j/\j<=98):=h;have l:1<=j/\j<=98:=of_decide_eq_true b;obtain ⟨k,p⟩:∃ k:Nat,j=(k:Int)+1:=⟨(j-1).toNat,ab⟩;have f:k<98:=ab;subst p;have F:Hid (rW ((k:Int)+1)):=h;clear h l;go_enter func103,ntmps103;go_wp2_with fail;refine (eH _ 1 98 _).mono ?_;rintro e s ⟨rfl,d⟩;have g:=d.symm;subst g;rw [b];clear b d;go_wp2_with fail;refine (oD _).mono ?_;rintro e C ⟨rfl,m,o⟩;obtain ⟨r,c⟩:∃ r,r=ce k:=⟨_,rfl⟩;have op:Hid (r=ce k):=c;clear c;obtain ⟨t,u,y,z,A⟩:=m.out.2 k f r op.out;go_wp2_with fail;go_ret;exact ⟨by simp [jX,F.out,op.out],o⟩
theorem qG (B:(Lit.int .i64 j).wf) (w:S5):CB 73 #[.i j] w (.string (fq j)):=by
 cases h:rW j with
 | false =>have F:Hid (rW j=false):=h;have b:decide (1<=j/\j<=98)=false:=h;clear h;go_enter func73,ntmps73;go_wp2_with fail;refine (eH j 1 98 _).mono ?_;rintro e s ⟨rfl,rfl⟩;rw [b];clear b;go_wp2_with fail;go_ret;exact ⟨by simp [fq,F.out],Z8 _ _⟩
 | true =>have b:decide (1<=j/\j<=98):=h;have l:1<=j/\j<=98:=of_decide_eq_true b;obtain ⟨k,p⟩:∃ k:Nat,j=(k:Int)+1:=⟨(j-1).toNat,ab⟩;have f:k<98:=ab;subst p;have F:Hid (rW ((k:Int)+1)):=h;clear h l;go_enter func73,ntmps73;go_wp2_with fail;refine (eH _ 1 98 _).mono ?_;rintro e s ⟨rfl,d⟩;have g:=d.symm;subst g;rw [b];clear b d;go_wp2_with fail;refine (oD _).mono ?_;rintro e C ⟨rfl,m,o⟩;obtain ⟨r,c⟩:∃ r,r=ce k:=⟨_,rfl⟩;have op:Hid (r=ce k):=c;clear c;obtain ⟨t,u,y,z,A⟩:=m.out.2 k f r op.out;go_wp2_with fail;go_ret;exact ⟨by simp [fq,F.out,op.out],o⟩
def Fm.mask:Fm->Int
 | .r=>4261441663 | .w=>4261441663 | .h=>4227887231 | .a=>4160778367 | .x=>4294967295 | .u=>127 | .j=>127 | .i=>28799 | .s=>28799 | .b=>28799 | .c=>28799
def Fm.at:Fm->Nat
 | .r=>25 | .w=>25 | .h=>26 | .a=>27 | .x=>20 | .u=>0 | .j=>0 | .i=>0 | .s=>0 | .b=>0 | .c=>0
def Fm.hasRd:Fm->Bool
 | .r=>true | .i=>true | .h=>true | .w=>true | .s=>false | .b=>false | .u=>true | .j=>true | .a=>true | .c=>true | .x=>false
def Fm.hasA:Fm->Bool
 | .r=>true | .i=>true | .h=>true | .w=>true | .s=>true | .b=>true | .u=>false | .j=>false | .a=>true | .c=>true | .x=>false
def Fm.hasB:Fm->Bool
 | .r=>true | .i=>false | .h=>false | .w=>false | .s=>true | .b=>true | .u=>false | .j=>false | .a=>true | .c=>false | .x=>false
def Fm.pcs:Fm->List (Nat × Nat × Nat)
 | .r=>[] | .i=>[(20,12,0)] | .h=>[(20,6,0)] | .w=>[(20,5,0)] | .s=>[(25,7,5),(7,5,0)] | .b=>[(31,1,12),(7,1,11),(25,6,5),(8,4,1)]
 | .u=>[(12,20,12)] | .j=>[(31,1,20),(12,8,12),(20,1,11),(21,10,1)] | .a=>[(25,2,0)] | .c=>[(20,12,0)] | .x=>[]
def Fm.width:Fm->Nat
 | .r=>64 | .i=>12 | .h=>64 | .w=>64 | .s=>12 | .b=>13 | .u=>32 | .j=>21 | .a=>64 | .c=>64 | .x=>64
structure Ins where
 op:Int
 rd:Int
 a:Int
 b:Int
 imm:Int
deriving DecidableEq
def Ins.val (i:Ins):Value:=.agg #[.i i.op,.i i.rd,.i i.a,.i i.b,.i i.imm]
def de (x:Int) (k n:Nat):Int:=x/2^k%2^n
theorem kL:0<=de j l t/\de j l t<2^t:=by have a:(0:Int)<2^t:=K1 ab;exact ⟨N1 _ ab,L6 _ a⟩
theorem EF (h:l<=t):(2:Int)^l<=2^t:=by obtain ⟨d,rfl⟩:=Nat.exists_eq_add_of_le h;rw [Int.pow_add];have a:(0:Int)<2^l:=K1 ab;have b:(0:Int)<2^d:=K1 ab;have c:(2:Int)^l*1<=2^l*2^d:=L0 ab ab;omega
theorem iD (b:0<=j) (f:j<18446744073709551616) (hn:t<64): T6 .and .u64 (j/2^l) (IntKind.u64.wrap (IntKind.u64.wrap (2^t)-1))=de j l t:=by
 have i:(0:Int)<2^t:=K1 ab;have h:(0:Int)<2^l:=K1 ab;have g:(2:Int)^t<=2^63:=EF t 63 ab;have d:(2:Int)^63=9223372036854775808:=bc
 have c:IntKind.u64.wrap (2^t)=2^t:=by rw [I3];omega
 have e2:IntKind.u64.wrap (2^t-1)=2^t-1:=by rw [I3];omega
 have a:0<=j/2^l:=R5 b ab;have e:j/2^l<=j:=R4 _ b;rw [c,e2,u64_and _ _ a ab ab ab];have e3:(2^t-1:Int).toNat=2^t-1:=by
  have:(2:Int)^t=((2^t:Nat):Int):=di
  rw [this];omega
 rw [e3,C6];unfold de;have e4:((j/2^l).toNat:Int)=j/2^l:=Int.toNat_of_nonneg a;rw [Int.natCast_emod,e4];simp
theorem Jr:l &&& t=2^z*(l/2^z &&& t/2^z)+(l%2^z &&& t%2^z):=by rw [<- Nat.and_div_two_pow,<- Nat.and_mod_two_pow];exact (D3 _ _).symm
theorem Lo:l &&& (2^t-1)=l%2^t:=C6 l t
theorem Lr (h:l/2^z%2^d=0) (hx:t<2^d):l ||| t*2^z=l+t*2^z:=by
 have g:0<2^z:=D2 z;have n:0<2^d:=D2 d;have e:l=l/2^z/2^d*2^(z+d)+l%2^z:=by have f:=D3 l (2^z);have m:=D3 (l/2^z) (2^d);rw [h,A9] at m;rw [<- m] at f;rw [D1,<- F3,Nat.mul_right_comm,A8 _ (2^z),A8 _ (2^d)] ;omega
 have b:l%2^z<2^z:=Nat.mod_lt _ g;have i:l/2^z/2^d*2^(z+d) ||| l%2^z=l/2^z/2^d*2^(z+d)+l%2^z:=by refine Y5 z _ _ ?_ b;rw [D1,A8 (2^z),<- F3];exact C5 _ _
 have j:t*2^z ||| l%2^z=t*2^z+l%2^z:=Y5 z _ _ (C5 _ _) b
 have c:t*2^z+l%2^z<2^(z+d):=by rw [D1,A8 (2^z)];have:(t+1)*2^z<=2^d*2^z:=Nat.mul_le_mul_right _ hx;rw [Nat.add_mul] at this;omega
 have a:l/2^z/2^d*2^(z+d) ||| (t*2^z+l%2^z)=l/2^z/2^d*2^(z+d)+(t*2^z+l%2^z):=Y5 (z+d) _ _ (C5 _ _) c
 have e2:l ||| t*2^z=l/2^z/2^d*2^(z+d) ||| (t*2^z ||| l%2^z):=by
  conv=>lhs;rw [e,<- i]
  rw [Nat.or_assoc,Nat.or_comm (l%2^z)]
 rw [e2,j,a];omega
def fO (i:Nat) (f:Fm) (o z m x:Int):Prop:=x%128=o/\(0<=z->x/4096%8=z) /\
 (match f with
 | .r=>x/33554432=m/\(i=97->x/128%32=0)
 | .h=>x/67108864=m
 | .w=>x/33554432=m
 | .a=>x/134217728=m/\(i=62\/i=73->x/1048576%32=0)
 | .x=>x=m*1048576+o
 | _=>True)
instance (i:Nat) (f:Fm) (o z m x:Int):Decidable (fO i f o z m x):=by
 unfold fO;cases f<;>infer_instance
theorem cE (c:0<=j) (d:j<18446744073709551616) (hk:l<64):T6 .and .u64 j (2^l-1)=j%2^l:=by
 have h:=iD j 0 l c d hk;have f:(0:Int)<2^l:=K1 ab;have e:(2:Int)^l<=2^63:=EF l 63 ab;have b:(2:Int)^63=9223372036854775808:=bc
 have a:IntKind.u64.wrap (2^l)=2^l:=by rw [I3];omega
 have e2:IntKind.u64.wrap (2^l-1)=2^l-1:=by rw [I3];omega
 rw [a,e2] at h;simpa [de] using h
def ay (n:Nat) (x:Int):Int:=IntKind.u64.wrap (RowKit.wrap64 (IntKind.u64.wrap (x*2^(64-n)))/2^(64-n))
def zJ (f:Fm) (x:Int):Int :=
 match f with
 | .i=>x/1048576
 | .h=>x/1048576%64
 | .w=>x/1048576%32
 | .s=>x/33554432*32+x/128%32
 | .b=>x/2147483648*4096+x/128%2*2048+x/33554432%64*32+x/256%16*2
 | .u=>x/4096*4096
 | .j=>x/2147483648*1048576+x/4096%256*4096+x/1048576%2*2048+x/2097152%1024*2
 | .a=>x/33554432%4
 | .c=>x/1048576
 | .r=>0
 | .x=>0
def n8 (f:Fm) (x:Int):Int:=RowKit.wrap64 (ay f.width (zJ f x))
theorem pq (a:0<=j) (b:j<9223372036854775808):RowKit.wrap64 (ay 64 j)=j:=by
 have e:(2:Int)^(64-64)=1:=bc
 unfold ay;exact a0d
theorem mU (f:0<=j) (n:j<18446744073709551616) (hx:0<=b) (x:b<2^t) (k:l+t<=64) (h:j/2^l%2^t=0):T6 .or .u64 j (b*2^l)=j+b*2^l:=by
 obtain ⟨A,rfl⟩:=I5 f;obtain ⟨X,rfl⟩:=I5 hx;have c:X<2^t:=by
  have:((X:Nat):Int)<((2^t:Nat):Int):=by simpa using x
  omega
 have i:A/2^l%2^t=0:=by
  have:(((A/2^l%2^t:Nat)):Int)=0:=et
  omega
 have e:((X:Int)*2^l)=((X*2^l:Nat):Int):=di
 have a:X*2^l<18446744073709551616:=by have g:X*2^l<2^t*2^l:=Nat.mul_lt_mul_of_pos_right c (D2 l);rw [<- D1] at g;have o:2^(t+l)<=2^64:=Nat.pow_le_pow_right ab ab;have d:2^64=18446744073709551616:=bc;omega
 rw [e,u64_or_nat A (X*2^l) ab a,Lr A X l t i c];simp
def U (x:Int):Prop:=0<=x/\x<18446744073709551616
def bt (x:Int) (i:Nat):Bool:=(R8 64 x).getLsbD i
theorem aW:U (IntKind.u64.wrap j):=by rw [I3];exact ⟨N1 _ ab,L6 _ ab⟩
theorem ah (o:BinOp) (x y:Int):U (T6 o .u64 x y):=aW _
theorem EG:R8 64 (IntKind.u64.wrap j)=R8 64 j:=by rw [I3];apply BitVec.eq_of_toInt_eq;rw [S2,S2];exact Int.emod_bmod j (2^64)
theorem qH (v:BitVec 64):R8 64 (IntKind.u64.wrap (v.toNat:Int))=v:=by rw [EG];simp
theorem aA:bt (T6 .and .u64 j b) l=(bt j l&&bt b l):=by show (R8 64 (IntKind.u64.wrap ((R8 64 j &&& R8 64 b).toNat:Int))).getLsbD l=_;rw [qH];simp [bt]
theorem cC:bt (T6 .or .u64 j b) l=(bt j l||bt b l):=by show (R8 64 (IntKind.u64.wrap ((R8 64 j ||| R8 64 b).toNat:Int))).getLsbD l=_;rw [qH];simp [bt]
theorem aB (a:l<64):bt (T6 .andNot .u64 j b) l=(bt j l&&!bt b l):=by show (R8 64 (IntKind.u64.wrap ((R8 64 j &&& ~~~R8 64 b).toNat:Int))).getLsbD l=_;rw [qH];simp [bt,a]
theorem oE (h:U j) (i:Nat):bt j i=j.toNat.testBit i:=by
 obtain ⟨a,b⟩:=h;obtain ⟨n,rfl⟩:=I5 a;have c:n<2^64:=ab
 unfold bt;rw [<- BitVec.testBit_toNat,Y2 n ab,K0]
theorem bF (hx:U j) (hy:U b) (h:∀ i,i<64->bt j i=bt b i):j=b:=by have e:R8 64 j=R8 64 b:=BitVec.eq_of_getLsbD_eq (λi c=>h i c);have e2:=congrArg BitVec.toNat e;obtain ⟨a,d⟩:=hx;obtain ⟨y,f⟩:=hy;obtain ⟨n,rfl⟩:=I5 a;obtain ⟨m,rfl⟩:=I5 y;rw [Y2 n ab,Y2 m ab] at e2;rw [e2]
theorem mq (h:U j) (k:Nat):U (j/2^k):=by have a:(0:Int)<2^k:=K1 ab;exact ⟨R5 h.1 ab,Int.lt_of_le_of_lt (R4 _ h.1) h.2⟩
theorem Js (h:0<=j) (k:Nat):(j/2^k).toNat=j.toNat/2^k:=by
 obtain ⟨n,rfl⟩:=I5 h;have:((n:Int)/2^k)=((n/2^k:Nat):Int):=di
 rw [this,K0,K0]
theorem jF (h:U j) (k i:Nat):bt (j/2^k) i=bt j (i+k):=by rw [oE _ (mq j h k),oE _ h,Js _ h.1,Nat.testBit_div_two_pow]
theorem uA (a:64<=l):bt j l=false:=by unfold bt;exact BitVec.getLsbD_of_ge _ _ a
theorem tq (hn:t<64):U (de j l t):=by
 have:=kL j l t;have b:=EF t 63 ab;have a:(2:Int)^63=9223372036854775808:=bc
 exact ⟨this.1,ab⟩
theorem lI (h:U j) (k n i:Nat) (hn:n<64):bt (de j k n) i=(decide (i<n)&&bt j (i+k)):=by
 rw [oE _ (tq j k n hn),<- jF j h,oE _ (mq j h k)];unfold de;have a:=(mq j h k).1;obtain ⟨m,b⟩:=I5 a;rw [b];have:((m:Int)%2^n)=((m%2^n:Nat):Int):=di
 rw [this,K0,K0,D4]
theorem nC (h:U j) (k i:Nat):bt (IntKind.u64.wrap (j*2^k)) i=(decide (k<=i)&&decide (i<64)&&bt j (i-k)):=by
 rw [oE _ (aW _),oE _ h];obtain ⟨n,rfl⟩:=I5 h.1;rw [I3];have e:((n:Int)*2^k)%18446744073709551616=((n*2^k%2^64:Nat):Int):=di
 rw [e,K0,K0,D4,Nat.testBit_mul_two_pow];cases decide (i<64)<;>cases decide (k<=i)<;>simp
theorem Pe:∀ k,d<k->l+k<=P.length->(kU P l T k).getD (l+d) 0=T/256^d%256:=by
 intro k;induction k with
 | zero=>intro h;omega
 | succ k b =>
   intro c j;rw [kU];by_cases e:d=k
   ·subst e;have:l+d<(kU P l T d).length:=by rw [jA];omega
    simp [QA3,this]
   ·have a:((kU P l T k).set (l+k) (T/256^k%256)).getD (l+d) 0=(kU P l T k).getD (l+d) 0:=by
     have:l+k≠l+d:=ab
     simp only [QA3,QA7 this]
    rw [a];exact b ab ab
theorem Pg:∀ (m f d:Nat),(∀ x,x<m->P.getD (f+x) 0=j/256^(d+x)%256)->le P f m=j/256^d%256^m:=by
 intro m;induction m with
 | zero=>intro f d _;simp [le,Int.emod_one]
 | succ m i =>
   intro f d h;rw [le,i (f+1) (d+1) (λx o=>by have:=h (x+1) ab;rw [show f+(x+1)=f+1+x from ab,show d+(x+1)=d+1+x from ab] at this;exact this)];have a:=h 0 ab;rw [A9,A9] at a;rw [a];have b:j/256^(d+1)=j/256^d/256:=(by rw [R6,Int.ediv_ediv_of_nonneg (Int.le_of_lt (K1 ab))]);have e2:(256:Int)^(m+1)=256*256^m:=(by rw [R6,O1]);rw [b,e2];generalize j/256^d=y;have e:(0:Int)<256^m:=K1 ab;generalize (256:Int)^m=N at *;have g:=P2 (y/256) N;have r:=P2 y 256;have n:=N1 (y/256) (show N≠0 by omega);have c:=L6 (y/256) e;have e3:y=(y%256+256*(y/256%N))+(256*N)*(y/256/N):=(by have k:256*(y/256)=256*(y/256%N)+256*(N*(y/256/N)):=(by rw [<- Int.mul_add,g]);rw [Int.mul_assoc];omega);have l:256*(y/256%N)+256<=256*N:=ab;have e5:∀ (A K M:Int),0<=A->A<M->(A+M*K)%M=A:=λA K M p q=>by rw [Int.add_mul_emod_self_left,Int.emod_eq_of_lt p q]
   have e6:=e5 (y%256+256*(y/256%N)) (y/256/N) (256*N) ab ab;rw [<- e3] at e6;exact e6.symm
theorem SA (h:l+t<=P.length):le (kU P l T t) l t=T%256^t:=by have:=Pg (kU P l T t) T t l 0 (λj a=>by rw [Nat.zero_add];exact Pe P l T j t a h);simpa using this
theorem Ph:∀ k,(d<l\/l+k<=d)->(kU P l T k).getD d 0=P.getD d 0:=by
 intro k;induction k with
 | zero=>intro h;rfl
 | succ k b =>intro h;have e:(kU P l T (k+1)).getD d 0=(kU P l T k).getD d 0:=(by show ((kU P l T k).set (l+k) (T/256^k%256)).getD d 0=_;have a:l+k≠d:=ab;simp [QA3,QA7 a]);rw [e];exact b ab
theorem Pi:∀ m g,(∀ j,j<m->c.getD (g+j) 0=P.getD (g+j) 0)->le c g m=le P g m:=by
 intro m;induction m with
 | zero=>intro g h;rfl
 | succ m b =>intro g h;show c.getD g 0+256*le c (g+1) m=P.getD g 0+256*le P (g+1) m;have a:=h 0 ab;rw [A9] at a;rw [a,b (g+1) (λj ys=>by have:=h (j+1) ab;rw [show g+1+j=g+(j+1) from ab];exact this)]
theorem EH (h:t+z<=l\/l+z<=t):le (kU P l T z) t z=le P t z :=
 Pi _ _ z t λj a=>Ph P l T (t+j) z ab
theorem qI {n:Nat} {xs:List T5} (ty:X7) (f:x.ownsRow o 5 1 y n xs) (a:V8) (c:Nat) (b:Int) (d:∀ j u,[G1 .u8 b][j]?=some u->x.cell? (a.add j)=some u) (hn:n<=1048576) {t:T5} {w':S5} (hr:(Builtin.append_ #[22,22] ty #[y,.slice (some a) 1 c]).run prog x=.ok t w'):t.ownBlock=y.ownBlock\/t.ownBlock=some x.heap.size:=by
 obtain ⟨p,r,m,k,base⟩:=X5 info5;have w:∀ u ∈ [G1 .u8 b],u.oneCell':=ia
 have s:[G1 .u8 b].length=1*p.size:=by rw [k];rfl
 rcases f.2 with ⟨e,C⟩|⟨g,cap,q,e,D,l,v,z,A,B⟩
 ·subst e;right;have h:=run_append_grow_src (P:=prog) x 22 22 ty 5 p (.int .u8 0) underlying22 r m none 0 0 [] (run_firstCells_none x.drew p.size 0 0 0) (.slice (some a) 1 c) 1 [.int .u8 b] (Src.ofSlice x underlying22 a 1 c [.int .u8 b] s d w) ab ab (Y6 ab (by rw [base];omega));rw [h] at hr;injection hr with e1 _
  rw [<- e1];rfl
 ·subst e;by_cases i:n+1<=cap
  ·left;have h:=run_append_room (P:=prog) x 22 ty 5 p underlying22 r g n cap q l a 1 c [.int .u8 b] s d w i (by rw [k] at *;simp;omega);rw [h] at hr;injection hr with e1 _
   rw [<- e1];rfl
  ·right;have holds:∀ j u,xs[j]?=some u->x.cell? ((⟨g,0,none⟩:V8).add j)=some u:=f.cells (g:=g) rfl;have h:=run_append_grow (P:=prog) x 22 ty 5 p (.int .u8 0) underlying22 r m ⟨g,0,none⟩ n cap xs (by rw [k];exact f.1) holds a 1 c [.int .u8 b] s d ab ab (Y6 ab (by rw [base];omega));rw [h] at hr;injection hr with e1 _
   rw [<- e1];rfl
theorem qJ (p:f.guard=none) (s Q:Z0) (E:f.op=.call {callee:=.builtin .append,args:=#[s,Q],argTypes:=#[22,22]}) (base o:Nat) (v:T5) (zs:List Int) (hs:a.eval s=v) (i:x.ownsRow base 5 1 v o (zs.map (G1 .u8))) (hn:o<=1048576) (ad:V8) (c:Nat) (b:Int) (hx:a.eval Q=.slice (some ad) 1 c) (d:∀ j u,[G1 .u8 b][j]?=some u->x.cell? (ad.add j)=some u) (l:base<=x.heap.size) (h:∀ rest g m,m.ownsRow base 5 1 (.slice rest (o+1) g) (o+1) ((zs++[b]).map (G1 .u8))->x.grownBy m v.ownBlock->((I1 rest (o+1) g).ownBlock=v.ownBlock\/(I1 rest (o+1) g).ownBlock=some x.heap.size)->wpList prog w n k (a.put f.dst (.slice rest (o+1) g)) m):wpList prog w n (f::k) a x:=by
 obtain ⟨H,D,q,r,t⟩:=X5 info5;obtain ⟨I,m,z,y,B,M⟩:=run_append_own (P:=prog) x base 22 f.type 5 H (.int .u8 0) 1 1 underlying22 D q r t rfl bc v o (zs.map (G1 .u8)) i ad 1 c [.int .u8 b] rfl d ia fb ab l;have G:=qI f.type i ad c b d hn z;have F:∃ rest g,I=.slice rest (o+1) g:=by
  rcases y.2 with ⟨_,J⟩|⟨L,cap,A,e,_⟩;·omega
  ·exact ⟨_,_,e⟩
 obtain ⟨rest,g,rfl⟩:=F;refine X0 p λK C=>?_;unfold QB8 X6;simp only [E,resolve,invoke,builtin,QB3,QB4,QB2,List.map_toArray,QA9,List.map_nil,hs,hx,z];exact C _ _ (h rest g m (by rw [QA4];exact y) B G)
theorem qK (u:T5) (h:[G1 .u8 j][l]?=some u):(Q.alloc (.cells #[.int .u8 j] 5)).cell? ((⟨Q.heap.size,0,none⟩:V8).add l)=some u:=by
 have c:l=0:=by
  rcases F0 l with a|a;·exact a
  ·rw [List.getElem?_eq_none bv] at h;cases h
 subst c;rw [zt];simp only [QA5,Option.some.injEq] at h;subst h;have e:=T3 Q (.cells #[.int .u8 j] 5);show (Q.alloc (.cells #[.int .u8 j] 5)).cell? ⟨Q.heap.size,0,none⟩=_;simp only [World.cell?,e];rfl
open Go.RowKit Tryz Go.Conc
variable {w:Nat} {c a n:S5} {o:Obj} {k:Option Nat} {J:List T5} (b:List Int) (d:Option V8) (f Q e:Nat) (g:List Int) (j:S5)
theorem mi.refl:mi f j j:=⟨rfl,λ_ _=>rfl,λ_ _ _ h=>h⟩
theorem mi.trans (h:mi w c a) (k:mi w a n):mi w c n:=⟨k.size.trans h.size,λj d=>(k.else_ j d).trans (h.else_ j d),λB w1 b e=>k.below B w1 b (h.below B w1 b e)⟩
theorem lG.push {wr:S5} (h:lG w (w+1) c wr) (m:w<c.heap.size) (f:mi w wr a) (w1:(a.alloc o).grownBy n k) (hr:∀ row,k=some row->c.heap.size<=row):lG w (w+1) c n:=by have b:=f.below w wr (A5 _) (Z8 _ _);have i:=w1.size;have j:=f.size;have l:=h.size;rw [QB1] at i;refine ⟨w1.os.trans (b.os.trans h.os),w1.tape.trans (b.tape.trans h.tape),w1.output.trans (b.output.trans h.output),ab,λrow g d=>?_⟩;rw [w1.block row j1 (λe=>by have:=hr row e.symm;omega),Z9 a o row ab,f.else_ row ab,h.block row g d]
theorem Jt {cap:Nat} {cl:Bool} (h:dC c w cap J cl) (b:(c.alloc o).grownBy a k) (hr:∀ row,k=some row->w<row):dC a w cap J cl :=
 qx h ((b.block w (by rw [QB1];have:=h.lt;omega) (λe=>by have:=hr w e.symm;omega)).trans (Z9 c o w h.lt))
theorem yz (h:f<b.length):(b.take f).map (G1 .u8)++[.int .u8 (b.getD f 0)]=(b.take (f+1)).map (G1 .u8):=by
 have a:b.take (f+1)=b.take f++[b.getD f 0]:=by rw [List.take_succ_eq_append_getElem h];simp [QA3,QA2 h]
 rw [a,QA4];rfl
theorem Ju (h:f<b.length):(b.drop f).map (G1 .u8)=.int .u8 (b.getD f 0)::(b.drop (f+1)).map (G1 .u8):=by rw [List.drop_eq_getElem_cons h,QA9];simp [QA3,QA2 h]
theorem tu (a:Option V8) (n J:Nat) (zs:List Int) (c w:S5) (hz:zs.length=n) (hn:n<=1048576) (d:n<=Q) (q:Sl .u8 c a zs) (m:Bw c w) (o:c.heap.size<=f) (C:dC w f Q [] false): V4 prog 124 #[.chan (some f),.slice a n J] w λe D=>e=.returned (.tuple #[])/\dC D f Q (zs.map (G1 .u8)) false/\mi f w D:=by
 have B:Hid (Bw c w/\c.heap.size<=f):=⟨m,o⟩;have H:Hid (Sl .u8 c a zs):=q;have E:Hid (dC w f Q [] false):=C;have r:Hid (zs.length=n):=hz;have HR:Hid (n<=Q):=d;clear m o q C hz d;go_enter func124,ntmps124;go_wp2_with fail;go_loopw [8] (λi wr=>∃ k:Nat,k<=n/\i=.i k/\Hid (dC wr f Q ((zs.take k).map (G1 .u8)) false)/\Hid (mi f w wr))
  (λi _=>n-(intOf i).toNat)
 case atStart=>exact ⟨0,A6 _,rfl,E.out,mi.refl _ _⟩
 case round =>
  obtain ⟨k,M,rfl,g,j⟩:=hrel;by_cases u:k<n
  ·obtain ⟨b,A,rfl,I,p⟩:=H.out k (by rw [r.out];exact u);have K:wr.cell? ⟨b,A+k,none⟩=some (.int .u8 (zs.getD k 0)):=((j.out.below _ _ B.out.2 B.out.1).cell (by exact I)).trans p;clear p;have F:Hid ((zs.take k).map (G1 .u8)++[.int .u8 (zs.getD k 0)]=(zs.take (k+1)).map (G1 .u8)):=(by exact yz zs k (by have:=r.out;omega));have G:((zs.take k).map (G1 .u8)).length<Q:=(by have:=r.out;have:=HR.out;simp;omega);go_upto_region 3 with fail
   refine gW ?_;intro L l;unfold ny;refine kg rfl rfl ?_;simp [go_sem,QB0];refine kg rfl rfl ?_;simp [go_sem,QB0];refine uT (c:=f) (v:=.int .u8 (zs.getD k 0)) (z:=.tuple #[]) rfl rfl (by simp [go_sem,scase]) g.out G ?_;intro N s y;simp only [QB0];refine mP (l.out _ _ _ ?_);clear l;go_wp2_with fail;go_roundw;case rel=>exact ⟨k+1,ab,by go_num,by rw [<- F.out];exact s,j.out.trans y⟩
   case measure=>simp [intOf];omega
  ·have t:k=n:=ab;subst t;rw [<- r.out,QA8] at g;go_wp2_with fail;refine bodyPost_end (results_none rfl _ _ _) rfl ?_;exact ⟨rfl,g.out,j.out⟩
theorem lf (hn:g.length<=1048576) (M:dC j f Q (g.map (G1 .u8)) true): V4 prog 125 #[.chan (some f)] j λe N=>∃ (zs:Option V8) (w:Nat),e=.returned (.slice zs g.length w)/\N.ownsRow j.heap.size 5 1 (.slice zs g.length w) g.length (g.map (G1 .u8))/\lG f (f+1) j N:=by
 have L:Hid (dC j f Q (g.map (G1 .u8)) true):=M
 have O:Hid (g.length<=1048576):=hn
 clear M hn
 go_enter func125,ntmps125
 go_wp2_with fail
 go_loopw [3] (λy wr=>∃ (k:Nat) (zs:Option V8) (w:Nat),k<=g.length/\y=.slice zs k w/\Hid (wr.ownsRow j.heap.size 5 1 (.slice zs k w) k ((g.take k).map (G1 .u8)))/\Hid (dC wr f Q ((g.drop k).map (G1 .u8)) true)/\Hid (lG f (f+1) j wr))
  (λ_ wr=>zq wr f)
 case atStart=>exact ⟨0,none,0,A6 _,rfl,⟨rfl,.inl ⟨rfl,rfl⟩⟩,L.out,lG.refl _ _ _⟩
 case round =>
  obtain ⟨k,zs,w,W,rfl,p,m,u⟩:=hrel
  by_cases E:k<g.length
  ·have cap:=aq (yz g k E)
   have d:dC wr f Q (.int .u8 (g.getD k 0)::(g.drop (k+1)).map (G1 .u8)) true:=by rw [<- Ju g k E];exact m.out
   have l:=aq d
   clear d m
   have s:=aq (L.out.lt)
   generalize g.getD k 0=b at *
   refine wp_seq (gW ?_)
   intro S c
   unfold ny
   refine uU (c:=f) (z:=.int .u8 0) true rfl rfl (by simp [go_sem,rcase]) l.out ?_
   intro G C o
   simp only [got,if_true]
   refine kg rfl rfl ?_
   simp [go_sem,QB0]
   refine mP (c.out _ _ _ ?_)
   clear c
   simp only [Exit.then]
   have P:Hid ((G.alloc (.cells #[.int .u8 b] 5)).ownsRow j.heap.size 5 1 (.slice zs k w) k ((g.take k).map (G1 .u8))):=dc (dQ p.out (λq e=>o.else_ q (by have:=(p.out.lt q e).1;have:=s.out;omega))) (bal _ _)
   have A:=aq (qK G b)
   have T:=aq (show j.heap.size<=G.heap.size by rw [o.size];exact u.out.size)
   have H:=aq C
   have I:=aq o
   clear C o
   go_wp2_with (first
    | (at_builtin;refine qJ rfl (.tmp 9) (.tmp 11) rfl j.heap.size k (.slice zs k w) (g.take k) rfl P.out (by have:=O.out;omega) ⟨G.heap.size,0,none⟩ 1 b rfl A.out (by have:=T.out;simp only [QB1];omega) ?_;intro U V X F B J;have R:=aq F;have K:=aq B;clear F B J))
   have r:∀ q,(I1 zs k w).ownBlock=some q->j.heap.size<=q:=λq e=>(p.out.lt q e).1
   have D:=Jt H.out K.out (λq e=>D8 s.out (r q e))
   go_roundw
   case rel=>exact ⟨k+1,U,V,ab,rfl,(by rw [<- cap.out];have h:=R.out;rw [QA4] at h;exact h),D,u.out.push s.out I.out K.out r⟩
   case measure=>rw [D.len,l.out.len];simp
  ·have t:g.length=k:=by omega
   have d:dC wr f Q [] true:=by
    have h:=m.out
    rw [<- t,List.drop_length] at h
    exact h
   have l:=aq d
   clear d m
   refine wp_seq (gW ?_)
   intro S c
   unfold ny
   refine uV (c:=f) (z:=.int .u8 0) true rfl rfl (by simp [go_sem,rcase]) l.out ?_
   simp only [got,if_true]
   refine kg rfl rfl ?_
   simp [go_sem,QB0]
   refine mP (c.out _ _ _ ?_)
   clear c
   simp only [Exit.then]
   go_wp2_with fail
   go_ret
   refine ⟨zs,w,(by rw [t];rfl),?_,u.out⟩
   have h:=p.out
   rw [<- t,QA8] at h
   exact h
theorem Lt (hm:f<=1048576) (w:S5):(Instr.makeChan 179 (.i f)).run prog w=.ok (.chan (some w.heap.size)) (w.alloc (.chan f #[] false 0 0 false)):=by obtain ⟨a,c,d,e,b⟩:=X5 info5;exact run_makeChan underlying179 c .i64 f ab (by rw [b];omega)
def fs (zs:List Int) (b:Int) (a:Nat):List Int:=if zs.length<a then zs++[b] else zs
theorem qL {w3:S5} {v:T5} {w1:Nat} (f:w1=c.heap.size) (w2:mi w1 (c.alloc o) a) (b:mi w1 a n) (d:lG w1 (w1+1) n w3) (g:w3.ownsRow n.heap.size 5 1 v w J):w3.ownsRow c.heap.size 5 1 v w J/\Bw c w3:=by subst f;have h:=w2.size;have i:=b.size;have j:=d.size;rw [QB1] at h;have e:=b.below _ _ (A5 _) (w2.below _ _ (A5 _) ((Z8 c.heap.size c).alloc (A5 _) o));exact ⟨cQ g ab,e.trans (d.below (A5 _) ab)⟩
theorem oF (b:Int) (w:S5) (hz:g.length=f) (hm:e<=4096) (hn:f<=e) (r:Sl .u8 w d g): V4 prog 112 #[.slice d f Q,.int .u8 b,.i e] w λn F=>∃ (t:Option V8) (u:Nat),n=.returned (.slice t (fs g b e).length u)/\F.ownsRow w.heap.size 5 1 (.slice t (fs g b e).length u) (fs g b e).length ((fs g b e).map (G1 .u8))/\Bw w F:=by
 have O:Hid (∀ p,Bw w p->dC p w.heap.size e [] false->V4 prog 124 #[.chan (some w.heap.size),.slice d f Q] p λn F=>n=.returned (.tuple #[])/\dC F w.heap.size e (g.map (G1 .u8)) false/\mi w.heap.size p F):=λp U W=>tu _ _ _ _ _ g w p hz ab hn r U (A5 _) W;have X:=Lt e ab;have M:Hid (∀ o,Bw w (w.alloc o)):=λo=>(Z8 _ _).alloc (A5 _) o;have N:Hid (∀ m,dC (w.alloc (.chan m #[] false 0 0 false)) w.heap.size m [] false):=λm=>⟨0,0,T3 _ _⟩;by_cases G:f<e
 ·have s:Hid (fs g b e=g++[b]):=(by show _=_;unfold fs;rw [hz,JZ8 G]);have I:Hid ((fs g b e).length<=1048576):=(by show _<=_;rw [s.out];simp;omega);have R:Hid ((g.map (G1 .u8)).length<e):=(by show _<_;simp;omega);have S:Hid (g.map (G1 .u8)++[.int .u8 b]=(fs g b e).map (G1 .u8)):=(by show _=_;rw [s.out,QA4];rfl);clear s;generalize fs g b e=V at *;have T:decide (f<e):=bv;clear G r hz hn hm;go_enter func112,ntmps112;go_wp2_with fail;refine (O.out _ (M.out _) (N.out _)).mono ?_;rintro n p ⟨rfl,zs,j⟩;have H:=aq zs;have J:=aq j;clear zs j;go_upto_region 4 with fail
  refine gW ?_;intro QC A;unfold ny;refine kg rfl rfl ?_;simp [go_sem,QB0];refine kg rfl rfl ?_;simp [go_sem,QB0];refine uT (c:=w.heap.size) (v:=.int .u8 b) (z:=.tuple #[]) rfl rfl (by simp [go_sem,scase]) H.out R.out ?_;intro w2 B D;simp only [QB0];refine mP (A.out _ _ _ ?_);clear A;obtain ⟨L,K,a,l⟩:=zr (P:=prog) B;rw [S.out] at a;have q:=aq (J.out.trans (D.trans l));have HR:=aq (lf w.heap.size e V L I.out a);clear B D a l;try simp only [Exit.then]
  go_wp2_with fail;refine (HR.out).mono ?_;rintro n Y ⟨t,u,rfl,E,C⟩;have y:=aq (qL rfl q.out (mi.refl _ _) C E);clear E C;go_wp2_with fail;go_ret;exact ⟨t,u,rfl,y.out.1,y.out.2⟩
 ·have s:Hid (fs g b e=g):=(by show _=_;unfold fs;rw [hz,JZ9 G]);have I:Hid (g.length<=1048576):=(by show _<=_;omega);generalize fs g b e=V at *;have T:decide (f<e)=false:=bv;have Z:Hid (g.length=f):=hz;clear G r hz hn hm;go_enter func112,ntmps112;go_wp2_with fail;refine (O.out _ (M.out _) (N.out _)).mono ?_;rintro n p ⟨rfl,zs,j⟩;obtain ⟨L,K,a,l⟩:=zr (P:=prog) zs;have q:=aq (j.trans l);have HR:=aq (lf w.heap.size e g L I.out a);clear zs j a l;go_wp2_with fail;refine (HR.out).mono ?_;rintro n Y ⟨t,u,rfl,E,C⟩;have y:=aq (qL rfl q.out (mi.refl _ _) C E);clear E C;go_wp2_with fail;go_ret;exact ⟨t,u,(by rw [s.out];rfl),(by rw [s.out];exact y.out.1),y.out.2⟩
theorem rX (hz:g.length=f) (hn:f<=4096) (B:Sl .u8 j d g): V4 prog 270 #[.slice d f Q] j λe D=>∃ (r:Option V8) (s:Nat),e=.returned (.tuple #[.int .u8 (g.getD 0 0),.slice r (g.drop 1).length s])/\D.ownsRow j.heap.size 5 1 (.slice r (g.drop 1).length s) (g.drop 1).length ((g.drop 1).map (G1 .u8))/\Bw j D:=by
 have I:Hid (∀ p,Bw j p->dC p j.heap.size f [] false->V4 prog 124 #[.chan (some j.heap.size),.slice d f Q] p λe D=>e=.returned (.tuple #[])/\dC D j.heap.size f (g.map (G1 .u8)) false/\mi j.heap.size p D):=λp N O=>tu _ _ _ _ _ g j p hz ab (A5 _) B N (A5 _) O;have J:=Lt f ab;have G:Hid (∀ o,Bw j (j.alloc o)):=λo=>(Z8 _ _).alloc (A5 _) o;have H:Hid (∀ m,dC (j.alloc (.chan m #[] false 0 0 false)) j.heap.size m [] false):=λm=>⟨0,0,T3 _ _⟩;have L:Hid ((g.drop 1).length<=1048576):=by show _<=_;simp;omega
 clear B;cases g with
 | nil =>
   clear hz hn;go_enter func270,ntmps270;go_wp2_with fail;refine (I.out _ (G.out _) (H.out _)).mono ?_;rintro e p ⟨rfl,a,zs⟩;obtain ⟨K,F,n,w⟩:=zr (P:=prog) a;have q:=aq (zs.trans w);have l:=aq n;clear a zs n w;go_upto_region 4 with fail
   refine gW ?_;intro M b;unfold ny;refine kg rfl rfl ?_;simp [go_sem,QB0];refine uV (c:=j.heap.size) (z:=.int .u8 0) false rfl rfl (by simp [go_sem,rcase]) l.out ?_;simp [got];refine kg rfl rfl ?_;simp [go_sem,QB0];refine mP (b.out _ _ _ ?_);clear b;have HR:=aq (lf j.heap.size f [] K di l.out);try simp only [Exit.then]
   go_wp2_with fail;refine (HR.out).mono ?_;rintro e S ⟨r,s,rfl,C,y⟩;have t:=aq (qL rfl q.out (mi.refl _ _) y C);clear C y;go_wp2_with fail;refine T4 (Y9 rfl _ _ _) rfl ?_;exact ⟨r,s,rfl,t.out.1,t.out.2⟩
 | cons z g =>
   clear hz hn;go_enter func270,ntmps270;go_wp2_with fail;refine (I.out _ (G.out _) (H.out _)).mono ?_;rintro e p ⟨rfl,a,zs⟩;obtain ⟨K,F,n,w⟩:=zr (P:=prog) a;have q:=aq (zs.trans w);have l:=aq n;clear a zs n w;go_upto_region 4 with fail
   refine gW ?_;intro M b;unfold ny;refine kg rfl rfl ?_;simp [go_sem,QB0];refine uU (c:=j.heap.size) (z:=.int .u8 0) false rfl rfl (by simp [go_sem,rcase]) l.out ?_;intro R u A;have E:=aq (q.out.trans A);have HR:=aq (lf j.heap.size f g R L.out u);clear u A;simp [got];refine kg rfl rfl ?_;simp [go_sem,QB0];refine mP (b.out _ _ _ ?_);clear b;try simp only [Exit.then]
   go_wp2_with fail;refine (HR.out).mono ?_;rintro e S ⟨r,s,rfl,C,y⟩;have t:=aq (qL rfl E.out (mi.refl _ _) y C);clear C y;go_wp2_with fail;refine T4 (Y9 rfl _ _ _) rfl ?_;exact ⟨r,s,rfl,t.out.1,t.out.2⟩
variable {w:S5} {b:Int} {a:Nat} (x:DV) (t c:Int) (d:Bool) (f:Option V8) (g n:Nat) (z:Option V8) (j k:Nat) (y:Int) (m:S5)
theorem Lu:CE 269 #[.u 33554432,.i 4] m (.bool true):=by go_enter func269,ntmps269;exact a02
theorem Lw:CE 269 #[.u 33570816,.i 8] m (.bool true):=by go_enter func269,ntmps269;exact a02
theorem Lx:CE 269 #[.u 33603576,.i 8] m (.bool true):=by go_enter func269,ntmps269;exact a02
theorem Ly:CE 269 #[.u 268435456,.i 1] m (.bool true):=by go_enter func269,ntmps269;exact a02
theorem Lz:CE 269 #[.u 268435457,.i 1] m (.bool true):=by go_enter func269,ntmps269;exact a02
theorem LA:CE 269 #[.u 268435461,.i 1] m (.bool true):=by go_enter func269,ntmps269;exact a02
theorem yA:V4 prog 31 #[.u t,.i 0,.i 1] m λe b=>e=.returned (.u (T6 .and .u64 t 1))/\b=m.drew:=by
 go_enter func31,ntmps31;go_wp2_with fail;go_region;all_goals go_wp2_with fail
 all_goals go_ret
 all_goals exact ⟨rfl,rfl⟩
theorem BN:CE 263 #[.bool d] m (.u (gv d)):=by
 cases d with
 | false =>go_enter func263,ntmps263;exact a02
 | true =>go_enter func263,ntmps263;exact a02
theorem BO:(binOp .eql 22 (.slice f g n) (.slice none 0 0)).run prog m=.ok (.bool f.isNone) m:=by simp only [binOp];simp [run_equal_slice_nil m 22 5 f g n underlying22]
theorem jY (c:Nat) (zs:List Int) (w:S5) (hz:zs.length=g) (hn:g<=1048576) (a:Sl .u8 w f zs): V4 prog 17 #[.slice f g c] w λe q=>∃ (m:Option V8) (o:Nat),e=.returned (.slice m g o)/\q.ownsRow w.heap.size 5 1 (.slice m g o) g (zs.map (G1 .u8))/\Bw w q:=by
 cases f with
 | none =>
   have A:zs=[]:=by
    cases zs with
    | nil=>rfl
    | cons z zs=>obtain ⟨b,C,e,_⟩:=a 0 di;cases e
   subst A
   simp only [List.length_nil] at hz
   subst hz
   clear a hn
   have d:=BO none 0 c
   simp only [QB6] at d
   go_enter func17,ntmps17
   go_wp2_with fail
   go_ret
   exact ⟨none,0,rfl,⟨rfl,.inl ⟨rfl,rfl⟩⟩,Z8 _ _⟩
 | some p =>
   have B:=jl w w.heap.size (A5 _) (.cells #[] 5 (0,0)) rfl
   have s:Hid (Sl .u8 (w.alloc (.cells #[] 5 (0,0))) (some p) zs):=a.below (bal _ _)
   have l:Hid (zs.length=g/\g<=1048576):=⟨hz,hn⟩
   clear a hz hn
   have d:=BO (some p) g c
   simp only [QB6] at d
   go_enter func17,ntmps17
   go_wp2_with (first
    | (at_builtin;refine it rfl (.tmp 5) (.tmp 6) rfl w.heap.size _ rfl B (some p) g c zs rfl l.out.1 l.out.2 s.out di ?_;intro u y D j n;have r:=aq (Sx n rfl);have t:=aq j;clear j n))
   go_ret
   exact ⟨u,y,rfl,t.out,r.out⟩
theorem lJ (b c1:Nat) (a2:Option V8) (z c2:Nat) (y:Int) (xs ys:List Int) (w:S5) (hx:xs.length=b) (hy:ys.length=z) (E:b<=1048576) (F:z<=1048576) (G:Sl .u8 w f xs) (H:Sl .u8 w a2 ys): V4 prog 40 #[.agg #[.u t,.u c,.bool d,.slice f b c1,.slice a2 z c2,.i y]] w λe cm=>∃ (a1:Option V8) (j:Nat) (o:Option V8) (q:Nat),e=.returned (.agg #[.u t,.u c,.bool d,.slice a1 b j,.slice o z q,.i y]) /\ bj w.heap.size cm.heap.size cm (eX a1 b j xs o z q ys)/\Bw w cm:=by have J:Hid (∀ cm,Bw w cm->V4 prog 17 #[.slice f b c1] cm λe m=>∃ (B:Option V8) (C:Nat),e=.returned (.slice B b C)/\m.ownsRow cm.heap.size 5 1 (.slice B b C) b (xs.map (G1 .u8))/\Bw cm m):=λcm M=>jY _ _ _ xs cm hx E (G.below M);have K:Hid (∀ cm,Bw w cm->V4 prog 17 #[.slice a2 z c2] cm λe m=>∃ (B:Option V8) (C:Nat),e=.returned (.slice B z C)/\m.ownsRow cm.heap.size 5 1 (.slice B z C) z (ys.map (G1 .u8))/\Bw cm m):=λcm M=>jY _ _ _ ys cm hy F (H.below M);have D:∀ N O,Bw w ((w.alloc N).alloc O):=λN O=>((Z8 _ _).alloc (A5 _) N).alloc di O;clear G H hx hy E F;go_enter func40,ntmps40;go_wp2_with fail;refine (J.out _ (D _ _)).mono ?_;rintro e Q ⟨a1,j,rfl,s,r⟩;obtain ⟨I,r1⟩:=jR r;have U:=aq I;have R1:=aq r1;have B1:=aq (aa (D _ _) r);have R:=r.size;simp only [QB1] at R s;have Z1:=aq R;have A1:=aq ((bj.nil (w.heap.size+1+1) (w.heap.size+1+1) Q).snoc (aE a1 b j xs) _ Q.heap.size s (A5 _) (A5 _) (A5 _) ab);obtain ⟨W,X,Y,Z,p4,p5⟩:=aQ I;have f3:=dD I 3;have A:(Q.setCell ⟨w.heap.size,3,none⟩ (.slice a1 b j)).heap[w.heap.size]?=some (.cells #[.u t,.u c,.bool d,.slice a1 b j,.slice a2 z c2,.i y] 27 (0,0)):=bH U.out 3 (.slice a1 b j);have P:=(aQ A).2.2.2.2.1;have T:=aq (B1.out.setCell (p:=⟨w.heap.size,3,none⟩) (A5 _) (.slice a1 b j));clear I r1 r R s A;go_wp2_with fail;refine (K.out _ T.out).mono ?_;rintro e w2 ⟨o,q,rfl,u,l⟩;have S:=l.size;rw [aO] at S u;have V:Hid (w2.heap[w.heap.size]?=some (.cells #[.u t,.u c,.bool d,.slice a1 b j,.slice a2 z c2,.i y] 27 (0,0))):=aD l (bH U.out 3 (.slice a1 b j));have L:=aq (aD l (fT R1.out ⟨w.heap.size,3,none⟩ (.slice a1 b j) cb));have B2:=aq (aa T.out l);have A2:=aq (((A1.out.set ⟨w.heap.size,3,none⟩ (.slice a1 b j) (.inl cb)).below l).snoc (aE o z q ys) _ w2.heap.size u (A5 _) (by have:=Z1.out;omega) (A5 _) S);clear W X Y Z p4 p5 f3 P;obtain ⟨W,X,Y,Z,p4,p5⟩:=aQ V.out;have f4:=dD V.out 4;obtain ⟨s0,s1,s2,s3,s4,s5⟩:=aQ L.out;obtain ⟨y0,y1,y2,y3,y4,y5⟩:=mn L.out;clear u l S;go_wp2_with fail;have T1:=fT L.out ⟨w.heap.size,4,none⟩ (.slice o z q) cb;have A3:=(A2.out.set ⟨w.heap.size,4,none⟩ (.slice o z q) (.inl cb)).put6 (w.heap.size+1) (.inl ab) (.u t) (.u c) (.bool d) (.slice a1 b j) (.slice o z q) (.i y);have B3:=dE (B2.out.setCell (p:=⟨w.heap.size,4,none⟩) (A5 _) (.slice o z q)) (g:=w.heap.size+1) ab (.u t) (.u c) (.bool d) (.slice a1 b j) (.slice o z q) (.i y);exact T4 (Y1 results40 _ _ _ _ _ _ _ rfl (fj T1 _ _ _ _ _ _) underlying27 rfl aU) rfl ⟨a1,j,o,q,rfl,A3.low ab ko,B3⟩
theorem SB: CB 271 #[.agg #[.u t,.u c,.bool d,.slice f g n,.slice z j k,.i y],.u 33554432] m (.u (gv d)):=by have l:∀ o,Bw m (m.alloc o):=λo=>(Z8 _ _).alloc (A5 _) o;have a1:Hid (∀ m,CE 263 #[.bool d] m (.u (gv d))):=BN d;generalize gv d=v at *;go_enter func271,ntmps271;go_wp2_with fail;refine (a1.out _).mono ?_;rintro e p ⟨rfl,cm⟩;subst cm;go_wp2_with fail;go_ret;exact ⟨rfl,l _⟩
theorem SC: CB 271 #[.agg #[.u t,.u c,.bool d,.slice f g n,.slice z j k,.i y],.u 33570816] m (.u c):=by have b:∀ o,Bw m (m.alloc o):=λo=>(Z8 _ _).alloc (A5 _) o;go_enter func271,ntmps271;go_wp2_with fail;go_ret;exact ⟨rfl,b _⟩
theorem SE: CB 271 #[.agg #[.u t,.u c,.bool d,.slice f g n,.slice z j k,.i y],.u 33603576] m (.u t):=by have b:∀ o,Bw m (m.alloc o):=λo=>(Z8 _ _).alloc (A5 _) o;go_enter func271,ntmps271;go_wp2_with fail;go_ret;exact ⟨rfl,b _⟩
theorem SF: CB 271 #[.agg #[.u t,.u c,.bool d,.slice f g n,.slice z j k,.i y],.u 268435457] m (.u (IntKind.u64.wrap y)):=by have cm:∀ o,Bw m (m.alloc o):=λo=>(Z8 _ _).alloc (A5 _) o;go_enter func271,ntmps271;go_wp2_with fail;go_ret;exact ⟨rfl,cm _⟩
theorem SG: CB 271 #[.agg #[.u t,.u c,.bool d,.slice f g n,.slice z j k,.i y],.u 268435461] m (.u (IntKind.u64.wrap (32+gv (decide (0<g))))):=by
 have a1:∀ o,Bw m (m.alloc o):=λo=>(Z8 _ _).alloc (A5 _) o;rcases F0 g with cm | cm;·subst cm;go_enter func271,ntmps271;go_wp2_with fail;go_ret;exact ⟨rfl,a1 _⟩
 ·have F:Hid (IntKind.u64.wrap (32+gv (decide (0<g)))=33):=(by show _=_;rw [decide_eq_true cm];rfl);generalize IntKind.u64.wrap (32+gv (decide (0<g)))=v at *;have w:decide (0<g):=bv;clear cm;go_enter func271,ntmps271;go_wp2_with fail;go_ret;exact ⟨bh,a1 _⟩
theorem vA {o1 o2:Obj}:Bw w ((w.alloc o1).alloc o2):=((Z8 _ _).alloc (A5 _) o1).alloc di o2
theorem zK {c:Nat} (h:lA a c b):a<=16/\c<=4096/\0<=b/\b<=1:=by unfold lA at h;simp only [Bool.and_eq_true,JZ6] at h;exact ⟨h.1.1,h.1.2,h.2.1,h.2.2⟩
theorem LC (a:0<=t) (b:t<=255):IntKind.u64.wrap t=t:=by simp [IntKind.wrap,IntKind.signed,IntKind.bits];omega
theorem Jv {n:Nat} {t:X7} {v:T5} {xs:List T5} (h:w.ownsRow a t 1 v n xs) (p:V8) (x:T5) (B:p.block<a):(w.setCell p x).ownsRow a t 1 v n xs :=
 dQ h (λk e=>Below.heap_setCell w p x k (by have:=(h.lt k e).1;omega))
def pu (w:S5):Prop:=∀ j,j<64->w.cell? ⟨0,j,none⟩=some (.int .u8 (Lib.deBruijn64tab.getD j 0))
theorem pu.lt (h:pu w):0<w.heap.size:=World.block_lt_of_cell? _ _ (h 0 ab)
theorem pu.from {w':S5} (h:pu w) (hb:QA1 a w w') (hn:0<a):pu w':=λj n=>(hb.cell (p:=⟨0,j,none⟩) hn).trans (h j n)
theorem pu.below {w':S5} (h:pu w) (hb:Bw w w'):pu w':=h.from hb h.lt
theorem SH (hx:g<18446744073709551616) (d:g≠0) (b:g &&& (18446744073709551616-g)=n): IntKind.u64.wrap (T6 BinOp.and I4 (g:Int) (IntKind.u64.wrap (-(g:Int)))*285870213051353865)/288230376151711744=((n*285870213051353865%18446744073709551616/288230376151711744:Nat):Int):=by
 have c:IntKind.u64.wrap (-(g:Int))=((18446744073709551616-g:Nat):Int):=by rw [I3];omega
 rw [c,bits_and_u64_nat g _ hx ab,b,I3];omega
theorem Pj (d:((g:Int)==0)=false) (key:IntKind.u64.wrap (T6 BinOp.and I4 (g:Int) (IntKind.u64.wrap (-(g:Int)))*285870213051353865)/288230376151711744=(j:Int)) (x:j<64) (hk:n<64) (c:m.cell? ⟨0,j,none⟩=some (.int .u8 n)): CE 272 #[.u g] m (.i n):=by go_enter func272,ntmps272;go_wp2_with (simp only [key]);go_ret;exact a0e
theorem Pk:CE 272 #[.u 0] m (.i 64):=by go_enter func272,ntmps272;exact a00
theorem SI (hx:g<18446744073709551616) (w:S5) (h:pu w): CE 272 #[.u g] w (.i (Lib.ctz 64 g)):=by
 by_cases b:g=0;·subst b;exact Pk w
 ·obtain ⟨c,x⟩:=Lib.lowest_bit 64 g b hx;obtain ⟨f,d⟩:=Lib.deBruijn64_at _ x;have a:=h _ f;rw [d] at a;exact Pj g _ _ w bv (SH g _ hx b c) f x a
theorem Pn:(jz x g).2.1.xs.length<=x.xs.length/\(jz x g).2.1.ys.length<=x.ys.length:=by
 unfold jz;split;all_goals first
  | exact ⟨A5 _,A5 _⟩
  | (refine ⟨?_,A5 _⟩;dsimp only;rw [List.length_drop];omega)
  | exact ⟨A6 _,A6 _⟩
theorem GO (a:x.xs.length<=1048576) (d:x.ys.length<=4096):∀ k:Nat,(fU x t k).1.xs.length<=1048576/\(fU x t k).1.ys.length<=1048576:=by
 intro k;have b:x.ys.length<=1048576:=ab
 match k with
 | 0=>simp only [fU];exact ⟨a,b⟩
 | 1=>simp only [fU];exact ⟨a,b⟩
 | 2=>simp only [fU];exact ⟨a,b⟩
 | 3 =>
   simp only [fU];refine ⟨a,?_⟩;by_cases c:x.ys.length<4096;·rw [JZ8 c,List.length_append,List.length_singleton];omega
   ·rw [JZ9 c];exact b
 | 4=>simp only [fU];exact ⟨a,b⟩
 | 5=>simp only [fU];exact ⟨a,b⟩
 | k+6=>simp only [fU,zeroD];exact ⟨A6 _,A6 _⟩
def sh (b:Int):Nat:=(b%64).toNat
def LD (b:Int):Nat:=(b%32).toNat
theorem Rx:t%64=(sh t:Int):=by unfold sh;omega
theorem SJ:t%32=(LD t:Int):=by unfold LD;omega
theorem EI:sh (t%32)=LD t:=by unfold sh LD;omega
theorem GP:sh t<64:=by unfold sh;omega
theorem SK:LD t<32:=by unfold LD;omega
inductive AF where | sum | slt | sltu | xor | or | and | sl | sr | sra | sub | mul | mulh | mulhsu | high | div | divu | rem | remu
deriving DecidableEq
def EJ (b:Bool):Int:=if b then 1 else 0
def kX (a b:Int):Int:=a*b/18446744073709551616
def gp (a b:Int):Int:=if QA0 a<0 then IntKind.u64.wrap (kX a b-b) else kX a b
def mE (a b:Int):Int:=if QA0 b<0 then IntKind.u64.wrap (gp a b-a) else gp a b
def AF.v:AF->Int->Int->Int
 | .sum,a,b=>IntKind.u64.wrap (a+b)
 | .sub,a,b=>IntKind.u64.wrap (a-b)
 | .xor,a,b=>T6 .xor .u64 a b
 | .or,a,b=>T6 .or .u64 a b
 | .and,a,b=>T6 .and .u64 a b
 | .sl,a,b=>IntKind.u64.wrap (a*2^sh b)
 | .sr,a,b=>a/2^sh b
 | .sra,a,b=>IntKind.u64.wrap (QA0 a/2^sh b)
 | .slt,a,b=>EJ (decide (QA0 a<QA0 b))
 | .sltu,a,b=>EJ (decide (a<b))
 | .mul,a,b=>IntKind.u64.wrap (a*b)
 | .high,a,b=>kX a b
 | .mulhsu,a,b=>gp a b
 | .mulh,a,b=>mE a b
 | .div,a,b=>if b=0 then 18446744073709551615 else IntKind.u64.wrap (QA0 ((QA0 a).tdiv (QA0 b)))
 | .rem,a,b=>if b=0 then a else IntKind.u64.wrap ((QA0 a).tmod (QA0 b))
 | .divu,a,b=>if b=0 then 18446744073709551615 else IntKind.u64.wrap (a.tdiv b)
 | .remu,a,b=>if b=0 then a else a.tmod b
theorem fA (a:0<=b) (c:b<18446744073709551616):QA0 b=0↔b=0:=by unfold QA0;omega
theorem jw (a:0<=b) (c:b<18446744073709551616):QA0 b=-1↔b=18446744073709551615:=by unfold QA0;omega
theorem LE (b:0<=t) (c:t<18446744073709551616):IntKind.u64.wrap (QA0 ((QA0 t).tdiv (-1)))=IntKind.u64.wrap (-t):=by rw [Int.tdiv_neg,Int.tdiv_one,I3,I3];unfold QA0;omega
theorem LF:IntKind.u64.wrap ((QA0 t).tmod (-1))=0:=by rw [Int.tmod_neg,Int.tmod_one];rfl
theorem mr:ay 32 t=if t%4294967296<2147483648 then t%4294967296 else t%4294967296+18446744069414584320:=by
 have e:(2:Int)^(64-32)=4294967296:=bc
 unfold ay;rw [e,I3,I3];unfold QA0;split<;>omega
theorem kA {y:Int} (h:b%4294967296=y%4294967296):ay 32 b=ay 32 y:=by rw [mr,mr,h]
theorem bo:0<=ay 32 t/\ay 32 t<18446744073709551616:=by rw [mr];split<;>omega
theorem BP: -2147483648<=QA0 (ay 32 t)/\QA0 (ay 32 t)<2147483648:=by rw [mr];unfold QA0;split<;>omega
theorem xD (a: -2147483648<=t) (b:t<2147483648):ay 32 (IntKind.u64.wrap t)=IntKind.u64.wrap t:=by rw [mr,I3];split<;>omega
theorem rY:(t%4294967296*c)%4294967296=t*c%4294967296:=by rw [R7,Int.emod_emod_of_dvd _ (Int.dvd_refl _),<- R7]
theorem jZ:IntKind.u64.wrap t%4294967296=t%4294967296:=by rw [I3];omega
theorem EK (c: -2147483648<=t) (d:t<2147483648) (n:Nat): -2147483648<=t/2^n/\t/2^n<2147483648:=by
 have a:(0:Int)<2^n:=K1 ab;constructor
 ·refine (Int.le_ediv_iff_mul_le a).mpr ?_;have:(1:Int)<=2^n:=by omega
  have b:(2147483648:Int)*1<=2147483648*2^n:=L0 this ab;omega
 ·refine Int.ediv_lt_of_lt_mul a ?_;have:(1:Int)<=2^n:=by omega
  have b:(2147483648:Int)*1<=2147483648*2^n:=L0 this ab;omega
inductive SD where | low | sgn | five
deriving DecidableEq
def SD.v:SD->Int->Int
 | .low,x=>x%4294967296
 | .sgn,x=>ay 32 x
 | .five,x=>x%32
theorem SD.bd (s:SD) (x:Int) (a:0<=x):0<=s.v x/\s.v x<18446744073709551616:=by
 cases s;·simp only [SD.v];omega
 ·exact bo x
 ·simp only [SD.v];omega
inductive AO where | d (f:AF) | w (f:AF) (l r:SD)
deriving DecidableEq
def Ub:List AO:=[
 .d .sum,.d .slt,.d .sltu,.d .xor,.d .or,.d .and,.d .sl,.d .sr,.d .sra,
 .w .sum .low .low,.w .sl .low .five,.w .sr .low .five,.w .sra .sgn .five,
 .d .sum,.d .sub,.d .sl,.d .slt,.d .sltu,.d .xor,.d .sr,.d .sra,.d .or,.d .and,
 .w .sum .low .low,.w .sub .low .low,.w .sl .low .five,.w .sr .low .five,.w .sra .sgn .five,
 .d .mul,.d .mulh,.d .mulhsu,.d .high,.d .div,.d .divu,.d .rem,.d .remu,
 .w .mul .low .low,.w .div .sgn .sgn,.w .divu .low .low,.w .rem .sgn .sgn,.w .remu .low .low]
def oG (k:Nat):AO:=Ub.getD k (.d .sum)
def AO.v:AO->Int->Int->Int
 | .d f,a,b=>f.v a b
 | .w f l r,a,b=>ay 32 (f.v (l.v a) (r.v b))
def zL (op:Int):Bool:=decide (22<=op/\op<=62)
def nD (op a b:Int):Int:=if zL op then (oG (op-22).toNat).v a b else 0
/- The Ops of 32 bits,as the model reckons them. -/
theorem Um:ay 32 (IntKind.u64.wrap (t+c))=(AO.w .sum .low .low).v t c:=by refine kA ?_;simp only [AF.v,SD.v,jZ];omega
theorem Un:ay 32 (IntKind.u64.wrap (t-c))=(AO.w .sub .low .low).v t c:=by refine kA ?_;simp only [AF.v,SD.v,jZ];omega
theorem Uo:ay 32 (IntKind.u64.wrap (t*c))=(AO.w .mul .low .low).v t c:=by refine kA ?_;simp only [AF.v,SD.v,jZ];rw [rY,O1 t (c%_),rY,O1]
theorem VB:ay 32 (IntKind.u64.wrap (t*2^LD c))=(AO.w .sl .low .five).v t c:=by refine kA ?_;simp only [AF.v,SD.v,jZ,EI];rw [rY]
theorem VC:ay 32 (t%4294967296/2^LD c)=(AO.w .sr .low .five).v t c:=by simp only [AO.v,AF.v,SD.v,EI]
theorem Up:IntKind.u64.wrap (QA0 (ay 32 t)/2^LD c)=(AO.w .sra .sgn .five).v t c:=by simp only [AO.v,AF.v,SD.v,EI];have h:=BP t;have b:=EK _ h.1 h.2 (LD c);exact (xD _ b.1 b.2).symm
theorem lK (b:0<=t) (c:t<18446744073709551616):T6 .and .u64 t 4294967295=t%4294967296:=cE t 32 b c ab
theorem tw (a:0<=b) (x:b<18446744073709551616):IntKind.u64.wrap b=b:=by rw [I3];omega
theorem vB (h:0<=t) (a1:t<18446744073709551616) (i:0<=c) (m:c<18446744073709551616): ∃ d f b e a u v:Int, IntKind.u64.wrap (t%4294967296*(c%4294967296))=d/\IntKind.u64.wrap (t%4294967296*(c/4294967296))=f /\ IntKind.u64.wrap (t/4294967296*(c%4294967296))=b/\IntKind.u64.wrap (t/4294967296*(c/4294967296))=e /\ IntKind.u64.wrap (b+d/4294967296)=a/\T6 .and .u64 a 4294967295=a%4294967296/\IntKind.u64.wrap (a%4294967296+f)=u /\ IntKind.u64.wrap (e+a/4294967296)=v/\IntKind.u64.wrap (v+u/4294967296)=kX t c:=by
 obtain ⟨A,rfl⟩:=I5 h
 obtain ⟨B,rfl⟩:=I5 i
 have k:A<18446744073709551616:=ab
 have l:B<18446744073709551616:=ab
 obtain ⟨q,bt,r,g⟩:=Lib.mul64_hi A B k l
 have n:=QB9 (a:=A/4294967296) (b:=B/4294967296) ab ab
 have o:=QB9 (a:=A/4294967296) (b:=B%4294967296) ab ab
 have p:=QB9 (a:=A%4294967296) (b:=B/4294967296) ab ab
 have j:((A:Int)%4294967296*((B:Int)%4294967296))=((A%4294967296*(B%4294967296):Nat):Int):=di
 have e2:((A:Int)%4294967296*((B:Int)/4294967296))=((A%4294967296*(B/4294967296):Nat):Int):=di
 have e3:((A:Int)/4294967296*((B:Int)%4294967296))=((A/4294967296*(B%4294967296):Nat):Int):=di
 have e4:((A:Int)/4294967296*((B:Int)/4294967296))=((A/4294967296*(B/4294967296):Nat):Int):=di
 have e5:kX A B=((A*B/18446744073709551616:Nat):Int):=by simp [kX]
 rw [j,e2,e3,e4,e5,<- g]
 generalize A%4294967296*(B%4294967296)=d at *
 generalize A%4294967296*(B/4294967296)=f at *
 generalize A/4294967296*(B%4294967296)=b at *
 generalize A/4294967296*(B/4294967296)=e at *
 refine ⟨(d:Int),(f:Int),(b:Int),(e:Int),(b:Int)+(d:Int)/4294967296,((b:Int)+(d:Int)/4294967296)%4294967296+(f:Int),(e:Int)+((b:Int)+(d:Int)/4294967296)/4294967296,
  tw ab ab,tw ab ab,tw ab ab,tw ab ab,tw ab ab,lK _ ab ab,tw ab ab,tw ab ab,?_⟩
 rw [tw ab ab]
 simp
