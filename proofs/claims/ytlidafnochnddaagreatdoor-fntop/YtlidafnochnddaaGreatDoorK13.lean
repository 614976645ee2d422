/- Own lemmas. -/
import Derived.Test.YtlidafnochnddaaGreatDoorAut
import Derived.Test.YtlidafnochnddaaGreatDoorK02
import Derived.Deep.Cut
import Derived.Lib.TrailingZeros
import Derived.Lib.Mul64
set_option maxRecDepth 100000
set_option maxHeartbeats 6400000
namespace Go.Proofs.YtlidafnochnddaaGreatDoor
open Go.RowKit Tryz Go.Conc
open IntKind renaming u64->Uz
open Act renaming put->N1
open Below renaming refl->K0,heap_alloc->K1
open Go renaming World->P2,Calls->R4,Addr->R5,bodyPost_ret->S1,bits->S2,heap_alloc_new->S5,Value->T0,results_tmp2->T2
open Go.RowKit renaming wrap64->L7
open Int renaming eq_ofNat_of_zero_le->I4,tmod_eq_emod_of_nonneg->I5
open IntKind renaming wrap_u64->K4,signed->L4,bits->L5,u64->L6
open Lib renaming half_mul_le->T3
open List renaming getElem?_eq_getElem->F0,replicate->F3,map_append->G3,drop_eq_getElem_cons->H1,take_length->H2,getElem_mem->H3,getD->H5,drop_length->H8
open Nat renaming le_refl->A0,zero_le->A5
open Value renaming int->A6
open World renaming size_alloc->M5,ownsRow->M7
set_option linter.unusedVariables false
variable {w:Nat} {c a n:P2} {o:Obj} {k:Option Nat} {b:List T0} (d:List Int) (f:Option R5) (J K R:Nat) (e:List Int) (g:P2)
theorem kS.refl:kS J g g:=⟨rfl,λ_ _=>rfl,λ_ _ _ h=>h⟩
theorem kS.trans (h:kS w c a) (k:kS w a n):kS w c n:=⟨k.size.trans h.size,λj d=>(k.else_ j d).trans (h.else_ j d),λB w1 b e=>k.below B w1 b (h.below B w1 b e)⟩
theorem oJ.push {wr:P2} (h:oJ w (w+1) c wr) (w3:w<c.heap.size) (f:kS w wr a) (w1:(a.alloc o).grownBy n k) (i:∀ row,k=some row->c.heap.size<=row):oJ w (w+1) c n:=by have b:=f.below w wr (A0 _) (K0 _ _);have j:=w1.size;have l:=f.size;have m:=h.size;rw [M5] at j;refine ⟨w1.os.trans (b.os.trans h.os),w1.tape.trans (b.tape.trans h.tape),w1.output.trans (b.output.trans h.output),aa,λrow g d=>?_⟩;rw [w1.block row (by rw [M5];omega) (λe=>by have:=i row e.symm;omega),K1 a o row aa,f.else_ row aa,h.block row g d]
theorem GH {cap:Nat} {cl:Bool} (h:cn c w cap b cl) (w3:(c.alloc o).grownBy a k) (d:∀ row,k=some row->w<row):cn a w cap b cl :=
 pD h ((w3.block w (by rw [M5];have:=h.lt;omega) (λe=>by have:=d w e.symm;omega)).trans (K1 c o w h.lt))
theorem xj (h:J<d.length):(d.take J).map (A6 .u8)++[.int .u8 (d.getD J 0)]=(d.take (J+1)).map (A6 .u8):=by
 have a:d.take (J+1)=d.take J++[d.getD J 0]:=by rw [List.take_succ_eq_append_getElem h];simp [H5,F0 h]
 rw [a,G3];rfl
theorem GI (h:J<d.length):(d.drop J).map (A6 .u8)=.int .u8 (d.getD J 0)::(d.drop (J+1)).map (A6 .u8):=by rw [H1 h,List.map_cons];simp [H5,F0 h]
theorem rX (a:Option R5) (n c:Nat) (zs:List Int) (f w:P2) (hz:zs.length=n) (hn:n<=1048576) (d:n<=K) (q:Sl .u8 f a zs) (m:Bw f w) (o:f.heap.size<=J) (B:cn w J K [] false): R4 prog 144 #[.chan (some J),.slice a n c] w λe C=>e=.returned (.tuple #[])/\cn C J K (zs.map (A6 .u8)) false/\kS J w C:=by
 have A:Hid (Bw f w/\f.heap.size<=J):=⟨m,o⟩;have H:Hid (Sl .u8 f a zs):=q;have D:Hid (cn w J K [] false):=B;have r:Hid (zs.length=n):=hz;have G:Hid (n<=K):=d;clear m o q B hz d;go_enter func144,ntmps144;go_wp2_with fail;go_loopw [8] (λi wr=>∃ k:Nat,k<=n/\i=.i k/\Hid (cn wr J K ((zs.take k).map (A6 .u8)) false)/\Hid (kS J w wr))
  (λi _=>n-(intOf i).toNat)
 case atStart=>exact ⟨0,A5 _,rfl,D.out,kS.refl _ _⟩
 case round =>
  obtain ⟨k,M,rfl,g,j⟩:=hrel;by_cases bZ:k<n
  ·obtain ⟨b,y,rfl,I,p⟩:=H.out k (by rw [r.out];exact bZ);have cap:wr.cell? ⟨b,y+k,none⟩=some (.int .u8 (zs.getD k 0)):=((j.out.below _ _ A.out.2 A.out.1).cell (by exact I)).trans p;clear p;have E:Hid ((zs.take k).map (A6 .u8)++[.int .u8 (zs.getD k 0)]=(zs.take (k+1)).map (A6 .u8)):=(by exact xj zs k (by have:=r.out;omega));have F:((zs.take k).map (A6 .u8)).length<K:=(by have:=r.out;have:=G.out;simp;omega);go_upto_region 3 with fail
   refine fD ?_;intro L l;unfold mo;refine jf rfl rfl ?_;simp [go_sem,N1];refine jf rfl rfl ?_;simp [go_sem,N1];refine tH (c:=J) (v:=.int .u8 (zs.getD k 0)) (z:=.tuple #[]) rfl rfl (by simp [go_sem,scase]) g.out F ?_;intro N s u;simp only [N1];refine lJ (l.out _ _ _ ?_);clear l;go_wp2_with fail;go_roundw;case rel=>exact ⟨k+1,aa,by go_num,by rw [<- E.out];exact s,j.out.trans u⟩
   case measure=>simp [intOf];omega
  ·have t:k=n:=aa;subst t;rw [<- r.out,H2] at g;go_wp2_with fail;refine bodyPost_end (results_none rfl _ _ _) rfl ?_;exact ⟨rfl,g.out,j.out⟩
theorem kg (hn:e.length<=1048576) (L:cn g J K (e.map (A6 .u8)) true): R4 prog 145 #[.chan (some J)] g λzs M=>∃ (w:Option R5) (j:Nat),zs=.returned (.slice w e.length j)/\M.ownsRow g.heap.size 5 1 (.slice w e.length j) e.length (e.map (A6 .u8))/\oJ J (J+1) g M:=by
 have cap:Hid (cn g J K (e.map (A6 .u8)) true):=L
 have N:Hid (e.length<=1048576):=hn
 clear L hn
 go_enter func145,ntmps145
 go_wp2_with fail
 go_loopw [3] (λy wr=>∃ (k:Nat) (w:Option R5) (j:Nat),k<=e.length/\y=.slice w k j/\Hid (wr.ownsRow g.heap.size 5 1 (.slice w k j) k ((e.take k).map (A6 .u8)))/\Hid (cn wr J K ((e.drop k).map (A6 .u8)) true)/\Hid (oJ J (J+1) g wr))
  (λ_ wr=>xL wr J)
 case atStart=>exact ⟨0,none,0,A5 _,rfl,⟨rfl,.inl ⟨rfl,rfl⟩⟩,cap.out,oJ.refl _ _ _⟩
 case round =>
  obtain ⟨k,w,j,V,rfl,p,m,u⟩:=hrel
  by_cases bZ:k<e.length
  ·have P:=ah (xj e k bZ)
   have d:cn wr J K (.int .u8 (e.getD k 0)::(e.drop (k+1)).map (A6 .u8)) true:=by rw [<- GI e k bZ];exact m.out
   have l:=ah d
   clear d m
   have s:=ah (cap.out.lt)
   generalize e.getD k 0=b at *
   refine wp_seq (fD ?_)
   intro R f
   unfold mo
   refine tI (c:=J) (z:=.int .u8 0) true rfl rfl (by simp [go_sem,rcase]) l.out ?_
   intro F C o
   simp only [got,if_true]
   refine jf rfl rfl ?_
   simp [go_sem,N1]
   refine lJ (f.out _ _ _ ?_)
   clear f
   simp only [Exit.then]
   have O:Hid ((F.alloc (.cells #[.int .u8 b] 5)).ownsRow g.heap.size 5 1 (.slice w k j) k ((e.take k).map (A6 .u8))):=aZ (dp p.out (λq zs=>o.else_ q (by have:=(p.out.lt q zs).1;have:=s.out;omega))) (bal _ _)
   have A:=ah (Im F b)
   have S:=ah (show g.heap.size<=F.heap.size by rw [o.size];exact u.out.size)
   have G:=ah C
   have H:=ah o
   clear C o
   go_wp2_with (first
    | (at_builtin;refine xW rfl (.tmp 9) (.tmp 11) rfl g.heap.size k (.slice w k j) (e.take k) rfl O.out (by have:=N.out;omega) ⟨F.heap.size,0,none⟩ 1 b rfl A.out (by have:=S.out;simp only [M5];omega) ?_;intro T U W E B I;have Q:=ah E;have c:=ah B;clear E B I))
   have r:∀ q,(Value.slice w k j).ownBlock=some q->g.heap.size<=q:=λq zs=>(p.out.lt q zs).1
   have D:=GH G.out c.out (λq zs=>Nat.lt_of_lt_of_le s.out (r q zs))
   go_roundw
   case rel=>exact ⟨k+1,T,U,aa,rfl,(by rw [<- P.out];have h:=Q.out;rw [G3] at h;exact h),D,u.out.push s.out H.out c.out r⟩
   case measure=>rw [D.len,l.out.len];simp
  ·have t:e.length=k:=by omega
   have d:cn wr J K [] true:=by
    have h:=m.out
    rw [<- t,H8] at h
    exact h
   have l:=ah d
   clear d m
   refine wp_seq (fD ?_)
   intro R f
   unfold mo
   refine tJ (c:=J) (z:=.int .u8 0) true rfl rfl (by simp [go_sem,rcase]) l.out ?_
   simp only [got,if_true]
   refine jf rfl rfl ?_
   simp [go_sem,N1]
   refine lJ (f.out _ _ _ ?_)
   clear f
   simp only [Exit.then]
   go_wp2_with fail
   go_ret
   refine ⟨w,j,(by rw [t];rfl),?_,u.out⟩
   have h:=p.out
   rw [<- t,H2] at h
   exact h
theorem JH (hm:J<=1048576) (w:P2):(Instr.makeChan 234 (.i J)).run prog w=.ok (.chan (some w.heap.size)) (w.alloc (.chan J #[] false 0 0 false)):=by obtain ⟨f,c,d,e,b⟩:=info_parts info5;exact run_makeChan underlying234 c .i64 J aa (by rw [b];omega)
def dW (zs:List Int) (b:Int) (a:Nat):List Int:=if zs.length<a then zs++[b] else zs
theorem qq {w3:P2} {v:T0} {w1:Nat} (f:w1=c.heap.size) (w2:kS w1 (c.alloc o) a) (xs:kS w1 a n) (d:oJ w1 (w1+1) n w3) (g:w3.ownsRow n.heap.size 5 1 v w b):w3.ownsRow c.heap.size 5 1 v w b/\Bw c w3:=by subst f;have h:=w2.size;have i:=xs.size;have j:=d.size;rw [M5] at h;have e:=xs.below _ _ (A0 _) (w2.below _ _ (A0 _) ((K0 c.heap.size c).alloc (A0 _) o));exact ⟨cS g aa,e.trans (d.below (A0 _) aa)⟩
theorem nS (b:Int) (w:P2) (hz:e.length=J) (hm:R<=4096) (hn:J<=R) (r:Sl .u8 w f e): R4 prog 141 #[.slice f J K,.int .u8 b,.i R] w λzs F=>∃ (t:Option R5) (u:Nat),zs=.returned (.slice t (dW e b R).length u)/\F.ownsRow w.heap.size 5 1 (.slice t (dW e b R).length u) (dW e b R).length ((dW e b R).map (A6 .u8))/\Bw w F:=by
 have Q:Hid (∀ p,Bw w p->cn p w.heap.size R [] false->R4 prog 144 #[.chan (some w.heap.size),.slice f J K] p λzs F=>zs=.returned (.tuple #[])/\cn F w.heap.size R (e.map (A6 .u8)) false/\kS w.heap.size p F):=λp W X=>rX _ _ _ _ _ e w p hz aa hn r W (A0 _) X;have Y:=JH R aa;have N:Hid (∀ o,Bw w (w.alloc o)):=λo=>(K0 _ _).alloc (A0 _) o;have O:Hid (∀ m,cn (w.alloc (.chan m #[] false 0 0 false)) w.heap.size m [] false):=λm=>⟨0,0,S5 _ _⟩;by_cases G:J<R
 ·have s:Hid (dW e b R=e++[b]):=(by show _=_;unfold dW;rw [hz,JZ8 G]);have I:Hid ((dW e b R).length<=1048576):=(by show _<=_;rw [s.out];simp;omega);have S:Hid ((e.map (A6 .u8)).length<R):=(by show _<_;simp;omega);have T:Hid (e.map (A6 .u8)++[.int .u8 b]=(dW e b R).map (A6 .u8)):=(by show _=_;rw [s.out,G3];rfl);clear s;generalize dW e b R=V at *;have U:decide (J<R):=bb;clear G r hz hn hm;go_enter func141,ntmps141;go_wp2_with fail;refine (Q.out _ (N.out _) (O.out _)).mono ?_;rintro zs p ⟨rfl,g,j⟩;have H:=ah g;have n:=ah j;clear g j;go_upto_region 4 with fail
  refine fD ?_;intro QC A;unfold mo;refine jf rfl rfl ?_;simp [go_sem,N1];refine jf rfl rfl ?_;simp [go_sem,N1];refine tH (c:=w.heap.size) (v:=.int .u8 b) (z:=.tuple #[]) rfl rfl (by simp [go_sem,scase]) H.out S.out ?_;intro w2 B D;simp only [N1];refine lJ (A.out _ _ _ ?_);clear A;obtain ⟨M,L,a,l⟩:=xN (P:=prog) B;rw [T.out] at a;have q:=ah (n.out.trans (D.trans l));have d:=ah (kg w.heap.size R V M I.out a);clear B D a l;try simp only [Exit.then]
  go_wp2_with fail;refine (d.out).mono ?_;rintro zs Z ⟨t,u,rfl,E,C⟩;have y:=ah (qq rfl q.out (kS.refl _ _) C E);clear E C;go_wp2_with fail;go_ret;exact ⟨t,u,rfl,y.out.1,y.out.2⟩
 ·have s:Hid (dW e b R=e):=(by show _=_;unfold dW;rw [hz,JZ9 G]);have I:Hid (e.length<=1048576):=(by show _<=_;omega);generalize dW e b R=V at *;have U:decide (J<R)=false:=bb;have HZ:Hid (e.length=J):=hz;clear G r hz hn hm;go_enter func141,ntmps141;go_wp2_with fail;refine (Q.out _ (N.out _) (O.out _)).mono ?_;rintro zs p ⟨rfl,g,j⟩;obtain ⟨M,L,a,l⟩:=xN (P:=prog) g;have q:=ah (j.trans l);have d:=ah (kg w.heap.size R e M I.out a);clear g j a l;go_wp2_with fail;refine (d.out).mono ?_;rintro zs Z ⟨t,u,rfl,E,C⟩;have y:=ah (qq rfl q.out (kS.refl _ _) C E);clear E C;go_wp2_with fail;go_ret;exact ⟨t,u,(by rw [s.out];rfl),(by rw [s.out];exact y.out.1),y.out.2⟩
theorem rf (hz:e.length=J) (hn:J<=4096) (B:Sl .u8 g f e): R4 prog 275 #[.slice f J K] g λzs D=>∃ (r:Option R5) (s:Nat),zs=.returned (.tuple #[.int .u8 (e.getD 0 0),.slice r (e.drop 1).length s])/\D.ownsRow g.heap.size 5 1 (.slice r (e.drop 1).length s) (e.drop 1).length ((e.drop 1).map (A6 .u8))/\Bw g D:=by
 have n:Hid (∀ p,Bw g p->cn p g.heap.size J [] false->R4 prog 144 #[.chan (some g.heap.size),.slice f J K] p λzs D=>zs=.returned (.tuple #[])/\cn D g.heap.size J (e.map (A6 .u8)) false/\kS g.heap.size p D):=λp O Q=>rX _ _ _ _ _ e g p hz aa (A0 _) B O (A0 _) Q;have R:=JH J aa;have H:Hid (∀ o,Bw g (g.alloc o)):=λo=>(K0 _ _).alloc (A0 _) o;have I:Hid (∀ m,cn (g.alloc (.chan m #[] false 0 0 false)) g.heap.size m [] false):=λm=>⟨0,0,S5 _ _⟩;have M:Hid ((e.drop 1).length<=1048576):=by show _<=_;simp;omega
 clear B;cases e with
 | nil =>
   clear hz hn;go_enter func275,ntmps275;go_wp2_with fail;refine (n.out _ (H.out _) (I.out _)).mono ?_;rintro zs p ⟨rfl,d,w⟩;obtain ⟨L,G,a,j⟩:=xN (P:=prog) d;have q:=ah (w.trans j);have l:=ah a;clear d w a j;go_upto_region 4 with fail
   refine fD ?_;intro N b;unfold mo;refine jf rfl rfl ?_;simp [go_sem,N1];refine tJ (c:=g.heap.size) (z:=.int .u8 0) false rfl rfl (by simp [go_sem,rcase]) l.out ?_;simp [got];refine jf rfl rfl ?_;simp [go_sem,N1];refine lJ (b.out _ _ _ ?_);clear b;have F:=ah (kg g.heap.size J [] L bh l.out);try simp only [Exit.then]
   go_wp2_with fail;refine (F.out).mono ?_;rintro zs T ⟨r,s,rfl,C,y⟩;have t:=ah (qq rfl q.out (kS.refl _ _) y C);clear C y;go_wp2_with fail;refine S1 (T2 rfl _ _ _) rfl ?_;exact ⟨r,s,rfl,t.out.1,t.out.2⟩
 | cons z e =>
   clear hz hn;go_enter func275,ntmps275;go_wp2_with fail;refine (n.out _ (H.out _) (I.out _)).mono ?_;rintro zs p ⟨rfl,d,w⟩;obtain ⟨L,G,a,j⟩:=xN (P:=prog) d;have q:=ah (w.trans j);have l:=ah a;clear d w a j;go_upto_region 4 with fail
   refine fD ?_;intro N b;unfold mo;refine jf rfl rfl ?_;simp [go_sem,N1];refine tI (c:=g.heap.size) (z:=.int .u8 0) false rfl rfl (by simp [go_sem,rcase]) l.out ?_;intro S u A;have E:=ah (q.out.trans A);have F:=ah (kg g.heap.size J e S M.out u);clear u A;simp [got];refine jf rfl rfl ?_;simp [go_sem,N1];refine lJ (b.out _ _ _ ?_);clear b;try simp only [Exit.then]
   go_wp2_with fail;refine (F.out).mono ?_;rintro zs T ⟨r,s,rfl,C,y⟩;have t:=ah (qq rfl E.out (kS.refl _ _) y C);clear C y;go_wp2_with fail;refine S1 (T2 rfl _ _ _) rfl ?_;exact ⟨r,s,rfl,t.out.1,t.out.2⟩
open Go.RowKit Tryz
variable {w:P2} {b:Int} {a:Nat} (x:DV) (c t:Int) (m:Bool) (n:Option R5) (l d:Nat) (f:List Int) (g:Int) (j:Option R5) (k p:Nat) (q:Int) (D:P2)
theorem JI:CE 274 #[.u 33554432,.i 4] D (.bool true):=by go_enter func274,ntmps274;exact oj
theorem JJ:CE 274 #[.u 33570816,.i 8] D (.bool true):=by go_enter func274,ntmps274;exact oj
theorem JK:CE 274 #[.u 33603576,.i 8] D (.bool true):=by go_enter func274,ntmps274;exact oj
theorem JL:CE 274 #[.u 268435456,.i 1] D (.bool true):=by go_enter func274,ntmps274;exact oj
theorem JM:CE 274 #[.u 268435457,.i 1] D (.bool true):=by go_enter func274,ntmps274;exact oj
theorem JN:CE 274 #[.u 268435461,.i 1] D (.bool true):=by go_enter func274,ntmps274;exact oj
theorem xk:R4 prog 73 #[.u c,.i 0,.i 1] D λe b=>e=.returned (.u (S2 .and .u64 c 1))/\b=D.drew:=by
 go_enter func73,ntmps73;go_wp2_with fail;go_region;all_goals go_wp2_with fail
 all_goals go_ret
 all_goals exact ⟨rfl,rfl⟩
theorem AM:CE 268 #[.bool m] D (.u (jW m)):=by
 cases m with
 | false =>go_enter func268,ntmps268;exact oj
 | true =>go_enter func268,ntmps268;exact oj
theorem AN:(binOp .eql 22 (.slice n l d) (.slice none 0 0)).run prog D=.ok (.bool n.isNone) D:=by simp only [binOp];simp [run_equal_slice_nil D 22 5 n l d underlying22]
theorem ik (a:Option R5) (n c:Nat) (zs:List Int) (w:P2) (hz:zs.length=n) (hn:n<=1048576) (f:Sl .u8 w a zs):R4 prog 46 #[.slice a n c] w λe q=>∃ (m:Option R5) (o:Nat),e=.returned (.slice m n o)/\q.ownsRow w.heap.size 5 1 (.slice m n o) n (zs.map (A6 .u8))/\Bw w q:=by
 cases a with
 | none =>
   have A:zs=[]:=by
    cases zs with
    | nil=>rfl
    | cons z zs=>obtain ⟨b,C,e,_⟩:=f 0 bh;cases e
   subst A
   simp only [List.length_nil] at hz
   subst hz
   clear f hn
   have d:=AN none 0 c
   simp only [Option.isNone] at d
   go_enter func46,ntmps46
   go_wp2_with fail
   go_ret
   exact ⟨none,0,rfl,⟨rfl,.inl ⟨rfl,rfl⟩⟩,K0 _ _⟩
 | some p =>
   have B:=Cp w w.heap.size (A0 _) (.cells #[] 5 (0,0)) rfl
   have s:Hid (Sl .u8 (w.alloc (.cells #[] 5 (0,0))) (some p) zs):=f.below (bal _ _)
   have l:Hid (zs.length=n/\n<=1048576):=⟨hz,hn⟩
   clear f hz hn
   have d:=AN (some p) n c
   simp only [Option.isNone] at d
   go_enter func46,ntmps46
   go_wp2_with (first
    | (at_builtin;refine zO rfl (.tmp 5) (.tmp 6) rfl w.heap.size _ rfl B (some p) n c zs rfl l.out.1 l.out.2 s.out bh ?_;intro u y D j g;have r:=ah (QZ g rfl);have t:=ah j;clear j g))
   go_ret
   exact ⟨u,y,rfl,t.out,r.out⟩
theorem kH (J:Nat) (y:Int) (xs ys:List Int) (w:P2) (hx:xs.length=l) (hy:ys.length=k) (F:l<=1048576) (G:k<=1048576) (H:Sl .u8 w n xs) (I:Sl .u8 w j ys): R4 prog 110 #[.agg #[.u c,.u t,.bool m,.slice n l d,.slice j k J,.i y]] w λe cm=>∃ (f:Option R5) (Z:Nat) (o:Option R5) (q:Nat),e=.returned (.agg #[.u c,.u t,.bool m,.slice f l Z,.slice o k q,.i y]) /\ bi w.heap.size cm.heap.size cm (oK f l Z xs o k q ys)/\Bw w cm:=by have L:Hid (∀ cm,Bw w cm->R4 prog 46 #[.slice n l d] cm λe z=>∃ (B:Option R5) (D:Nat),e=.returned (.slice B l D)/\z.ownsRow cm.heap.size 5 1 (.slice B l D) l (xs.map (A6 .u8))/\Bw cm z):=λcm P=>ik _ _ _ xs cm hx F (H.below P);have M:Hid (∀ cm,Bw w cm->R4 prog 46 #[.slice j k J] cm λe z=>∃ (B:Option R5) (D:Nat),e=.returned (.slice B k D)/\z.ownsRow cm.heap.size 5 1 (.slice B k D) k (ys.map (A6 .u8))/\Bw cm z):=λcm P=>ik _ _ _ ys cm hy G (I.below P);have E:∀ Q R,Bw w ((w.alloc Q).alloc R):=λQ R=>((K0 _ _).alloc (A0 _) Q).alloc bh R;clear H I hx hy F G;go_enter func110,ntmps110;go_wp2_with fail;refine (L.out _ (E _ _)).mono ?_;rintro e T ⟨f,Z,rfl,s,r⟩;obtain ⟨K,r1⟩:=tR r;have X:=ah K;have R1:=ah r1;have B1:=ah (ae (E _ _) r);have U:=r.size;simp only [M5] at U s;have Z1:=ah U;have A1:=ah ((bi.nil (w.heap.size+1+1) (w.heap.size+1+1) T).snoc (aI f l Z xs) _ T.heap.size s (A0 _) (A0 _) (A0 _) aa);obtain ⟨p0,p1,p2,p3,p4,p5⟩:=cW K;have f3:=fK K 3;have A:(T.setCell ⟨w.heap.size,3,none⟩ (.slice f l Z)).heap[w.heap.size]?=some (.cells #[.u c,.u t,.bool m,.slice f l Z,.slice j k J,.i y] 34 (0,0)):=bj X.out 3 (.slice f l Z);have S:=(cW A).2.2.2.2.1;have W:=ah (B1.out.setCell (p:=⟨w.heap.size,3,none⟩) (A0 _) (.slice f l Z));clear K r1 r U s A;go_wp2_with fail;refine (M.out _ W.out).mono ?_;rintro e w2 ⟨o,q,rfl,u,b⟩;have V:=b.size;rw [cy] at V u;have Y:Hid (w2.heap[w.heap.size]?=some (.cells #[.u c,.u t,.bool m,.slice f l Z,.slice j k J,.i y] 34 (0,0))):=aA b (bj X.out 3 (.slice f l Z));have N:=ah (aA b (mt R1.out ⟨w.heap.size,3,none⟩ (.slice f l Z) ca));have B2:=ah (ae W.out b);have A2:=ah (((A1.out.set ⟨w.heap.size,3,none⟩ (.slice f l Z) (.inl ca)).below b).snoc (aI o k q ys) _ w2.heap.size u (A0 _) (by have:=Z1.out;omega) (A0 _) V);clear p0 p1 p2 p3 p4 p5 f3 S;obtain ⟨p0,p1,p2,p3,p4,p5⟩:=cW Y.out;have f4:=fK Y.out 4;obtain ⟨s0,s1,s2,s3,s4,s5⟩:=cW N.out;obtain ⟨y0,y1,y2,y3,y4,y5⟩:=wI N.out;clear u b V;go_wp2_with fail;have T1:=mt N.out ⟨w.heap.size,4,none⟩ (.slice o k q) ca;have A3:=(A2.out.set ⟨w.heap.size,4,none⟩ (.slice o k q) (.inl ca)).put6 (w.heap.size+1) (.inl aa) (.u c) (.u t) (.bool m) (.slice f l Z) (.slice o k q) (.i y);have B3:=iT (B2.out.setCell (p:=⟨w.heap.size,4,none⟩) (A0 _) (.slice o k q)) (g:=w.heap.size+1) aa (.u c) (.u t) (.bool m) (.slice f l Z) (.slice o k q) (.i y);exact S1 (results_cell_row results110 _ _ _ _ _ _ _ rfl (lO T1 _ _ _ _ _ _) underlying34 rfl lN) rfl ⟨f,Z,o,q,rfl,A3.low aa (by simp only [cy];exact A0 _),B3⟩
theorem P7: CB 276 #[.agg #[.u c,.u t,.bool m,.slice n l d,.slice j k p,.i q],.u 33554432] D (.u (jW m)):=by have s:∀ o,Bw D (D.alloc o):=λo=>(K0 _ _).alloc (A0 _) o;have f:Hid (∀ D,CE 268 #[.bool m] D (.u (jW m))):=AM m;generalize jW m=v at *;go_enter func276,ntmps276;go_wp2_with fail;refine (f.out _).mono ?_;rintro e u ⟨rfl,cm⟩;subst cm;go_wp2_with fail;go_ret;exact ⟨rfl,s _⟩
theorem P8: CB 276 #[.agg #[.u c,.u t,.bool m,.slice n l d,.slice j k p,.i q],.u 33570816] D (.u t):=by have g:∀ o,Bw D (D.alloc o):=λo=>(K0 _ _).alloc (A0 _) o;go_enter func276,ntmps276;go_wp2_with fail;go_ret;exact ⟨rfl,g _⟩
theorem P9: CB 276 #[.agg #[.u c,.u t,.bool m,.slice n l d,.slice j k p,.i q],.u 33603576] D (.u c):=by have g:∀ o,Bw D (D.alloc o):=λo=>(K0 _ _).alloc (A0 _) o;go_enter func276,ntmps276;go_wp2_with fail;go_ret;exact ⟨rfl,g _⟩
theorem Qa: CB 276 #[.agg #[.u c,.u t,.bool m,.slice n l d,.slice j k p,.i q],.u 268435457] D (.u (Uz.wrap q)):=by have f:∀ o,Bw D (D.alloc o):=λo=>(K0 _ _).alloc (A0 _) o;go_enter func276,ntmps276;go_wp2_with fail;go_ret;exact ⟨rfl,f _⟩
theorem Qb: CB 276 #[.agg #[.u c,.u t,.bool m,.slice n l d,.slice j k p,.i q],.u 268435461] D (.u (Uz.wrap (32+jW (decide (0<l))))):=by
 have b:∀ o,Bw D (D.alloc o):=λo=>(K0 _ _).alloc (A0 _) o;rcases Nat.eq_zero_or_pos l with cm | cm;·subst cm;go_enter func276,ntmps276;go_wp2_with fail;go_ret;exact ⟨rfl,b _⟩
 ·have F:Hid (Uz.wrap (32+jW (decide (0<l)))=33):=(by show _=_;rw [decide_eq_true cm];rfl);generalize Uz.wrap (32+jW (decide (0<l)))=v at *;have s:decide (0<l):=bb;clear cm;go_enter func276,ntmps276;go_wp2_with fail;go_ret;exact ⟨bc,b _⟩
theorem uM {o1 o2:Obj}:Bw w ((w.alloc o1).alloc o2):=((K0 _ _).alloc (A0 _) o1).alloc bh o2
theorem yP {c:Nat} (h:lm a c b):a<=16/\c<=4096/\0<=b/\b<=1:=by unfold lm at h;simp only [Bool.and_eq_true,JZ6] at h;exact ⟨h.1.1,h.1.2,h.2.1,h.2.2⟩
theorem JO (a:0<=c) (b:c<=255):Uz.wrap c=c:=by simp [IntKind.wrap,L4,L5];omega
theorem GJ {n:Nat} {t:TypeId} {v:T0} {xs:List T0} (h:w.ownsRow a t 1 v n xs) (p:R5) (x:T0) (B:p.block<a):(w.setCell p x).ownsRow a t 1 v n xs :=
 dp h (λk e=>Below.heap_setCell w p x k (by have:=(h.lt k e).1;omega))
def lY (w:P2):Prop:=∀ j,j<64->w.cell? ⟨7,j,none⟩=some (.int .u8 (Lib.deBruijn64tab.getD j 0))
theorem lY.lt (h:lY w):7<w.heap.size:=World.block_lt_of_cell? _ _ (h 0 aa)
theorem lY.from {w':P2} (h:lY w) (hb:Below a w w') (hn:7<a):lY w':=λj n=>(hb.cell (p:=⟨7,j,none⟩) hn).trans (h j n)
theorem lY.below {w':P2} (h:lY w) (hb:Bw w w'):lY w':=h.from hb h.lt
theorem Qc (hx:l<18446744073709551616) (a:l≠0) (b:l &&& (18446744073709551616-l)=d): Uz.wrap (S2 BinOp.and L6 (l:Int) (Uz.wrap (-(l:Int)))*285870213051353865)/288230376151711744=((d*285870213051353865%18446744073709551616/288230376151711744:Nat):Int):=by
 have c:Uz.wrap (-(l:Int))=((18446744073709551616-l:Nat):Int):=by rw [K4];omega
 rw [c,bits_and_u64_nat l _ hx aa,b,K4];omega
theorem ML (b:((l:Int)==0)=false) (key:Uz.wrap (S2 BinOp.and L6 (l:Int) (Uz.wrap (-(l:Int)))*285870213051353865)/288230376151711744=(k:Int)) (g:k<64) (hk:d<64) (c:D.cell? ⟨7,k,none⟩=some (.int .u8 d)): CE 127 #[.u l] D (.i d):=by go_enter func127,ntmps127;go_wp2_with (simp only [key]);go_ret;exact ⟨rfl,rfl⟩
theorem MN:CE 127 #[.u 0] D (.i 64):=by go_enter func127,ntmps127;exact nc
theorem Qd (hx:l<18446744073709551616) (w:P2) (h:lY w): CE 127 #[.u l] w (.i (Lib.ctz 64 l)):=by
 by_cases b:l=0;·subst b;exact MN w
 ·obtain ⟨c,g⟩:=Lib.lowest_bit 64 l b hx;obtain ⟨f,d⟩:=Lib.deBruijn64_at _ g;have a:=h _ f;rw [d] at a;exact ML l _ _ w bb (Qc l _ hx b c) f g a
theorem MO:(ml x l).2.1.xs.length<=x.xs.length/\(ml x l).2.1.ys.length<=x.ys.length:=by
 unfold ml;split;all_goals first
  | exact ⟨A0 _,A0 _⟩
  | (refine ⟨?_,A0 _⟩;dsimp only;rw [List.length_drop];omega)
  | exact ⟨A5 _,A5 _⟩
theorem MP (D:Int) (a:x.xs.length<=1048576) (d:x.ys.length<=4096):∀ k:Nat,(fy x D k).1.xs.length<=1048576/\(fy x D k).1.ys.length<=1048576:=by
 intro k;have b:x.ys.length<=1048576:=aa
 match k with
 | 0=>simp only [fy];exact ⟨a,b⟩
 | 1=>simp only [fy];exact ⟨a,b⟩
 | 2=>simp only [fy];exact ⟨a,b⟩
 | 3 =>
   simp only [fy];refine ⟨a,?_⟩;by_cases c:x.ys.length<4096;·rw [JZ8 c,List.length_append,List.length_singleton];omega
   ·rw [JZ9 c];exact b
 | 4=>simp only [fy];exact ⟨a,b⟩
 | 5=>simp only [fy];exact ⟨a,b⟩
 | k+6=>simp only [fy,zeroD];exact ⟨A5 _,A5 _⟩
def sh (b:Int):Nat:=(b%64).toNat
theorem Rq:c%64=(sh c:Int):=by unfold sh;omega
theorem JP:sh c<64:=by unfold sh;omega
inductive AF where | sum | slt | sltu | xor | or | and | sl | sr | sra | sub | mul | mulh | mulhsu | high | div | divu | rem | remu
deriving DecidableEq
def GK (b:Bool):Int:=if b then 1 else 0
def m7 (a b:Int):Int:=a*b/18446744073709551616
def gU (a b:Int):Int:=if L7 a<0 then Uz.wrap (m7 a b-b) else m7 a b
def pk (a b:Int):Int:=if L7 b<0 then Uz.wrap (gU a b-a) else gU a b
def AF.v:AF->Int->Int->Int
 | .sum,a,b=>Uz.wrap (a+b)
 | .sub,a,b=>Uz.wrap (a-b)
 | .xor,a,b=>S2 .xor .u64 a b
 | .or,a,b=>S2 .or .u64 a b
 | .and,a,b=>S2 .and .u64 a b
 | .sl,a,b=>Uz.wrap (a*2^sh b)
 | .sr,a,b=>a/2^sh b
 | .sra,a,b=>Uz.wrap (L7 a/2^sh b)
 | .slt,a,b=>GK (decide (L7 a<L7 b))
 | .sltu,a,b=>GK (decide (a<b))
 | .mul,a,b=>Uz.wrap (a*b)
 | .high,a,b=>m7 a b
 | .mulhsu,a,b=>gU a b
 | .mulh,a,b=>pk a b
 | .div,a,b=>if b=0 then 18446744073709551615 else Uz.wrap (L7 ((L7 a).tdiv (L7 b)))
 | .rem,a,b=>if b=0 then a else Uz.wrap ((L7 a).tmod (L7 b))
 | .divu,a,b=>if b=0 then 18446744073709551615 else Uz.wrap (a.tdiv b)
 | .remu,a,b=>if b=0 then a else a.tmod b
theorem rY (a:0<=b) (c:b<18446744073709551616):L7 b=0↔b=0:=by unfold L7;omega
theorem MQ:aX 32 c=if c%4294967296<2147483648 then c%4294967296 else c%4294967296+18446744069414584320:=by
 have e:(2:Int)^(64-32)=4294967296:=ba
 unfold aX;rw [e,K4,K4];unfold L7;split<;>omega
theorem eQ:0<=aX 32 c/\aX 32 c<18446744073709551616:=by rw [MQ];split<;>omega
inductive SD where | low | sgn | five
deriving DecidableEq
def SD.v:SD->Int->Int
 | .low,x=>x%4294967296
 | .sgn,x=>aX 32 x
 | .five,x=>x%32
theorem SD.bd (s:SD) (x:Int) (a:0<=x):0<=s.v x/\s.v x<18446744073709551616:=by
 cases s;·simp only [SD.v];omega
 ·exact eQ x
 ·simp only [SD.v];omega
inductive AO where | d (f:AF) | w (f:AF) (l r:SD)
deriving DecidableEq
def QX:List AO:=[
 .d .sum,.d .slt,.d .sltu,.d .xor,.d .or,.d .and,.d .sl,.d .sr,.d .sra,
 .w .sum .low .low,.w .sl .low .five,.w .sr .low .five,.w .sra .sgn .five,
 .d .sum,.d .sub,.d .sl,.d .slt,.d .sltu,.d .xor,.d .sr,.d .sra,.d .or,.d .and,
 .w .sum .low .low,.w .sub .low .low,.w .sl .low .five,.w .sr .low .five,.w .sra .sgn .five,
 .d .mul,.d .mulh,.d .mulhsu,.d .high,.d .div,.d .divu,.d .rem,.d .remu,
 .w .mul .low .low,.w .div .sgn .sgn,.w .divu .low .low,.w .rem .sgn .sgn,.w .remu .low .low]
def uN (k:Nat):AO:=QX.getD k (.d .sum)
def AO.v:AO->Int->Int->Int
 | .d f,a,b=>f.v a b
 | .w f l r,a,b=>aX 32 (f.v (l.v a) (r.v b))
def GL (op:Int):Bool:=decide (22<=op/\op<=62)
def rh (op a b:Int):Int:=if GL op then (uN (op-22).toNat).v a b else 0
theorem Dh (b:0<=c) (a:c<18446744073709551616):S2 .and .u64 c 4294967295=c%4294967296:=gR c 32 b a aa
theorem rZ (a:0<=b) (x:b<18446744073709551616):Uz.wrap b=b:=by rw [K4];omega
theorem Di (h:0<=c) (q:c<18446744073709551616) (i:0<=t) (r:t<18446744073709551616): ∃ d f a e b u v:Int, Uz.wrap (c%4294967296*(t%4294967296))=d/\Uz.wrap (c%4294967296*(t/4294967296))=f /\ Uz.wrap (c/4294967296*(t%4294967296))=a/\Uz.wrap (c/4294967296*(t/4294967296))=e /\ Uz.wrap (a+d/4294967296)=b/\S2 .and .u64 b 4294967295=b%4294967296/\Uz.wrap (b%4294967296+f)=u /\ Uz.wrap (e+b/4294967296)=v/\Uz.wrap (v+u/4294967296)=m7 c t:=by
 obtain ⟨A,rfl⟩:=I4 h
 obtain ⟨B,rfl⟩:=I4 i
 have o:A<18446744073709551616:=aa
 have p:B<18446744073709551616:=aa
 obtain ⟨y,bt,z,g⟩:=Lib.mul64_hi A B o p
 have s:=T3 (a:=A/4294967296) (b:=B/4294967296) aa aa
 have w:=T3 (a:=A/4294967296) (b:=B%4294967296) aa aa
 have x:=T3 (a:=A%4294967296) (b:=B/4294967296) aa aa
 have j:((A:Int)%4294967296*((B:Int)%4294967296))=((A%4294967296*(B%4294967296):Nat):Int):=bh
 have k:((A:Int)%4294967296*((B:Int)/4294967296))=((A%4294967296*(B/4294967296):Nat):Int):=bh
 have l:((A:Int)/4294967296*((B:Int)%4294967296))=((A/4294967296*(B%4294967296):Nat):Int):=bh
 have m:((A:Int)/4294967296*((B:Int)/4294967296))=((A/4294967296*(B/4294967296):Nat):Int):=bh
 have n:m7 A B=((A*B/18446744073709551616:Nat):Int):=by simp [m7]
 rw [j,k,l,m,n,<- g]
 generalize A%4294967296*(B%4294967296)=d at *
 generalize A%4294967296*(B/4294967296)=f at *
 generalize A/4294967296*(B%4294967296)=a at *
 generalize A/4294967296*(B/4294967296)=e at *
 refine ⟨(d:Int),(f:Int),(a:Int),(e:Int),(a:Int)+(d:Int)/4294967296,((a:Int)+(d:Int)/4294967296)%4294967296+(f:Int),(e:Int)+((a:Int)+(d:Int)/4294967296)/4294967296,
  rZ aa aa,rZ aa aa,rZ aa aa,rZ aa aa,rZ aa aa,Dh _ aa aa,rZ aa aa,rZ aa aa,?_⟩
 rw [rZ aa aa]
 simp
inductive MF where | second | sum | xor | and | or | smin | smax | umin | umax
deriving DecidableEq
def MF.v:MF->Int->Int->Int
 | .second,a,b=>b
 | .sum,a,b=>Uz.wrap (a+b)
 | .xor,a,b=>S2 .xor .u64 a b
 | .and,a,b=>S2 .and .u64 a b
 | .or,a,b=>S2 .or .u64 a b
 | .smin,a,b=>if L7 b<L7 a then b else a
 | .smax,a,b=>if L7 a<L7 b then b else a
 | .umin,a,b=>if b<a then b else a
 | .umax,a,b=>if a<b then b else a
def Tc:List MF:=[.second,.sum,.xor,.and,.or,.smin,.smax,.umin,.umax]
def sM (k:Nat):MF:=Tc.getD k .second
def yQ (op:Int):Bool:=decide (65<=op/\op<=73)||decide (76<=op/\op<=84)
def mL (op a b:Int):Int :=
 if 76<=op/\op<=84 then (sM (op-76).toNat).v a b
 else if 65<=op/\op<=73 then (sM (op-65).toNat).v (aX 32 a) (aX 32 b)%4294967296 else 0
theorem jB (a:0<=b) (c:b<18446744073709551616):Uz.wrap (L7 b)=b:=by rw [K4];unfold L7;omega
theorem JQ (hk:a<9) (k b:Int):mL ((a:Int)+76) k b=(sM a).v k b:=by
 have e:((a:Int)+76-76).toNat=a:=aa
 simp only [mL,e];rw [JZ8 aa]
theorem MR (hk:a<9) (k b:Int):mL ((a:Int)+65) k b=(sM a).v (aX 32 k) (aX 32 b)%4294967296:=by
 have e:((a:Int)+65-65).toNat=a:=aa
 simp only [mL,e];rw [JZ9 aa,JZ8 aa]
theorem MF.pos (f:MF) {a b:Int} (d:0<=a) (e:a<18446744073709551616) (c:0<=b) (g:b<18446744073709551616):0<=f.v a b:=by
 cases f with
 | second=>exact c
 | sum=>simp only [MF.v];rw [K4];omega
 | xor =>obtain ⟨n,rfl⟩:=I4 d;obtain ⟨m,rfl⟩:=I4 c;simp only [MF.v];rw [u64_xor_nat n m aa aa];omega
 | and =>obtain ⟨n,rfl⟩:=I4 d;obtain ⟨m,rfl⟩:=I4 c;simp only [MF.v];rw [u64_and_nat n m aa aa];omega
 | or =>obtain ⟨n,rfl⟩:=I4 d;obtain ⟨m,rfl⟩:=I4 c;simp only [MF.v];rw [u64_or_nat n m aa aa];omega
 | smin=>simp only [MF.v];split<;>assumption
 | smax=>simp only [MF.v];split<;>assumption
 | umin=>simp only [MF.v];split<;>assumption
 | umax=>simp only [MF.v];split<;>assumption
theorem JR (h:yQ b=false) (a op:Int):mL b a op=0:=by
 have c:¬ (65<=b/\b<=73)/\¬ (76<=b/\b<=84):=by simpa [yQ] using h
 simp only [mL];rw [JZ9 c.2,JZ9 c.1]
theorem GM (h:yQ b):∃ k:Nat,k<9/\(b=(k:Int)+76\/b=(k:Int)+65):=by
 have a:(65<=b/\b<=73)\/(76<=b/\b<=84):=by simpa [yQ] using h
 rcases a with a|a;·exact ⟨(b-65).toNat,aa,Or.inr aa⟩
 ·exact ⟨(b-76).toNat,aa,Or.inl aa⟩
def i8:List Int->Nat->List Int->Option (List Int)
 | [],_,zs=>some zs
 | x::xs,k,zs=>if 4294967296<=x then none else i8 xs (k+1) (iM zs (4*k) x 4)
def AP (n:Nat) (size:Int):Bool:=decide (4096<=size/\size<=65536/\size%4096=0/\(n:Int)<=size/4)
def iC (a:List Int) (size:Int):Option (List Int):=if AP a.length size then i8 a 0 (F3 size.toNat 0) else none
def MS (a:List Int) (size:Int) (w:P2) (e:Ending) (w':P2):Prop :=
 ∃ v,e=.returned (.tuple #[v,.bool (iC a size).isSome])/\Sq 5 w w' v ((iC a size).getD []).length (((iC a size).getD []).map (A6 .u8))
theorem Dj:∀ (k:Nat) (b a:List Int),i8 f k b=some a->a.length=b.length:=by
 induction f with
 | nil=>intro k b a h;rw [Option.some.inj h]
 | cons x e d =>
   intro k b a h;rw [i8] at h;split at h;·cases h
   ·rw [d _ _ _ h,gQ]
theorem nT {wr:P2} (h:Bw w wr):Sq 5 w wr (.slice none 0 0) 0 []:=⟨⟨rfl,Or.inl ⟨rfl,rfl⟩⟩,h⟩
theorem wg (a:Option R5) (n cap:Nat) (g:List Int) (size:Int) (w:P2) (hz:g.length=n) (hn:n<=1048576) (hs:Sl .u64 w a g) (hw:∀ x ∈ g,0<=x/\x<=18446744073709551615) (I:(Lit.int .i64 size).wf):R4 prog 19 #[.slice a n cap,.i size] w (MS g size w):=by
 obtain ⟨i0,hi,hz0,hz1,hz2⟩:=info_parts info5;have T:Hid (g.length=n):=hz;have HW:Hid (∀ x ∈ g,0<=x/\x<=18446744073709551615):=hw;have HS:Hid (Sl .u64 w a g):=hs;clear hz hw hs;by_cases U:0<=size/\size<=65536
 ·obtain ⟨m,rfl⟩:∃ m:Nat,size=(m:Int):=⟨size.toNat,aa⟩;have Y:i0.bytes*m<=281474976710656:=(by rw [hz2];omega);have Z:m<=maxLen:=ct;have t1:¬ ((m:Int)<0):=aa;have t1':¬ ((65536:Int)<(m:Int)):=aa;have hm1:m<=65536:=aa;go_enter func19,ntmps19;go_wp2_with (at_make;refine wpList_make_full _ rfl (.tmp 16) (.tmp 16) 22 rfl _ 5 i0 (.int .u8 0) 1 underlying22 hi hz0 hz1 .i64 .i64 _ _ m rfl rfl rfl rfl Y Z (A0 _) ?_;intro w2 E C);have L:Hid (w2.ownsRow w.heap.size 5 1 (.slice (some ⟨w.heap.size,0,none⟩) m m) m ((F3 m (0:Int)).map (A6 .u8))):=(by show w2.ownsRow _ _ _ _ _ _;rw [List.map_replicate,<- toList_madeCells_one];simpa [Value.cells] using E);have D:Hid (Bw w w2):=(K0 _ _).grown C (A0 _) l1;clear E C t1 t1' U I;refine (de _ m m _ aa).mono ?_;rintro e w3 ⟨rfl,hw3⟩;have S:=hw3.symm;subst S;cases B:bA m with
  | false =>have o:Hid (iC g (m:Int)=none):=(by show iC g (m:Int)=none;unfold iC AP;unfold bA at B;have y:=of_decide_eq_false B;rw [decide_eq_false (λh=>y ⟨aa,aa,aa⟩)];rfl);clear B;go_wp2_with fail;go_ret2;exact ⟨.slice none 0 0,by rw [o.out];rfl,by rw [o.out];exact nT D.out⟩
  | true =>
    have y:4096<=m/\m<=65536/\m%4096=0:=of_decide_eq_true B;by_cases V:(n:Int)<=(m:Int)/4
    ·have M:Hid (iC g (m:Int)=i8 g 0 (F3 m 0)):=(by show iC g (m:Int)=_;unfold iC AP;rw [T.out,decide_eq_true ⟨aa,aa,aa,V⟩];rfl);have t3:¬ ((m:Int)/4<(n:Int)):=aa;have hn4:4*n<=m:=aa;clear B y V;go_wp2_with fail;go_loopw [31] (λkv wr=>∃ (k:Nat) (f:List Int),kv=.i k/\k<=n/\Hid (wr.ownsRow w.heap.size 5 1 (.slice (some ⟨w.heap.size,0,none⟩) m m) m (f.map (A6 .u8)))/\Hid (Bw w wr)/\Hid (i8 (g.drop k) k f=i8 g 0 (F3 m 0)))
      (λkv _=>n-(intOf kv).toNat)
     case atStart=>exact ⟨0,F3 m 0,rfl,aa,L,D,(rfl:i8 (g.drop 0) 0 (F3 m 0)=i8 g 0 (F3 m 0))⟩
     case round =>
      obtain ⟨k,f,rfl,hk,P,N,O⟩:=hrel;clear L D t3;by_cases bZ:k<n
      ·have A:k<g.length:=(by rw [T.out];exact bZ);obtain ⟨b,off,rfl,Q,u⟩:=HS.out k A;have G:=(N.out.cell (p:=⟨b,off+k,none⟩) Q).trans u;obtain ⟨x,hx⟩:∃ x,x=g.getD k 0:=⟨_,rfl⟩;rw [<- hx] at G;have K:g[k]=x:=(by rw [hx];simp [H5,F0 A]);have hxb:=HW.out x (by rw [<- K];exact H3 A);have j:=O.out;rw [H1 A,K,i8] at j;clear u Q hx K;by_cases s:4294967296<=x;·rw [JZ8 s] at j;have o:Hid (iC g (m:Int)=none):=M.out.trans j.symm;have t:(4294967295<x):=aa;clear O j A s;go_wp2_with fail;go_ret2;exact ⟨.slice none 0 0,by rw [o.out];rfl,by rw [o.out];exact nT N.out⟩
       ·rw [JZ9 s] at j;have W:Hid (i8 (g.drop (k+1)) (k+1) (iM f (4*k) x 4)=i8 g 0 (F3 m 0)):=j;have t:¬ (4294967295<x):=aa;have z:Hid (f.length=m):=(by have:=P.out.1;show f.length=m;simpa using this);clear O j A s;go_wp2_with fail;go_loopw [38] (λX wx=>∃ (b:Nat),X=.i b/\b<=4/\Hid (wx.ownsRow w.heap.size 5 1 (.slice (some ⟨w.heap.size,0,none⟩) m m) m ((iM f (4*k) x b).map (A6 .u8)))/\Hid (Bw w wx))
         (λX _=>4-(intOf X).toNat)
        case atStart=>exact ⟨0,rfl,aa,P,N⟩
        case round =>
         obtain ⟨b,rfl,hb,c,l⟩:=hrel;clear P N;by_cases hb4:b<4
         ·have hb5:b=0\/b=1\/b=2\/b=3:=aa;clear hb hb4;rcases hb5 with rfl|rfl|rfl|rfl
          ·have H:wr.frozen? ⟨w.heap.size,4*k,none⟩=false:=c.out.frozenAt (4*k);have d:=c.out.stored (4*k) (.int .u8 (x%256));obtain ⟨v3,J⟩:∃ v,wr.cell? ⟨w.heap.size,4*k,none⟩=some v:=(by rw [c.out.cellAt (4*k) aa];exact ⟨_,F0 ia⟩);rw [iR] at d;have r:Hid ((wr.setCell ⟨w.heap.size,4*k,none⟩ (.int .u8 (x%256))).ownsRow w.heap.size 5 1 (.slice (some ⟨w.heap.size,0,none⟩) m m) m ((iM f (4*k) x (0+1)).map (A6 .u8))):=(by have F:iM f (4*k) x (0+1)=(iM f (4*k) x 0).set (4*k) (x%256):=(by show (iM f (4*k) x 0).set (4*k+0) (x/256^0%256)=_;rw [(by rw [Int.pow_zero,Int.ediv_one]:x/256^0%256=x%256)];rfl);show M7 _ _ _ _ _ _ _;rw [F];exact d.1);have q:Hid (Bw w (wr.setCell ⟨w.heap.size,4*k,none⟩ (.int .u8 (x%256)))):=l.out.setCell (A0 _) _;clear d c l;go_wp2_with fail;go_roundw;case rel=>exact ⟨0+1,by go_num,aa,r,q⟩
           case measure=>simp [intOf]
          ·have H:wr.frozen? ⟨w.heap.size,4*k+1,none⟩=false:=c.out.frozenAt (4*k+1);have d:=c.out.stored (4*k+1) (.int .u8 (x/256%256));obtain ⟨v3,J⟩:∃ v,wr.cell? ⟨w.heap.size,4*k+1,none⟩=some v:=(by rw [c.out.cellAt (4*k+1) aa];exact ⟨_,F0 ia⟩);rw [iR] at d;have r:Hid ((wr.setCell ⟨w.heap.size,4*k+1,none⟩ (.int .u8 (x/256%256))).ownsRow w.heap.size 5 1 (.slice (some ⟨w.heap.size,0,none⟩) m m) m ((iM f (4*k) x (1+1)).map (A6 .u8))):=(by have F:iM f (4*k) x (1+1)=(iM f (4*k) x 1).set (4*k+1) (x/256%256):=(by show (iM f (4*k) x 1).set (4*k+1) (x/256^1%256)=_;rw [(by rfl:x/256^1%256=x/256%256)]);show M7 _ _ _ _ _ _ _;rw [F];exact d.1);have q:Hid (Bw w (wr.setCell ⟨w.heap.size,4*k+1,none⟩ (.int .u8 (x/256%256)))):=l.out.setCell (A0 _) _;clear d c l;go_wp2_with fail;go_roundw;case rel=>exact ⟨1+1,by go_num,aa,r,q⟩
           case measure=>simp [intOf]
          ·have H:wr.frozen? ⟨w.heap.size,4*k+2,none⟩=false:=c.out.frozenAt (4*k+2);have d:=c.out.stored (4*k+2) (.int .u8 (x/65536%256));obtain ⟨v3,J⟩:∃ v,wr.cell? ⟨w.heap.size,4*k+2,none⟩=some v:=(by rw [c.out.cellAt (4*k+2) aa];exact ⟨_,F0 ia⟩);rw [iR] at d;have r:Hid ((wr.setCell ⟨w.heap.size,4*k+2,none⟩ (.int .u8 (x/65536%256))).ownsRow w.heap.size 5 1 (.slice (some ⟨w.heap.size,0,none⟩) m m) m ((iM f (4*k) x (2+1)).map (A6 .u8))):=(by have F:iM f (4*k) x (2+1)=(iM f (4*k) x 2).set (4*k+2) (x/65536%256):=(by show (iM f (4*k) x 2).set (4*k+2) (x/256^2%256)=_;rw [(by rfl:x/256^2%256=x/65536%256)]);show M7 _ _ _ _ _ _ _;rw [F];exact d.1);have q:Hid (Bw w (wr.setCell ⟨w.heap.size,4*k+2,none⟩ (.int .u8 (x/65536%256)))):=l.out.setCell (A0 _) _;clear d c l;go_wp2_with fail;go_roundw;case rel=>exact ⟨2+1,by go_num,aa,r,q⟩
           case measure=>simp [intOf]
          ·have H:wr.frozen? ⟨w.heap.size,4*k+3,none⟩=false:=c.out.frozenAt (4*k+3);have d:=c.out.stored (4*k+3) (.int .u8 (x/16777216));obtain ⟨v3,J⟩:∃ v,wr.cell? ⟨w.heap.size,4*k+3,none⟩=some v:=(by rw [c.out.cellAt (4*k+3) aa];exact ⟨_,F0 ia⟩);rw [iR] at d;have r:Hid ((wr.setCell ⟨w.heap.size,4*k+3,none⟩ (.int .u8 (x/16777216))).ownsRow w.heap.size 5 1 (.slice (some ⟨w.heap.size,0,none⟩) m m) m ((iM f (4*k) x (3+1)).map (A6 .u8))):=(by have F:iM f (4*k) x (3+1)=(iM f (4*k) x 3).set (4*k+3) (x/16777216):=(by show (iM f (4*k) x 3).set (4*k+3) (x/256^3%256)=_;rw [(by show x/16777216%256=_;omega:x/256^3%256=x/16777216)]);show M7 _ _ _ _ _ _ _;rw [F];exact d.1);have q:Hid (Bw w (wr.setCell ⟨w.heap.size,4*k+3,none⟩ (.int .u8 (x/16777216)))):=l.out.setCell (A0 _) _;clear d c l;go_wp2_with fail;go_roundw;case rel=>exact ⟨3+1,by go_num,aa,r,q⟩
           case measure=>simp [intOf]
         ·have hbe:b=4:=aa;subst hbe;go_wp2_with fail;go_roundw;case rel=>exact ⟨k+1,iM f (4*k) x 4,by go_num,aa,c,l,W⟩
          case measure=>simp [intOf];omega
      ·have R:k=g.length:=(by rw [T.out];omega);have j:=O.out;rw [R,H8,i8] at j;have o:Hid (iC g (m:Int)=some f):=M.out.trans j.symm;have z:Hid (f.length=m):=(by have:=P.out.1;show f.length=m;simpa using this);clear O j R;go_wp2_with fail;go_ret2;refine ⟨.slice (some ⟨w.heap.size,0,none⟩) m m,?_,?_⟩;·rw [o.out];rfl
       ·rw [o.out];show Sq _ _ _ _ f.length (f.map (A6 .u8));rw [z.out];exact ⟨P.out,N.out⟩
    ·have o:Hid (iC g (m:Int)=none):=(by show iC g (m:Int)=none;unfold iC AP;rw [T.out,decide_eq_false (λh=>V h.2.2.2)];rfl);have t3:((m:Int)/4<(n:Int)):=aa;clear B y V;go_wp2_with fail;go_ret2;exact ⟨.slice none 0 0,by rw [o.out];rfl,by rw [o.out];exact nT D.out⟩
 ·have o:Hid (iC g size=none):=(by show iC g size=none;unfold iC AP;rw [decide_eq_false (λh=>U ⟨aa,h.2.1⟩)];rfl);by_cases h0:size<0;·clear U I;go_enter func19,ntmps19;go_wp2_with fail;go_ret2;exact ⟨.slice none 0 0,by rw [o.out];rfl,by rw [o.out];exact nT (K0 _ _)⟩
  ·have h9:65536<size:=aa;clear U I;go_enter func19,ntmps19;go_wp2_with fail;go_ret2;exact ⟨.slice none 0 0,by rw [o.out];rfl,by rw [o.out];exact nT (K0 _ _)⟩
theorem JS (hz:f.length=l) (hn:l<=4097) (u:Sl .u8 D n f) (z:∀ y ∈ f,(Lit.int .u8 y).wf) (hm:0<g) (H:g<=1099511627776): R4 prog 5 #[.slice n l d,.i g] D λe J=>∃ x:Int,e=.returned (.i x)/\(0<=x/\x<g)/\J=D:=by
 have B:Hid (Sl .u8 D n f):=u;have C:Hid (∀ y ∈ f,(Lit.int .u8 y).wf):=z;have r:Hid (f.length=l):=hz;clear u z hz;go_enter func5,ntmps5;go_wp2_with fail;go_loopw [5,6] (λk i wr=>∃ (x:Int) (j:Nat),k=.i x/\i=.i j/\j<=l/\(0<=x/\x<=1000003)/\Hid (wr=D)) (λ_ i _=>l-(intOf i).toNat);case atStart=>exact ⟨l,0,rfl,rfl,aa,aa,rfl⟩
 case round =>
  obtain ⟨x,j,rfl,rfl,O,⟨o,I⟩,c⟩:=hrel;by_cases bZ:j<l
  ·obtain ⟨b,p,rfl,N,t⟩:=B.out j (by have:=r.out;omega);have Q:0<=f.getD j 0/\f.getD j 0<=255:=(by have cap:f.getD j 0 ∈ f:=(by rw [List.getD_eq_getElem?_getD,F0 (by have:=r.out;omega)];exact H3 _);simpa [Lit.wf,IntKind.min,IntKind.max,L4,L5] using C.out _ cap);have F:wr.cell? ⟨b,p+j,none⟩=some (.int .u8 (f.getD j 0)):=(by rw [c.out];exact t);generalize f.getD j 0=y at *;have K:L7 (x*61)=x*61:=bw;have L:L7 (x*61+y)=x*61+y:=bw;have E:(x*61+y).tmod 1000003=(x*61+y)%1000003:=I5 aa;have M:IntKind.i64.wrap y=y:=eg;have w:decide ((j:Int)<(l:Int)):=bb;obtain ⟨q,P,m,a⟩:∃ q,(x*61+y)%1000003=q/\0<=q/\q<=1000003:=⟨_,rfl,aa,aa⟩;clear t;go_wp2_with fail;go_roundw;case rel=>exact ⟨_,j+1,rfl,by go_num,aa,by first | exact ⟨m,a⟩ | (constructor<;>omega),c⟩
   case measure=>simp [intOf];omega
  ·have zs:j=l:=aa;subst zs;have w:decide ((j:Int)<(j:Int))=false:=bh;have E:x.tmod g=x%g:=I5 o;have s:0<=x%g/\x%g<g:=⟨Int.emod_nonneg _ aa,Int.emod_lt_of_pos _ hm⟩;have G:(g==0)=false:=bb;have A:Hid (0<=x%g/\x%g<g):=s;clear s;go_wp2_with fail;go_ret;exact ⟨_,rfl,A.out,c.out⟩
