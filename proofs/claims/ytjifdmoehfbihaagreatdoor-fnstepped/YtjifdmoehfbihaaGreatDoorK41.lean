/- Own lemmas. -/
import Derived.Test.YtjifdmoehfbihaaGreatDoorAut
import Derived.Test.YtjifdmoehfbihaaGreatDoorK22
import Derived.Test.YtjifdmoehfbihaaGreatDoorK34
import Derived.OpenShut
set_option maxHeartbeats 3200000
namespace Go.Proofs.YtjifdmoehfbihaaGreatDoor
open Go.RowKit Tryz
open IntKind renaming u64->Uz
set_option linter.unusedVariables false
theorem PA {k:Nat} {r:Row} (h:xP k r=true):r.fm=.x->0<=r.op/\r.op<128/\0<=r.more/\r.more<4096:=by intro a;simp only [xP,a,Bool.and_eq_true,decide_eq_true_eq] at h;omega
theorem oC (x:Int) (h0:0<=x) (h1:x<18446744073709551616) (w:World):CB 78 #[.u x] w (lO x):=by
 by_cases c:x<4294967296
 ·have d1:(x/4294967296 != 0)=false:=by simp;omega
  have HH:Hid (∀ k,cj x 98 0=some k->lO x=.tuple #[(qk k x).val,.bool true]):=λk (h:cj x 98 0=some k)=>Bg x k c h
  have HM:Hid (cj x 98 0=none->lO x=.tuple #[pi.val,.bool false]):=λ(h:cj x 98 0=none)=>xQ x c h
  obtain ⟨V,K⟩:∃ V,V=lO x:=⟨_,rfl⟩
  rw [<- K] at HH HM ⊢
  clear K
  go_enter func78,ntmps78
  go_wp2_with fail
  refine (nV _).mono ?_
  rintro e w1 ⟨rfl,R,hb⟩
  have hsz:w.heap.size+1<w1.heap.size:=by have:=R.out.1;simp at this;omega
  have G0:Hid (w1.heap[w.heap.size]?=some (.cells #[.i 0,.i 0,.i 0,.i 0,.i 0] 69 (0,0))):=by
   show _=_
   rw [hb.block _ cp];exact qN w
  have L:Bw w w1:=(bal _ _).trans (hb.mono cp)
  obtain ⟨g,hg⟩:∃ g,g=(w.alloc (.cells #[.i 0,.i 0,.i 0,.i 0,.i 0] 69)).heap.size:=⟨_,rfl⟩
  rw [<- hg] at R ⊢
  clear hb hg
  go_wp2_with fail
  go_loopw [5] (λi wr=>∃ k:Nat,k<=98/\i=.i k/\Hid (cj x (98-k) k=cj x 98 0)/\Hid (Az wr g) /\
   Hid (wr.heap[w.heap.size]?=some (.cells #[.i 0,.i 0,.i 0,.i 0,.i 0] 69 (0,0)))/\Bw w wr)
   (λi _=>98-(intOf i).toNat)
  case atStart=>exact ⟨0,ab,rfl,(rfl:cj x (98-0) 0=cj x 98 0),R,G0,L⟩
  case round =>
   obtain ⟨k,hk,rfl,hf,B,G,M⟩:=hrel
   clear G0 L R
   by_cases l:k<98
   ·have W:=PA (FQ k l)
    obtain ⟨r,q⟩:∃ r,r=bT k:=⟨_,rfl⟩
    obtain ⟨c0,X,c2,c3,c4⟩:=B.out.2 k l r q
    have MB:decide (fz k r.fm r.op r.f3 r.more x)=me k x:=by rw [q];rfl
    have U:Hid (Value.agg #[.i ((k:Int)+1),.i (KA r.fm x),.i (aV r.fm x),.i (bV r.fm x),.i (nB r.fm x)]=(qk k x).val):=by
     show _=_
     rw [q];rfl
    rw [<- q] at W
    have d:=Cp k l r.name r.fm r.op r.f3 r.more x h0 c W
    rw [MB] at d
    clear q MB W
    obtain ⟨nm,f,o,z,m⟩:=r
    simp only at c0 X c2 c3 c4 U d
    obtain ⟨s,O⟩:∃ s,s=f.str:=⟨_,rfl⟩
    rw [<- O] at X d
    obtain ⟨mb,E⟩:∃ b,b=me k x:=⟨_,rfl⟩
    rw [<- E] at d
    have LM:Hid (∀ w:World,CB 124 #[.i k,.agg #[.string nm,.string s,.u o,.i z,.u m],.u x] w (.bool mb)):=d
    have I:Hid (mb=me k x):=E
    have HS:Hid (s=f.str):=O
    clear d E O
    go_wp2_with fail
    refine (LM.out _).mono ?_
    rintro e j ⟨rfl,t⟩
    have D:Bw wr j:=(bal _ _).trans (t.mono cp)
    have J:j.cell? ⟨wr.heap.size,1,none⟩=some (.string s):=by
     rw [t.cell cp]
     rw [cell_of_row _ _ _ _ _ _ (heap_alloc_new _ _)];rfl
    have S:j.heap[w.heap.size]?=some (.cells #[.i 0,.i 0,.i 0,.i 0,.i 0] 69 (0,0)):=de D G.out
    have Z:Hid (Az j g):=Az.below B.out B.out.1 D
    have C:=aa M D
    have N:wr.heap.size<j.heap.size:=by have:=t.size;simp at this;omega
    have Y:∀ o,(j.alloc o).cell? ⟨wr.heap.size,1,none⟩=some (.string s):=λo=>(((Below.refl j.heap.size j).alloc (Nat.le_refl _) o).cell (p:=⟨wr.heap.size,1,none⟩) N).trans J
    have H:∀ o,(j.alloc o).heap[w.heap.size]?=some (.cells #[.i 0,.i 0,.i 0,.i 0,.i 0] 69 (0,0)):=λo=>de ((Below.refl j.heap.size j).alloc (Nat.le_refl _) o) S
    have u:Hid (∀ o,(j.alloc o).heap[w.heap.size]?=some (.cells #[.i 0,.i 0,.i 0,.i 0,.i 0] 69 (0,0))):=H
    have T:Hid (j.heap[w.heap.size]?=some (.cells #[.i 0,.i 0,.i 0,.i 0,.i 0] 69 (0,0))):=S
    clear S H
    clear t LM c0 X c2 c3 c4
    cases mb with
    | true =>
      have F:Hid (V=.tuple #[(qk k x).val,.bool true]):=HH.out k (hf.out.symm.trans (sG x k l I.out.symm))
      have A7:bits .and .u64 (x/128) 31=x/128%32:=cy (x/128) 5 ab ab bb
      have A15:bits .and .u64 (x/32768) 31=x/32768%32:=cy (x/32768) 5 ab ab bb
      have A20:bits .and .u64 (x/1048576) 31=x/1048576%32:=cy (x/1048576) 5 ab ab bb
      have O:=HS.out
      subst O
      have A:=Jy f x h0 c
      obtain ⟨y4,P⟩:∃ y,y=nB f x:=⟨_,rfl⟩
      rw [<- P] at A U
      have LI:Hid (∀ w:World,CE 125 #[.string f.str,.u x] w (.i y4)):=A
      clear A P HS
      cases f
      all_goals (
       simp only [Fm.str] at J Y LI ⊢
       go_wp2_with fail
       refine (LI.out _).mono ?_
       rintro e w3 ⟨rfl,hw3⟩
       have hw4:=hw3.symm
       subst hw4
       go_wp2_with (refine wpList_store_rowTo rfl 69 (.tmp 2) (.tmp 82) rfl rfl w.heap.size _ rfl rfl 69 _ (u.out _) fF rfl (og _ _ _ _ _) ?_)
       refine bodyPost_ret (gz results78 _ _ _ _ _ _ _ rfl (setRow_heap _ _ _ _ _ _ (u.out _)) underlying69 rfl fF) rfl ⟨?_,?_⟩
       ·rw [F.out,<- U.out];rfl
       ·exact aE (C.alloc C.size _) (Nat.le_refl _) _)
    | false =>
      have F:Hid (cj x (98-(k+1)) (k+1)=cj x 98 0):=(ql x k l I.out.symm).symm.trans hf.out
      go_wp2_with fail
      go_roundw
      case rel=>exact ⟨k+1,ab,by go_num,F,Z,T,C⟩
      case measure=>simp [intOf];omega
   ·have hk2:k=98:=by omega
    subst hk2
    have F:Hid (V=.tuple #[pi.val,.bool false]):=HM.out hf.out.symm
    have G3:=G.out
    go_wp2_with (refine wpList_store_rowTo rfl 69 (.tmp 2) (.tmp 83) rfl rfl w.heap.size #[.i 0,.i 0,.i 0,.i 0,.i 0] rfl rfl 69 _ G3 fF rfl (og _ _ _ _ _) ?_)
    refine bodyPost_ret (gz results78 _ _ _ _ _ _ _ rfl (setRow_heap _ _ _ _ _ _ G3) underlying69 rfl fF) rfl ⟨?_,?_⟩
    ·rw [F.out];rfl
    ·exact aE M (Nat.le_refl _) _
 ·have d1:(x/4294967296 != 0)=true:=by simp;omega
  have F:Hid (lO x=.tuple #[pi.val,.bool false]):=Bf x c
  obtain ⟨V,K⟩:∃ V,V=lO x:=⟨_,rfl⟩
  rw [<- K] at F ⊢
  clear K
  go_enter func78,ntmps78
  go_wp2_with fail
  refine bodyPost_ret (gz results78 _ _ _ _ _ _ _ rfl (qN w) underlying69 rfl fF) rfl ⟨?_,?_⟩
  ·rw [F.out];rfl
  ·exact bal _ _
theorem tR (z:Int) (m:Nat) (hm:m<9223372036854775808):0<=bits .and .i64 z (m:Int)/\bits .and .i64 z (m:Int)<=m:=by
 have e:bits .and .i64 z (m:Int)=wrap64 (((BitVec.ofInt 64 z).toNat &&& m:Nat):Int):=by show IntKind.i64.wrap ((BitVec.ofInt 64 z &&& BitVec.ofInt 64 (m:Int)).toNat:Int)=_;rw [BitVec.toNat_and,BitVec.ofInt_natCast,BitVec.toNat_ofNat,Nat.mod_eq_of_lt (show m<2^64 by omega)];rw [IntKind.wrap_i64];unfold wrap64;rfl
 have h:(BitVec.ofInt 64 z).toNat &&& m<=m:=Nat.and_le_right;rw [e];unfold wrap64;omega
structure Code (w0:World) (a:Option Addr) (n:Nat) (zs:List Int):Prop where
 len:zs.length=n
 few:n<=4096
 sl:Sl .u8 w0 a zs
 bd:∀ y ∈ zs,(Lit.int .u8 y).wf=true
structure lL (w0 w:World) (g:Nat) (a:Option Addr) (n cap:Nat):Prop where
 new:w0.heap.size<=g
 below:Bw w0 w
 row:∃ (i:Nat) (h:Int),i<=n/\w.heap[g]?=some (.cells #[.slice a n cap,.i (i:Int),.i h] 120 (0,0))
theorem rV (w:World) (g i:Nat) (v:Value):w.grownBy (w.setCell ⟨g,i,none⟩ v) (some g):=
 ⟨rfl,rfl,rfl,cp,λk _ a=>heap_setCell_other _ _ _ _ (by intro h;exact a (by rw [h]))⟩
theorem mJ (w:World) (n:Nat) (row:Option Nat):w.grownBy (w.drewN n) row:=⟨rfl,rfl,rfl,Nat.le_refl _,λ_ _ _=>rfl⟩
theorem lZ (w:World) (o:Obj) (row:Option Nat):w.grownBy (w.alloc o) row :=
 ⟨rfl,rfl,rfl,cp,λk a _=>heap_alloc_old w o a⟩
theorem lL.grown {f w w':World} {g:Nat} {a:Option Addr} {n cap:Nat} (b:lL f w g a n cap) (d:w.grownBy w' none):lL f w' g a n cap:=by
 obtain ⟨i,h,j,c⟩:=b.row;have m:∀ k o,w.heap[k]?=some o->k<w.heap.size:=by
  intro k o e;by_cases l:k<w.heap.size;·exact l
  ·rw [Array.getElem?_eq_none ab] at e;cases e
 refine ⟨b.new,?_,i,h,j,?_⟩;·exact ⟨d.os.trans b.below.os,d.tape.trans b.below.tape,d.output.trans b.below.output,Nat.le_trans b.below.size d.size,λk e=>(d.block k (Nat.lt_of_lt_of_le e b.below.size) cp).trans (b.below.block k e)⟩
 ·rw [d.block g (m _ _ c) cp];exact c
theorem lL.set2 {d w:World} {g:Nat} {a:Option Addr} {n cap:Nat} (c:lL d w g a n cap) (v:Int):lL d (w.setCell ⟨g,2,none⟩ (.i v)) g a n cap:=by obtain ⟨i,h,e,b⟩:=c.row;exact ⟨c.new,c.below.setCell c.new _,i,v,e,heap_setCell_same w g 2 _ _ _ b⟩
theorem lL.set1 {d w:World} {g:Nat} {a:Option Addr} {n cap:Nat} (c:lL d w g a n cap) (j:Nat) (e:j<=n):lL d (w.setCell ⟨g,1,none⟩ (.i (j:Int))) g a n cap:=by obtain ⟨i,h,f,b⟩:=c.row;exact ⟨c.new,c.below.setCell c.new _,j,h,e,heap_setCell_same w g 1 _ _ _ b⟩
theorem lL.dN {b w:World} {g:Nat} {a:Option Addr} {n cap:Nat} (c:lL b w g a n cap) (m:Nat):lL b (w.drewN m) g a n cap:=c.grown (mJ w m none)
theorem EX {j:World} {g:Nat} {a:Option Addr} {n cap:Nat} {zs:List Int} (d:Code j a n zs) (w:World) (o:lL j w g a n cap):Calls prog 101 #[.p g 0] w λe t=>∃ x:Int,e=.returned (.i x)/\0<=x/\x<=255/\lL j t g a n cap/\w.grownBy t (some g):=by
 obtain ⟨i,h,G,c⟩:=o.row;have z:=cell_of_row w g 2 _ _ _ c;have F:=frozen_of_row w g 2 _ _ c;simp at z;have R:∀ v,(w.setCell ⟨g,2,none⟩ v).heap[g]?=some (.cells #[.slice a n cap,.i (i:Int),v] 120 (0,0)):=λv=>heap_setCell_same w g 2 _ _ v c;have C:∀ v,(w.setCell ⟨g,2,none⟩ v).cell? ⟨g,0,none⟩=some (.slice a n cap):=λv=>cell_of_row _ _ _ _ _ _ (R v);have D:∀ v,(w.setCell ⟨g,2,none⟩ v).cell? ⟨g,1,none⟩=some (.i (i:Int)):=λv=>cell_of_row _ _ _ _ _ _ (R v);have E:∀ v,(w.setCell ⟨g,2,none⟩ v).cell? ⟨g,2,none⟩=some v:=λv=>cell_of_row _ _ _ _ _ _ (R v);have B:∀ v,(w.setCell ⟨g,2,none⟩ v).frozen? ⟨g,1,none⟩=false:=λv=>frozen_of_row _ _ _ _ _ (R v);have HR:Hid (∀ v,(w.setCell ⟨g,2,none⟩ v).heap[g]?=some (.cells #[.slice a n cap,.i (i:Int),v] 120 (0,0))):=R;have l:Hid (lL j w g a n cap):=o;have m:Hid (Code j a n zs):=d;clear R c o d;by_cases q:i<n
 ·obtain ⟨b,r,rfl,A,f⟩:=m.out.sl i (by rw [m.out.len];exact q);have u:∀ v,(w.setCell ⟨g,2,none⟩ v).cell? ⟨b,r+i,none⟩=some (.int .u8 (zs.getD i 0)):=λv=>((l.out.below.setCell l.out.new v).cell (by exact A)).trans f;obtain ⟨y,s⟩:∃ y,y=zs.getD i 0:=⟨_,rfl⟩;rw [<- s] at u;clear f s;go_enter func101,ntmps101;go_wp2_with fail;go_quiet (fail)
  go_wp2_with fail;go_quiet (fail)
  go_wp2_with fail;go_quiet (fail)
  go_wp2_with fail;have p:wrap64 ((i:Int)+1)=((i+1:Nat):Int):=(by have:=m.out.few;unfold wrap64;omega);rw [p];go_ret;refine ⟨_,rfl,(tR _ 255 ab).1,(tR _ 255 ab).2,?_,?_⟩;·exact ((l.out.set2 _).dN _).set1 _ ab
  ·exact aQ (aQ (rV _ _ _ _) (mJ _ _ _)) (rV _ _ _ _)
 ·go_enter func101,ntmps101;go_wp2_with fail;go_quiet (fail)
  go_wp2_with fail;go_quiet (fail)
  go_wp2_with fail;go_ret;refine ⟨_,rfl,(tR _ 255 ab).1,(tR _ 255 ab).2,?_,?_⟩;·exact ((l.out.set2 _).dN _).dN _
  ·exact aQ (aQ (rV _ _ _ _) (mJ _ _ _)) (mJ _ _ _)
def Cs (b:World) (g:Nat) (a:Option Addr) (n cap:Nat) (w w':World):Prop:=lL b w' g a n cap/\w.grownBy w' (some g)
theorem Cs.trans {b w1 w2 w3:World} {g:Nat} {a:Option Addr} {n cap:Nat} (h:Cs b g a n cap w1 w2) (k:Cs b g a n cap w2 w3):Cs b g a n cap w1 w3:=⟨k.1,aQ h.2 k.2⟩
theorem Cs.refl {b w:World} {g:Nat} {a:Option Addr} {n cap:Nat} (h:lL b w g a n cap):Cs b g a n cap w w:=⟨h,mS _ _⟩
theorem kh {c:World} {g:Nat} {a:Option Addr} {n cap:Nat} {zs:List Int} (b:Code c a n zs) (w:World) (l:lL c w g a n cap) :
 Calls prog 101 #[.p g 0] w λe d=>∃ x:Int,e=.returned (.i x)/\(0<=x/\x<=255)/\Hid (Cs c g a n cap w d):=
 (EX b w l).mono λe d ⟨x,f,h,i,j,k⟩=>⟨x,f,⟨h,i⟩,⟨j,k⟩⟩
theorem aB {o:World} {g:Nat} {a:Option Addr} {n cap:Nat} {zs:List Int} (c:Code o a n zs) (m:Int) (hm:0<m) (w:World) (A:lL o w g a n cap):Calls prog 55 #[.p g 0,.i m] w λe J=>∃ x:Int,e=.returned (.i x)/\(0<=x/\x<m)/\Hid (Cs o g a n cap w J):=by
 have b:Hid (Code o a n zs):=c;have s:Hid (lL o w g a n cap):=A;have L:decide (m<=0)=false:=by simp;omega
 have t:¬ m=0:=ab
 clear c A;by_cases d:m<=256;·have B:decide (m<=256)=true:=ki;go_enter func55,ntmps55;go_wp2_with fail;refine (kh b.out _ s.out).mono ?_;rintro e K ⟨x,rfl,⟨q,r⟩,C⟩;go_wp2_with fail;go_ret;refine ⟨_,rfl,?_,C⟩;exact ⟨Int.emod_nonneg _ t,Int.emod_lt_of_pos _ hm⟩
 ·have B:decide (m<=256)=false:=ki;go_enter func55,ntmps55;go_wp2_with fail;refine (kh b.out _ s.out).mono ?_;rintro e K ⟨x,rfl,⟨q,r⟩,f⟩;go_wp2_with fail;refine (kh b.out _ f.out.1).mono ?_;rintro e M ⟨y,rfl,⟨F,G⟩,j⟩;go_wp2_with fail;refine (kh b.out _ j.out.1).mono ?_;rintro e N ⟨z,rfl,⟨H,I⟩,l⟩;go_wp2_with fail;refine (kh b.out _ l.out.1).mono ?_;rintro e O ⟨u,rfl,⟨D,E⟩,p⟩;go_wp2_with fail;go_ret;refine ⟨_,rfl,?_,f.out.trans (j.out.trans (l.out.trans p.out))⟩;exact ⟨Int.emod_nonneg _ t,Int.emod_lt_of_pos _ hm⟩
theorem bG {d:World} {g:Nat} {a:Option Addr} {n cap:Nat} {zs:List Int} (b:Code d a n zs) (m:Int) (hm:0<m) (w:World) (f:lL d w g a n cap):Calls prog 56 #[.p g 0,.i m] w λe r=>∃ c:Bool,e=.returned (.bool c)/\Hid (Cs d g a n cap w r):=by have l:Hid (Code d a n zs):=b;have j:Hid (lL d w g a n cap):=f;clear b f;go_enter func56,ntmps56;go_wp2_with fail;refine (aB l.out m hm _ j.out).mono ?_;rintro e s ⟨x,rfl,⟨p,q⟩,o⟩;go_wp2_with fail;go_ret;exact ⟨_,rfl,o⟩
theorem PC {a:Option Addr} {n:Nat} (cap:Nat) {zs:List Int} (w:World) (d:Code w a n zs):Calls prog 53 #[.slice a n cap] w λe p=>∃ g,e=.returned (.p g 0)/\Hid (lL w p g a n cap):=by
 have m:Hid (Code w a n zs):=d;have s:=d.few;clear d;go_enter func53,ntmps53;go_wp2_with fail;go_loopw [3,4] (λh i wr=>∃ (k:Nat) (x:Int),k<=n/\h=.i x/\i=.i k/\Hid (Bw w wr))
  (λ_ i _=>n-(intOf i).toNat)
 case atStart=>exact ⟨0,_,Nat.zero_le _,rfl,rfl,Below.refl _ _⟩
 case round =>
  obtain ⟨k,x,r,rfl,rfl,c⟩:=hrel;by_cases j:k<n
  ·obtain ⟨b,l,rfl,o,f⟩:=m.out.sl k (by rw [m.out.len];exact j);have q:wr.cell? ⟨b,l+k,none⟩=some (.int .u8 (zs.getD k 0)):=(c.out.cell (by exact o)).trans f;clear f;go_wp2_with fail;go_roundw;case rel=>exact ⟨k+1,_,ab,rfl,by go_num,c⟩
   case measure=>simp [intOf];omega
  ·go_wp2_with fail;go_ret;refine ⟨_,rfl,?_⟩;exact ⟨c.out.size,c.out.alloc c.out.size _,0,x,Nat.zero_le _,heap_alloc_new _ _⟩
theorem St {x:Int} (c : -9223372036854775808<=x) (d:x<=9223372036854775807):(Lit.int .i64 x).wf=true:=by have b:IntKind.i64.min=-9223372036854775808:=rfl;have a:IntKind.i64.max=9223372036854775807:=rfl;simp only [Lit.wf,Bool.and_eq_true,decide_eq_true_eq];omega
theorem Cs.keep {d w w':World} {g:Nat} {a:Option Addr} {n cap:Nat} (h:Cs d g a n cap w w') {k:Nat} {o:Obj} (hk:w.heap[k]?=some o) (b:k≠g):w'.heap[k]?=some o:=by
 by_cases c:k<w.heap.size;·rw [h.2.block k c (by simp [b])];exact hk
 ·rw [Array.getElem?_eq_none ab] at hk;cases hk
theorem lL.lt {d w:World} {g:Nat} {a:Option Addr} {n cap:Nat} (h:lL d w g a n cap):g<w.heap.size:=by
 obtain ⟨i,x,_,b⟩:=h.row;by_cases c:g<w.heap.size;·exact c
 ·rw [Array.getElem?_eq_none ab] at b;cases b
theorem kK {m:World} {g:Nat} {a:Option Addr} {n cap:Nat} {zs:List Int} (q:Code m a n zs) (w:World) (F:lL m w g a n cap):Calls prog 167 #[.p g 0] w λe L=>∃ x:Int,e=.returned (.u x)/\(0<=x/\x<18446744073709551616)/\Hid (Cs m g a n cap w L):=by
 have A:Hid (Code m a n zs):=q;have E:Hid (lL m w g a n cap):=F;clear q F;go_enter func167,ntmps167;go_wp2_with fail;go_loopw [3,4] (λh i wr=>∃ (k:Nat) (x:Int),k<=8/\h=.u x/\i=.i k/\(0<=x/\x<18446744073709551616)/\Hid (Cs m g a n cap w wr))
  (λ_ i _=>8-(intOf i).toNat)
 case atStart=>exact ⟨0,0,Nat.zero_le _,rfl,rfl,ab,Cs.refl E.out⟩
 case round =>
  obtain ⟨k,x,M,rfl,rfl,⟨j,l⟩,r⟩:=hrel;by_cases J:k<8
  ·go_wp2_with fail;refine (kh A.out _ r.out.1).mono ?_;rintro e p ⟨y,rfl,⟨s,t⟩,c⟩;obtain ⟨z,N⟩:∃ z,z=Uz.wrap (Uz.wrap (x*256)+y):=⟨_,rfl⟩;go_wp2_with fail;go_roundw;case rel =>refine ⟨k+1,_,ab,rfl,by go_num,?_,r.out.trans c.out⟩;rw [IntKind.wrap_u64];omega
   case measure=>simp [intOf];omega
  ·go_wp2_with fail;refine (aB A.out 5 ab _ r.out.1).mono ?_;rintro e p ⟨y,rfl,⟨s,t⟩,c⟩;have b:Hid (Cs m g a n cap w p):=r.out.trans c.out;have K:0<=x%100/\x%100<18446744073709551616:=ab;have C:0<=Uz.wrap (wrap64 x/1099511627776)/\Uz.wrap (wrap64 x/1099511627776)<18446744073709551616:=di;obtain ⟨k,rfl⟩:=Int.eq_ofNat_of_zero_le s;match k,t with
   | 0,_ =>
     go_wp2_with fail;have D:Hid (lL m (p.alloc (.cells #[.u 0,.u 1,.u 18446744073709551615,.u 9223372036854775808,.u 9223372036854775807,.u 2147483648,.u 2147483647,.u 18446744071562067968,.u 4294967295,.u 64] 22)) g a n cap):=c.out.1.grown (lZ _ _ _);refine (aB A.out 10 ab _ D.out).mono ?_;rintro e u ⟨y,rfl,⟨j,l⟩,f⟩;obtain ⟨k,rfl⟩:=Int.eq_ofNat_of_zero_le j;have o:u.heap[p.heap.size]?=some (.cells #[.u 0,.u 1,.u 18446744073709551615,.u 9223372036854775808,.u 9223372036854775807,.u 2147483648,.u 2147483647,.u 18446744071562067968,.u 4294967295,.u 64] 22 (0,0)):=f.out.keep (heap_alloc_new _ _) (Nat.ne_of_gt c.out.1.lt);obtain ⟨v,G,B⟩:∃ v:Int,(0<=v/\v<18446744073709551616)/\u.cell? ⟨p.heap.size,k,none⟩=some (.u v):=by
      have d:=cell_of_row u p.heap.size k _ _ _ o;match k,l with
      | 0,_=>exact ⟨_,ab,d⟩
      | 1,_=>exact ⟨_,ab,d⟩
      | 2,_=>exact ⟨_,ab,d⟩
      | 3,_=>exact ⟨_,ab,d⟩
      | 4,_=>exact ⟨_,ab,d⟩
      | 5,_=>exact ⟨_,ab,d⟩
      | 6,_=>exact ⟨_,ab,d⟩
      | 7,_=>exact ⟨_,ab,d⟩
      | 8,_=>exact ⟨_,ab,d⟩
      | 9,_=>exact ⟨_,ab,d⟩
      | k+10,h=>exact absurd h ab
     have I:Hid (0<=v/\v<18446744073709551616):=G;have H:Hid (Cs m g a n cap w u):=⟨f.out.1,aQ b.out.2 (aQ (lZ _ _ _) f.out.2)⟩;clear o G r c f D E b;go_wp2_with fail;go_ret;exact ⟨_,rfl,I.out,H⟩
   | 1,_ =>go_wp2_with fail;go_ret;exact ⟨_,rfl,K,b⟩
   | 2,_ =>go_wp2_with fail;go_ret;exact ⟨_,rfl,C,b⟩
   | 3,_ =>go_wp2_with fail;go_ret;exact ⟨_,rfl,⟨j,l⟩,b⟩
   | 4,_ =>go_wp2_with fail;go_ret;exact ⟨_,rfl,⟨j,l⟩,b⟩
   | k+5,h=>exact absurd h ab
theorem Cs.alloc {b:World} {g:Nat} {a:Option Addr} {n cap:Nat} {w:World} (h:lL b w g a n cap) (o:Obj):Cs b g a n cap w (w.alloc o):=⟨h.grown (lZ _ _ _),lZ _ _ _⟩
theorem rW {w:World} {b k:Nat} (cs:List Int) (t:TypeId) (hr:w.heap[b]?=some (.cells (cs.map (Value.int .u64)).toArray t (0,0))) (a:∀ x ∈ cs,U x) (hk:k<cs.length):∃ v,U v/\w.cell? ⟨b,k,none⟩=some (.u v):=by refine ⟨cs[k],a _ (List.getElem_mem hk),?_⟩;rw [cell_of_row _ _ _ _ _ _ hr];simp [List.getElem?_eq_getElem hk]
theorem Nd {w:World} {b k:Nat} (cs:List Int) (t:TypeId) (hr:w.heap[b]?=some (.cells (cs.map (Value.int .i64)).toArray t (0,0))) (a:∀ x ∈ cs,(Lit.int .i64 x).wf=true) (hk:k<cs.length):∃ v,(Lit.int .i64 v).wf=true/\w.cell? ⟨b,k,none⟩=some (.i v):=by refine ⟨cs[k],a _ (List.getElem_mem hk),?_⟩;rw [cell_of_row _ _ _ _ _ _ hr];simp [List.getElem?_eq_getElem hk]
theorem Cs.of_below {d:World} {g:Nat} {a:Option Addr} {n cap:Nat} {w wx:World} (c:lL d w g a n cap) (hb:Bw w wx):Cs d g a n cap w wx:=by have e:=c.lt;obtain ⟨i,x,f,b⟩:=c.row;exact ⟨⟨c.new,aa c.below hb,i,x,f,by rw [hb.block g e];exact b⟩,⟨hb.os,hb.tape,hb.output,hb.size,λk h _=>hb.block k h⟩⟩
theorem TG:(prog.info? 2).map (λi=>(i.zero,i.size,i.bytes))=some (some (.i 0),1,8):=by kernel_rfl
theorem vZ {r:World} {g:Nat} {a:Option Addr} {n cap:Nat} {zs:List Int} (D:Code r a n zs) (w:World) (hc:lL r w g a n cap):Calls prog 220 #[.p g 0] w λe w'=>∃ x:Int,e=.returned (.i x)/\(Lit.int .i64 x).wf=true/\Hid (Cs r g a n cap w w'):=by
 have O:Hid (Code r a n zs):=D;have I:Hid (lL r w g a n cap):=hc;obtain ⟨i0,hi,hz0,hz1,hz2⟩:=info_parts TG;have T:(22+5)*8<=140737488355328:=ab
 have X:22+5<=maxLen:=by unfold maxLen;omega
 have C:∀ u ∈ ([256,260,324,3860,769]:List Int).map (Value.int .i64),u.oneCell'=true:=ints_oneCell _ _;have o:∀ (W:World) (j:Nat) (u:Value),(([256,260,324,3860,769]:List Int).map (Value.int .i64))[j]?=some u->(W.alloc (.cells #[.i 256,.i 260,.i 324,.i 3860,.i 769] 2)).cell? ((⟨W.heap.size,0,none⟩:Addr).add j)=some u:=by intro W j u hu;rw [yz,Nat.zero_add,cell_of_row _ _ _ _ _ _ (heap_alloc_new _ _)];rw [<- hu];simp
 have HN:Hid (∀ (W:World) (j:Nat) (u:Value),(([256,260,324,3860,769]:List Int).map (Value.int .i64))[j]?=some u->(W.alloc (.cells #[.i 256,.i 260,.i 324,.i 3860,.i 769] 2)).cell? ((⟨W.heap.size,0,none⟩:Addr).add j)=some u):=o;clear D hc o;go_enter func220,ntmps220;go_wp2_with fail;refine (pe _).mono ?_;rintro e M ⟨rfl,q⟩;have G:M.ownsRow w.heap.size 2 1 (.slice (some ⟨w.heap.size,0,none⟩) 22 22) 22 (dM.map (Value.int .i64)):=by rw [q];exact World.ownsRow_lit w _ 22 (Nat.le_refl _) et rfl
 have t:Bw w M:=by rw [q];exact bal _ _
 have hE:=G.alloc (.cells #[.i 256,.i 260,.i 324,.i 3860,.i 769] 2);have F:w.heap.size<M.heap.size:=by rw [q];simp
 clear q G;go_wp2_with (at_builtin;refine wpList_append_own _ rfl (.tmp 4) (.tmp 5) 39 rfl _ 2 i0 (.i 0) 1 8 underlying39 hi hz0 hz1 hz2 rfl bb _ 22 (dM.map (Value.int .i64)) (by rfl) hE ⟨M.heap.size,0,none⟩ 5 5 (([256,260,324,3860,769]:List Int).map (Value.int .i64)) rfl rfl (HN.out _) C X T bh ?_;intro v' w2 d l y);obtain ⟨g2,c2,z,E⟩:=jC d ab;have B2:Bw w w2:=Below.grown (t.alloc t.size _) l bh (by intro k K;simp [Value.ownBlock] at K;omega);have s:Hid (Cs r g a n cap w w2):=Cs.of_below I.out B2;obtain ⟨L,J⟩:∃ L,L=dM++([256,260,324,3860,769]:List Int):=⟨_,rfl⟩;rw [z,<- List.map_append,<- J] at d;have S:Hid (∀ x ∈ L,(Lit.int .i64 x).wf=true):=by rw [J];show ∀ x ∈ _,_;decide
 have B:Hid (L.length=27):=by rw [J];rfl
 have HO:Hid (w2.ownsRow w.heap.size 2 1 (.slice (some ⟨g2,0,none⟩) 27 c2) 27 (L.map (Value.int .i64))):=d;have P:Hid (g<g2):=Nat.lt_of_lt_of_le I.out.lt E;rw [z];clear J d l y z hE t F HN C E B2;go_wp2_with fail;refine (bG O.out 14 ab _ s.out.1).mono ?_;rintro e w3 ⟨c,rfl,f⟩;cases c with
 | true =>go_wp2_with fail;have N:=Cs.alloc f.out.1 (.cells #[.i 0,.i 1,.i 769,.i 2816,.i 3072,.i 4095] 2);refine (aB O.out 6 ab _ N.1).mono ?_;rintro e w4 ⟨x,rfl,⟨A,Z⟩,m⟩;obtain ⟨k,rfl⟩:=Int.eq_ofNat_of_zero_le A;obtain ⟨v,hv,U⟩:=Nd [0,1,769,2816,3072,4095] 2 (m.out.keep (heap_alloc_new _ _) (Nat.ne_of_gt f.out.1.lt)) bb (k:=k) bh;have R:Hid ((Lit.int .i64 v).wf=true):=hv;have Q:Hid (Cs r g a n cap w w4):=s.out.trans (f.out.trans (N.trans m.out));clear hv f m N I;go_wp2_with fail;go_ret;exact ⟨_,rfl,R.out,Q⟩
 | false =>go_wp2_with fail;refine (aB O.out 27 ab _ f.out.1).mono ?_;rintro e w4 ⟨x,rfl,⟨A,Z⟩,m⟩;obtain ⟨k,rfl⟩:=Int.eq_ofNat_of_zero_le A;have p:=f.out.trans m.out;have H:=yA HO.out p.2 (by intro j hj Y;have:=P.out;simp [Value.ownBlock] at hj Y;omega);obtain ⟨b,off,e,_,V⟩:=kl H k (by have:=B.out;omega);simp only [Option.some.injEq,Addr.mk.injEq,and_true] at e;obtain ⟨rfl,rfl⟩:=e;rw [Nat.zero_add] at V;have R:Hid ((Lit.int .i64 (L.getD k 0)).wf=true):=(by have K:k<L.length:=(by have:=B.out;omega);have e:L.getD k 0=L[k]:=(by simp [List.getD,List.getElem?_eq_getElem K]);show (Lit.int .i64 (L.getD k 0)).wf=true;rw [e];exact S.out _ (List.getElem_mem K));generalize L.getD k 0=v at *;have Q:Hid (Cs r g a n cap w w4):=s.out.trans p;clear H p f m I;go_wp2_with fail;go_ret;exact ⟨_,rfl,R.out,Q⟩
def Rm (d:World) (g:Nat) (a:Option Addr) (n cap:Nat) (w:World) (b m:Nat) (wr:World):Prop :=
 ∃ c:List Int,(∀ y ∈ c,(Lit.int .u8 y).wf=true)/\wr.ownsRow w.heap.size 5 1 (.slice (some ⟨b,0,none⟩) m m) m (c.map (Value.int .u8))/\Cs d g a n cap w wr/\g<w.heap.size/\w.heap.size<=b
theorem Rm.next {d:World} {g:Nat} {a:Option Addr} {n cap:Nat} {w wr wx:World} {b m:Nat} (h:Rm d g a n cap w b m wr) (k:Cs d g a n cap wr wx):Rm d g a n cap w b m wx:=by obtain ⟨q,p,o,f,i,e⟩:=h;refine ⟨q,p,yA o k.2 ?_,f.trans k,i,e⟩;intro j l c;simp [Value.ownBlock] at l c;omega
theorem Rm.cur {c:World} {g:Nat} {a:Option Addr} {n cap:Nat} {w wr:World} {b m:Nat} (h:Rm c g a n cap w b m wr):lL c wr g a n cap:=by obtain ⟨k,j,i,d,f,e⟩:=h;exact d.1
theorem TW {y:Int} (c:0<=y) (d:y<=255):(Lit.int .u8 y).wf=true:=by have b:IntKind.u8.min=0:=rfl;have a:IntKind.u8.max=255:=rfl;simp only [Lit.wf,Bool.and_eq_true,decide_eq_true_eq];omega
theorem Cu (m:Nat):∀ y ∈ List.replicate m (0:Int),(Lit.int .u8 y).wf=true:=by intro y a;rw [(List.mem_replicate.mp a).2];decide
theorem Cx (ty:TypeId) {w:World} (base n:Nat) (v:Value) (zs:List Int) (g:w.ownsRow base 5 1 v n (zs.map (Value.int .u8))) (hn:n<=1048576) (ad:Addr) (c:Nat) (b:Int) (a:∀ j u,[Value.int .u8 b][j]?=some u->w.cell? (ad.add j)=some u) (h:base<=w.heap.size):∃ d f i,(Builtin.append_ #[24,24] ty #[v,.slice (some ad) 1 c]).run prog w=.ok (.slice d (n+1) f) i/\i.ownsRow base 5 1 (.slice d (n+1) f) (n+1) ((zs++[b]).map (Value.int .u8))/\w.grownBy i v.ownBlock/\((Value.slice d (n+1) f).ownBlock=v.ownBlock\/(Value.slice d (n+1) f).ownBlock=some w.heap.size):=by
 obtain ⟨y,s,k,l,m⟩:=info_parts info5;obtain ⟨z,i,p,o,r,C⟩:=run_append_own (P:=prog) w base 24 ty 5 y (.int .u8 0) 1 1 underlying24 s k l m rfl bb v n (zs.map (Value.int .u8)) g ad 1 c [.int .u8 b] rfl a (by simp [Value.oneCell']) et ab h;have x:=pW ty g ad c b a hn p;have t:∃ d f,z=.slice d (n+1) f:=by
  rcases o.2 with ⟨_,A⟩|⟨B,cap,q,e,_⟩;·omega
  ·exact ⟨_,_,e⟩
 obtain ⟨d,f,rfl⟩:=t;exact ⟨d,f,i,p,by rw [List.map_append];exact o,r,x⟩
structure Dc (w0:World) (g:Nat) (a:Option Addr) (n cap:Nat) (w:World) (r b:Nat) (T:TypeId) (rs cs:Array Value) (wr:World):Prop where
 row:wr.heap[b]?=some (.cells cs T (0,0))
 res:wr.heap[r]?=some (.cells rs T (0,0))
 cu:Cs w0 g a n cap w wr
 glt:g<r
 rlt:r<b
 wle:w.heap.size<=r
theorem blk {w:World} {k:Nat} {o:Obj} (h:w.heap[k]?=some o):k<w.heap.size:=(Array.getElem?_eq_some_iff.1 h).1
theorem Dc.next {c w wr wx:World} {g:Nat} {a:Option Addr} {n cap r b:Nat} {T:TypeId} {rs cs:Array Value} (h:Dc c g a n cap w r b T rs cs wr) (k:Cs c g a n cap wr wx):Dc c g a n cap w r b T rs cs wx:=by have e:=h.glt;have f:=h.rlt;have keep:∀ j o,j≠g->wr.heap[j]?=some o->wx.heap[j]?=some o:=λj o i d=>(k.2.block j (blk d) bh).trans d;exact ⟨keep _ _ ab h.row,keep _ _ ab h.res,h.cu.trans k,e,f,h.wle⟩
theorem Dc.drew {c w wr:World} {g:Nat} {a:Option Addr} {n cap r b:Nat} {T:TypeId} {rs cs:Array Value} (h:Dc c g a n cap w r b T rs cs wr):Dc c g a n cap w r b T rs cs wr.drew:=⟨h.row,h.res,⟨h.cu.1.grown (mJ wr 1 none),aQ h.cu.2 (mJ wr 1 _)⟩,h.glt,h.rlt,h.wle⟩
theorem Cs.setc {e w wr:World} {g:Nat} {a:Option Addr} {n cap:Nat} (h:Cs e g a n cap w wr) (k i:Nat) (v:Value) (hk:w.heap.size<=k) (f:g≠k) (d:e.heap.size<=k):Cs e g a n cap w (wr.setCell ⟨k,i,none⟩ v):=by obtain ⟨j,x,l,b⟩:=h.1.row;refine ⟨⟨h.1.new,h.1.below.setCell d v,j,x,l,(Below.heap_setCell wr ⟨k,i,none⟩ v g f).trans b⟩,h.2.os,h.2.tape,h.2.output,by rw [aO];exact h.2.size,λq m c=>?_⟩;rw [Below.heap_setCell wr ⟨k,i,none⟩ v q cb];exact h.2.block q m c
theorem Dc.put {c w wr:World} {g:Nat} {a:Option Addr} {n cap r b:Nat} {T:TypeId} {rs cs:Array Value} (h:Dc c g a n cap w r b T rs cs wr) (i:Nat) (v:Value):Dc c g a n cap w r b T rs (cs.setIfInBounds i v) (wr.setCell ⟨b,i,none⟩ v):=by have d:=h.glt;have e:=h.rlt;have f:=h.wle;have j:=h.cu.1.new;exact ⟨bD h.row i v,gy h.res ⟨b,i,none⟩ v cb,h.cu.setc b i v ab ab ab,d,e,f⟩
theorem Dc.on {i w wr wx:World} {g E:Nat} {a:Option Addr} {n cap r b:Nat} {T:TypeId} {rs cs:Array Value} (h:Dc i g a n cap w r b T rs cs wr) (k:kS (b+1) E wr wx):Dc i g a n cap w r b T rs cs wx:=by have l:=h.glt;have p:=h.rlt;have s:=h.wle;have u:=blk h.row;have t:=h.cu.1.new;obtain ⟨j,x,d,c⟩:=h.cu.1.row;have keep:∀ j o,j<b+1->wr.heap[j]?=some o->wx.heap[j]?=some o:=λj o d f=>(k.block j (blk f) (.inl d)).trans f;exact ⟨keep _ _ ab h.row,keep _ _ ab h.res,⟨⟨h.cu.1.new,h.cu.1.below.trans (k.below ab (by have:=h.cu.1.below.size;omega)),j,x,d,keep _ _ ab c⟩,k.os.trans h.cu.2.os,k.tape.trans h.cu.2.tape,k.output.trans h.cu.2.output,Nat.le_trans h.cu.2.size k.size,λq m e=>(k.block q ab (.inl ab)).trans (h.cu.2.block q m e)⟩,l,p,s⟩
structure Dx (w0:World) (g:Nat) (a:Option Addr) (n cap:Nat) (w:World) (r b:Nat) (D:DV) (a1:Option Addr) (c1:Nat) (a2:Option Addr) (c2:Nat) (wr:World):Prop where
 c:Dc w0 g a n cap w r b 30 (fM zeroD none 0 none 0) (fM D a1 c1 a2 c2) wr
 fam:bx (b+1) wr.heap.size wr (um D a1 c1 a2 c2)
theorem Dx.next {c w wr wx:World} {g:Nat} {a:Option Addr} {n cap r b:Nat} {D:DV} {a1:Option Addr} {c1:Nat} {a2:Option Addr} {c2:Nat} (h:Dx c g a n cap w r b D a1 c1 a2 c2 wr) (k:Cs c g a n cap wr wx):Dx c g a n cap w r b D a1 c1 a2 c2 wx:=by have i:=h.c.glt;have l:=h.c.rlt;exact ⟨h.c.next k,(h.fam.mono λj e f d=>k.2.block j d bh).low (Nat.le_refl _) k.2.size⟩
theorem Dx.drew {c w wr:World} {g:Nat} {a:Option Addr} {n cap r b:Nat} {D:DV} {a1:Option Addr} {c1:Nat} {a2:Option Addr} {c2:Nat} (h:Dx c g a n cap w r b D a1 c1 a2 c2 wr):Dx c g a n cap w r b D a1 c1 a2 c2 wr.drew:=⟨h.c.drew,h.fam.mono λj _ _ _=>rfl⟩
theorem Dx.cur {c w wr:World} {g:Nat} {a:Option Addr} {n cap r b:Nat} {D:DV} {a1:Option Addr} {c1:Nat} {a2:Option Addr} {c2:Nat} (h:Dx c g a n cap w r b D a1 c1 a2 c2 wr):lL c wr g a n cap:=h.c.cu.1
theorem Nf (D:DV) (a1:Option Addr) (c1:Nat) (a2:Option Addr) (c2:Nat) (zs:List Int) (f:Option Addr) (m c:Nat) (hm:zs.length=m):(fM D a1 c1 a2 c2).setIfInBounds 3 (.slice f m c)=fM ⟨D.t,D.cm,D.so,zs,D.ys,D.ir⟩ f c a2 c2:=by subst hm;rfl
theorem GM (D:DV) (a1:Option Addr) (c1:Nat) (a2:Option Addr) (c2:Nat) (zs:List Int) (f:Option Addr) (m c:Nat) (hm:zs.length=m):(fM D a1 c1 a2 c2).setIfInBounds 4 (.slice f m c)=fM ⟨D.t,D.cm,D.so,D.xs,zs,D.ir⟩ a1 c1 f c:=by subst hm;rfl
theorem Dx.cmp {c w wr:World} {g:Nat} {a:Option Addr} {n cap r b:Nat} {D:DV} {a1:Option Addr} {c1:Nat} {a2:Option Addr} {c2:Nat} (h:Dx c g a n cap w r b D a1 c1 a2 c2 wr) (x:Int):Dx c g a n cap w r b ⟨D.t,x,D.so,D.xs,D.ys,D.ir⟩ a1 c1 a2 c2 (wr.setCell ⟨b,1,none⟩ (.u x)):=
 ⟨h.c.put 1 (.u x),(h.fam.set ⟨b,1,none⟩ _ (.inl cb)).low (Nat.le_refl _) ef⟩
theorem bx.pushOut {B E:Nat} {w w':World} {a1:Option Addr} {d c1:Nat} {xs:List Int} {a2:Option Addr} {i c2:Nat} {ys:List Int} (h:bx B E w (fO a1 d c1 xs a2 i c2 ys)) (p:E<=w.heap.size) (n:w.grownBy w' (Value.slice a2 i c2).ownBlock) {f:Option Addr} {m g:Nat} {zs:List Int} (o:w'.ownsRow B 5 1 (.slice f m g) m (zs.map (Value.int .u8))) (c:(Value.slice f m g).ownBlock=(Value.slice a2 i c2).ownBlock\/(Value.slice f m g).ownBlock=some w.heap.size):bx B w'.heap.size w' (fO a1 d c1 xs f m g zs):=by
 have b:=(List.pairwise_cons.1 h.ne).1 (aF a2 i c2 ys) (List.mem_singleton.2 rfl);have j:=h.own (aF a1 d c1 xs) tk;have l:=h.hi (aF a1 d c1 xs) tk;refine ⟨λr a=>?_,λr a k e=>?_,List.pairwise_cons.2 ⟨λr a k e e2=>?_,List.pairwise_singleton _ _⟩⟩
 ·rcases List.mem_cons.1 a with rfl | a;·exact fH j (λk e=>n.block k (j.lt k e).2 (λe2=>b k e e2.symm))
  ·rw [List.mem_singleton.1 a];exact o
 ·rcases List.mem_cons.1 a with rfl|a;·have:=(j.lt k e).2;have:=n.size;omega
  ·rw [List.mem_singleton.1 a] at e;exact (o.lt k e).2
 ·rw [List.mem_singleton.1 a] at e2;rcases c with c|c;·exact b k e (c.symm.trans e2)
  ·have e3:some w.heap.size=some k:=c.symm.trans e2;cases e3;have:=l _ e;omega
theorem Dx.pushIn {m w wr:World} {g:Nat} {a:Option Addr} {n cap r b:Nat} {D:DV} {a1:Option Addr} {c1:Nat} {a2:Option Addr} {c2:Nat} (h:Dx m g a n cap w r b D a1 c1 a2 c2 wr) (hl:D.xs.length<=1048576) (y:Int) (ty:TypeId):∃ (f:Option Addr) (q:Nat) (c:World),(Builtin.append_ #[24,24] ty #[.slice a1 D.xs.length c1,.slice (some ⟨wr.heap.size,0,none⟩) 1 1]).run prog (wr.alloc (.cells #[.int .u8 y] 5))=.ok (.slice f (D.xs.length+1) q) c/\c.cell? ⟨b,3,none⟩=some (.slice a1 D.xs.length c1)/\c.frozen? ⟨b,3,none⟩=false /\ Dx m g a n cap w r b ⟨D.t,D.cm,D.so,D.xs++[y],D.ys,D.ir⟩ f q a2 c2 (c.setCell ⟨b,3,none⟩ (.slice f (D.xs.length+1) q)):=by
 have A:=blk h.c.row;have l:bx (b+1) wr.heap.size (wr.alloc (.cells #[.int .u8 y] 5)) (fO a1 D.xs.length c1 D.xs a2 D.ys.length c2 D.ys):=h.fam.below (bal _ _);have i:=l.own (aF a1 D.xs.length c1 D.xs) tk;obtain ⟨f,q,c,u,t,d,x⟩:=Cx ty (b+1) D.xs.length _ D.xs i hl ⟨wr.heap.size,0,none⟩ 1 y (uJ wr y) ia;have o:=l.pushIn ia d t x;have z:kS (b+1) c.heap.size wr c:=by have v:=d.size;rw [World.size_alloc] at v;exact ⟨d.os,d.tape,d.output,ab,λk p s=>(d.block k ia (λe=>by have:=(i.lt k e.symm).1;omega)).trans (Below.heap_alloc wr _ k p)⟩
 have j:=h.c.on z;refine ⟨f,q,c,u,(gQ j.row).2.2.2.1,gU j.row 3,?_,?_⟩;·rw [<- Nf D a1 c1 a2 c2 (D.xs++[y]) f (D.xs.length+1) q cp];exact j.put 3 _
 ·unfold um;dsimp only;rw [show (D.xs++[y]).length=D.xs.length+1 by simp];exact (o.set ⟨b,3,none⟩ _ (.inl cb)).low (Nat.le_refl _) ef
theorem Dx.pushOut {m w wr:World} {g:Nat} {a:Option Addr} {n cap r b:Nat} {D:DV} {a1:Option Addr} {c1:Nat} {a2:Option Addr} {c2:Nat} (h:Dx m g a n cap w r b D a1 c1 a2 c2 wr) (hl:D.ys.length<=1048576) (y:Int) (ty:TypeId):∃ (f:Option Addr) (q:Nat) (c:World),(Builtin.append_ #[24,24] ty #[.slice a2 D.ys.length c2,.slice (some ⟨wr.heap.size,0,none⟩) 1 1]).run prog (wr.alloc (.cells #[.int .u8 y] 5))=.ok (.slice f (D.ys.length+1) q) c/\c.cell? ⟨b,4,none⟩=some (.slice a2 D.ys.length c2)/\c.frozen? ⟨b,4,none⟩=false /\ Dx m g a n cap w r b ⟨D.t,D.cm,D.so,D.xs,D.ys++[y],D.ir⟩ a1 c1 f q (c.setCell ⟨b,4,none⟩ (.slice f (D.ys.length+1) q)):=by
 have A:=blk h.c.row;have l:bx (b+1) wr.heap.size (wr.alloc (.cells #[.int .u8 y] 5)) (fO a1 D.xs.length c1 D.xs a2 D.ys.length c2 D.ys):=h.fam.below (bal _ _);have i:=l.own (aF a2 D.ys.length c2 D.ys) tk;obtain ⟨f,q,c,u,t,d,x⟩:=Cx ty (b+1) D.ys.length _ D.ys i hl ⟨wr.heap.size,0,none⟩ 1 y (uJ wr y) ia;have o:=l.pushOut ia d t x;have z:kS (b+1) c.heap.size wr c:=by have v:=d.size;rw [World.size_alloc] at v;exact ⟨d.os,d.tape,d.output,ab,λk p s=>(d.block k ia (λe=>by have:=(i.lt k e.symm).1;omega)).trans (Below.heap_alloc wr _ k p)⟩
 have j:=h.c.on z;refine ⟨f,q,c,u,(gQ j.row).2.2.2.2.1,gU j.row 4,?_,?_⟩;·rw [<- GM D a1 c1 a2 c2 (D.ys++[y]) f (D.ys.length+1) q cp];exact j.put 4 _
 ·unfold um;dsimp only;rw [show (D.ys++[y]).length=D.ys.length+1 by simp];exact (o.set ⟨b,4,none⟩ _ (.inl cb)).low (Nat.le_refl _) ef
theorem Dx.newIn {d w wr wx:World} {g:Nat} {a:Option Addr} {n cap r b:Nat} {D:DV} {a1:Option Addr} {c1:Nat} {a2:Option Addr} {c2:Nat} (h:Dx d g a n cap w r b D a1 c1 a2 c2 wr) (f:Option Addr) (m q:Nat) (zs:List Int) (hz:zs.length=m) (i:wx.ownsRow wr.heap.size 5 1 (.slice f m q) m (zs.map (Value.int .u8))) (hb:Bw wr wx):wx.cell? ⟨b,3,none⟩=some (.slice a1 D.xs.length c1)/\wx.frozen? ⟨b,3,none⟩=false/\Dx d g a n cap w r b ⟨D.t,D.cm,D.so,zs,D.ys,D.ir⟩ f q a2 c2 (wx.setCell ⟨b,3,none⟩ (.slice f m q)):=by
 have e:=blk h.c.row;have c:=h.c.on (kS.of_below (E:=wx.heap.size) hb);refine ⟨(gQ c.row).2.2.2.1,gU c.row 3,?_,?_⟩;·rw [<- Nf D a1 c1 a2 c2 zs f m q hz];exact c.put 3 _
 ·unfold um;dsimp only;rw [hz];exact ((bx.newIn (h.fam.below hb) f m q zs _ wx.heap.size i (Nat.le_refl _) ab (Nat.le_refl _) hb.size).set ⟨b,3,none⟩ _ (.inl cb)).low (Nat.le_refl _) ef
theorem Dx.newOut {d w wr wx:World} {g:Nat} {a:Option Addr} {n cap r b:Nat} {D:DV} {a1:Option Addr} {c1:Nat} {a2:Option Addr} {c2:Nat} (h:Dx d g a n cap w r b D a1 c1 a2 c2 wr) (f:Option Addr) (m q:Nat) (zs:List Int) (hz:zs.length=m) (i:wx.ownsRow wr.heap.size 5 1 (.slice f m q) m (zs.map (Value.int .u8))) (hb:Bw wr wx):wx.cell? ⟨b,4,none⟩=some (.slice a2 D.ys.length c2)/\wx.frozen? ⟨b,4,none⟩=false/\Dx d g a n cap w r b ⟨D.t,D.cm,D.so,D.xs,zs,D.ir⟩ a1 c1 f q (wx.setCell ⟨b,4,none⟩ (.slice f m q)):=by
 have e:=blk h.c.row;have c:=h.c.on (kS.of_below (E:=wx.heap.size) hb);refine ⟨(gQ c.row).2.2.2.2.1,gU c.row 4,?_,?_⟩;·rw [<- GM D a1 c1 a2 c2 zs f m q hz];exact c.put 4 _
 ·unfold um;dsimp only;rw [hz];exact ((bx.newOut (h.fam.below hb) f m q zs _ wx.heap.size i (Nat.le_refl _) ab (Nat.le_refl _) hb.size).set ⟨b,4,none⟩ _ (.inl cb)).low (Nat.le_refl _) ef
structure kL (D:DV) (k1 k2:Nat):Prop where
 t:U D.t
 cm:U D.cm
 ir:D.ir=0\/D.ir=1
 by_:dH D
 l1:D.xs.length<=k1
 l2:D.ys.length<=k2
def Vh (y:Int):Int:=Uz.wrap y
def Qp (i:Ins):Bool:=decide (0<=i.rd/\i.rd<=31)&&decide (0<=i.a/\i.a<=31)&&decide (0<=i.b/\i.b<=31)
theorem Ng (x:Int):∃ (j:Ins) (t:Bool),lO x=.tuple #[.agg #[.i j.op,.i j.rd,.i j.a,.i j.b,.i j.imm],.bool t]/\(t=true->Be x=some j)/\(t=false->Be x=none):=by
 unfold lO;cases h:Be x with
 | none=>exact ⟨pi,false,rfl,cp,cp⟩
 | some i=>exact ⟨i,true,rfl,cp,cp⟩
theorem EY:prog.stoodInHeld 69=false:=by kernel_rfl
theorem EZ:prog.eqGuardType prog.depth 69=false:=by kernel_rfl
theorem Cy (a b c d e f b' c' g i:Int) (w:World):(binOp .neq 69 (.agg #[.i a,.i b,.i c,.i d,.i e]) (.agg #[.i f,.i b',.i c',.i g,.i i])).run prog w=.ok (.bool (!(a==f&&b==b'&&c==c'&&d==g&&e==i))) w:=by
 rw [run_neq_struct,run_equalIn_struct w 9999 _ _ _ (by rw [Program.fieldsOf,underlying69]) EY];simp only [Program.fieldsOf,underlying69];have P:∀ (k:Nat) (j l m n o v:Value),(#[j,l,m,n,o]:Array Value)[k]?=some v->∀ w,(part 2 #[j,l,m,n,o] k).run prog w=.ok v w:=by intro k j l m n o v h w;simp [part,isAgg,run_underlying underlying2,h]
 have Q:∀ (x y:Int) (w:World),(Op.equalIn 9999 2 (.i x) (.i y)).run prog w=.ok (x==y) w:=λx y w=>run_equalIn_int w 9998 2 .i64 .i64 x y underlying2;simp [Op.eqFields,Sem.run_bind,P 0 _ _ _ _ _ _ rfl,P 1 _ _ _ _ _ _ rfl,P 2 _ _ _ _ _ _ rfl,P 3 _ _ _ _ _ _ rfl,P 4 _ _ _ _ _ _ rfl,Q];by_cases p:a=f<;>by_cases q:b=b'<;>by_cases r:c=c'<;>by_cases s:d=g<;>by_cases t:e=i<;>simp [p,q,r,s,t]
theorem E5 {o:Oper} {A:Act} {w:World} {K:Act->World->Prop} {Q:Exit->Act->World->Prop} {a b c d e f b' c' g i:Int} (x y:Operand) (t:TypeId) (j:o.op=.binOp .neq 69 x y t) (hx:A.eval x=.agg #[.i a,.i b,.i c,.i d,.i e]) (hy:A.eval y=.agg #[.i f,.i b',.i c',.i g,.i i]) (nb:Bool) (hn:(!(a==f&&b==b'&&c==c'&&d==g&&e==i))=nb) (h:K (A.put o.dst (.bool nb)) w):o.wp prog A w K Q:=by subst hn;unfold Oper.wp execOp;simp only [j,hx,hy,Sem.run_bind,run_eqGuard_agg w _ _ _ _ _ _ EZ,Cy,Result.andThen_ok];exact h
theorem oD {f:Array Oper} {rest:List Oper} {o:Oper} {A:Act} {w:World} {Q:Exit->Act->World->Prop} {a b c d e g b' c' i j:Int} (l:Region.wanted o (yielded f A.tmps)=true) (x y:Operand) (t:TypeId) (k:o.op=.binOp .neq 69 x y t) (hx:A.eval x=.agg #[.i a,.i b,.i c,.i d,.i e]) (hy:A.eval y=.agg #[.i g,.i b',.i c',.i i,.i j]) (nb:Bool) (hn:(!(a==g&&b==b'&&c==c'&&d==i&&e==j))=nb) (h:wpList prog f Q rest (A.put o.dst (.bool nb)) w):wpList prog f Q (o::rest) A w:=by unfold wpList;rw [if_pos l];exact Or.inl (E5 x y t k hx hy nb hn h)
end Go.Proofs.YtjifdmoehfbihaaGreatDoor
