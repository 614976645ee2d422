/- Own lemmas. -/
import Derived.Test.YtjifdmoehfbihaaGreatDoorAut
import Derived.Test.YtjifdmoehfbihaaGreatDoorK34
set_option maxHeartbeats 3200000
namespace Go.Proofs.YtjifdmoehfbihaaGreatDoor
open Go.RowKit Tryz
set_option linter.unusedVariables false
theorem Nc {k:Nat} {r:Row} (h:wh k r=true):r.fm=.x->0<=r.op/\r.op<128/\0<=r.more/\r.more<4096:=by intro a;simp only [wh,a,Bool.and_eq_true,decide_eq_true_eq] at h;omega
theorem uM (x:Int) (h0:0<=x) (h1:x<18446744073709551616) (w:World):CB 78 #[.u x] w (lV x):=by
 by_cases c:x<4294967296
 ·have d1:(x/4294967296 != 0)=false:=by simp;omega
  have HH:Hid (∀ k,bW x 98 0=some k->lV x=.tuple #[(pz k x).val,.bool true]):=λk (h:bW x 98 0=some k)=>zU x k c h
  have HM:Hid (bW x 98 0=none->lV x=.tuple #[pB.val,.bool false]):=λ(h:bW x 98 0=none)=>wi x c h
  obtain ⟨V,K⟩:∃ V,V=lV x:=⟨_,rfl⟩
  rw [<- K] at HH HM ⊢
  clear K
  go_enter func78,ntmps78
  go_wp2_with fail
  refine (tw _).mono ?_
  rintro e w1 ⟨rfl,R,hb⟩
  have hsz:w.heap.size+1<w1.heap.size:=by have:=R.out.1;simp at this;omega
  have G0:Hid (w1.heap[w.heap.size]?=some (.cells #[.i 0,.i 0,.i 0,.i 0,.i 0] 69 (0,0))):=by
   show _=_
   rw [hb.block _ bc];exact pZ w
  have L:Bw w w1:=(bal _ _).trans (hb.mono bc)
  obtain ⟨g,hg⟩:∃ g,g=(w.alloc (.cells #[.i 0,.i 0,.i 0,.i 0,.i 0] 69)).heap.size:=⟨_,rfl⟩
  rw [<- hg] at R ⊢
  clear hb hg
  go_wp2_with fail
  go_loopw [5] (λi wr=>∃ k:Nat,k<=98/\i=.i k/\Hid (bW x (98-k) k=bW x 98 0)/\Hid (zn wr g) /\
   Hid (wr.heap[w.heap.size]?=some (.cells #[.i 0,.i 0,.i 0,.i 0,.i 0] 69 (0,0)))/\Bw w wr)
   (λi _=>98-(intOf i).toNat)
  case atStart=>exact ⟨0,al,rfl,(rfl:bW x (98-0) 0=bW x 98 0),R,G0,L⟩
  case round =>
   obtain ⟨k,hk,rfl,hf,B,G,M⟩:=hrel
   clear G0 L R
   by_cases l:k<98
   ·have W:=Nc (D5 k l)
    obtain ⟨r,q⟩:∃ r,r=bN k:=⟨_,rfl⟩
    obtain ⟨c0,X,c2,c3,c4⟩:=B.out.2 k l r q
    have MB:decide (fh k r.fm r.op r.f3 r.more x)=lA k x:=by rw [q];rfl
    have U:Hid (Value.agg #[.i ((k:Int)+1),.i (IK r.fm x),.i (aV r.fm x),.i (bV r.fm x),.i (mW r.fm x)]=(pz k x).val):=by
     show _=_
     rw [q];rfl
    rw [<- q] at W
    have d:=Bb k l r.name r.fm r.op r.f3 r.more x h0 c W
    rw [MB] at d
    clear q MB W
    obtain ⟨nm,f,o,z,m⟩:=r
    simp only at c0 X c2 c3 c4 U d
    obtain ⟨s,O⟩:∃ s,s=f.str:=⟨_,rfl⟩
    rw [<- O] at X d
    obtain ⟨mb,E⟩:∃ b,b=lA k x:=⟨_,rfl⟩
    rw [<- E] at d
    have LM:Hid (∀ w:World,CB 124 #[.i k,.agg #[.string nm,.string s,.u o,.i z,.u m],.u x] w (.bool mb)):=d
    have I:Hid (mb=lA k x):=E
    have HS:Hid (s=f.str):=O
    clear d E O
    go_wp2_with fail
    refine (LM.out _).mono ?_
    rintro e j ⟨rfl,t⟩
    have D:Bw wr j:=(bal _ _).trans (t.mono bc)
    have J:j.cell? ⟨wr.heap.size,1,none⟩=some (.string s):=by
     rw [t.cell bc]
     rw [cell_of_row _ _ _ _ _ _ (heap_alloc_new _ _)];rfl
    have S:j.heap[w.heap.size]?=some (.cells #[.i 0,.i 0,.i 0,.i 0,.i 0] 69 (0,0)):=iM D G.out
    have Z:Hid (zn j g):=zn.below B.out B.out.1 D
    have C:=aa M D
    have N:wr.heap.size<j.heap.size:=by have:=t.size;simp at this;omega
    have Y:∀ o,(j.alloc o).cell? ⟨wr.heap.size,1,none⟩=some (.string s):=λo=>(((Below.refl j.heap.size j).alloc (Nat.le_refl _) o).cell (p:=⟨wr.heap.size,1,none⟩) N).trans J
    have H:∀ o,(j.alloc o).heap[w.heap.size]?=some (.cells #[.i 0,.i 0,.i 0,.i 0,.i 0] 69 (0,0)):=λo=>iM ((Below.refl j.heap.size j).alloc (Nat.le_refl _) o) S
    have u:Hid (∀ o,(j.alloc o).heap[w.heap.size]?=some (.cells #[.i 0,.i 0,.i 0,.i 0,.i 0] 69 (0,0))):=H
    have T:Hid (j.heap[w.heap.size]?=some (.cells #[.i 0,.i 0,.i 0,.i 0,.i 0] 69 (0,0))):=S
    clear S H
    clear t LM c0 X c2 c3 c4
    cases mb with
    | true =>
      have F:Hid (V=.tuple #[(pz k x).val,.bool true]):=HH.out k (hf.out.symm.trans (rz x k l I.out.symm))
      have A7:bits .and .u64 (x/128) 31=x/128%32:=cj (x/128) 5 al al a5
      have A15:bits .and .u64 (x/32768) 31=x/32768%32:=cj (x/32768) 5 al al a5
      have A20:bits .and .u64 (x/1048576) 31=x/1048576%32:=cj (x/1048576) 5 al al a5
      have O:=HS.out
      subst O
      have A:=G4 f x h0 c
      obtain ⟨y4,P⟩:∃ y,y=mW f x:=⟨_,rfl⟩
      rw [<- P] at A U
      have LI:Hid (∀ w:World,CE 125 #[.string f.str,.u x] w (.i y4)):=A
      clear A P HS
      cases f
      all_goals (
       simp only [Fm.str] at J Y LI ⊢
       go_wp2_with fail
       refine (LI.out _).mono ?_
       rintro e w3 ⟨rfl,hw3⟩
       have hw4:=hw3.symm
       subst hw4
       go_wp2_with (refine wpList_store_rowTo rfl 69 (.tmp 2) (.tmp 82) rfl rfl w.heap.size _ rfl rfl 69 _ (u.out _) fl rfl (nN _ _ _ _ _) ?_)
       refine bodyPost_ret (fW results78 _ _ _ _ _ _ _ rfl (setRow_heap _ _ _ _ _ _ (u.out _)) underlying69 rfl fl) rfl ⟨?_,?_⟩
       ·rw [F.out,<- U.out];rfl
       ·exact aD (C.alloc C.size _) (Nat.le_refl _) _)
    | false =>
      have F:Hid (bW x (98-(k+1)) (k+1)=bW x 98 0):=(pA x k l I.out.symm).symm.trans hf.out
      go_wp2_with fail
      go_roundw
      case rel=>exact ⟨k+1,al,by go_num,F,Z,T,C⟩
      case measure=>simp [intOf];omega
   ·have hk2:k=98:=by omega
    subst hk2
    have F:Hid (V=.tuple #[pB.val,.bool false]):=HM.out hf.out.symm
    have G3:=G.out
    go_wp2_with (refine wpList_store_rowTo rfl 69 (.tmp 2) (.tmp 83) rfl rfl w.heap.size #[.i 0,.i 0,.i 0,.i 0,.i 0] rfl rfl 69 _ G3 fl rfl (nN _ _ _ _ _) ?_)
    refine bodyPost_ret (fW results78 _ _ _ _ _ _ _ rfl (setRow_heap _ _ _ _ _ _ G3) underlying69 rfl fl) rfl ⟨?_,?_⟩
    ·rw [F.out];rfl
    ·exact aD M (Nat.le_refl _) _
 ·have d1:(x/4294967296 != 0)=true:=by simp;omega
  have F:Hid (lV x=.tuple #[pB.val,.bool false]):=zT x c
  obtain ⟨V,K⟩:∃ V,V=lV x:=⟨_,rfl⟩
  rw [<- K] at F ⊢
  clear K
  go_enter func78,ntmps78
  go_wp2_with fail
  refine bodyPost_ret (fW results78 _ _ _ _ _ _ _ rfl (pZ w) underlying69 rfl fl) rfl ⟨?_,?_⟩
  ·rw [F.out];rfl
  ·exact bal _ _
end Go.Proofs.YtjifdmoehfbihaaGreatDoor
