/- Own lemmas. -/
import Derived.Test.YtjifdmoehfbihaaGreatDoorK48
set_option maxRecDepth 100000
namespace Go.Proofs.YtjifdmoehfbihaaGreatDoor.fnStepped
open Go.RowKit Tryz
set_option linter.unusedVariables false
theorem any_fit {M:MV} (h:Ma M):TH M:=⟨⟨h.ucs,h.bram,h.d.by_.1,h.d.by_.2⟩,h.ux,h.pc,h.hd,h.d.t,h.d.cm⟩
theorem zero_len:j7 zeroM:=⟨by simp [zeroM],by simp [zeroM],by simp [zeroM],by simp [zeroM,zeroD],by simp [zeroM,zeroD]⟩
theorem zero_sl (W:World):sa W zeroM zeroA:=by
 have h:∀ (k:IntKind) (p:Option Addr),Sl k W p []:=fun k p j a=>absurd a (Nat.not_lt_zero j)
 exact ⟨h _ _,h _ _,h _ _,h _ _,h _ _⟩
theorem walk (J:Option Addr) (b a:Nat) (z0:List Int) (w:World) (w0:Ak .u8 w J b a z0) (hT:qV w) :
 CB 6 #[.slice J b a] w (.bool true):=by
 obtain ⟨bg,r⟩:∃ bg,decide (4096 < b)=bg:=⟨_,rfl⟩
 have l:=PV J b a w
 rw [r] at l
 refine bz (S:=fun _=>True) (args:=[.slice J b a]) [] func6 ?_
 refine aS (R:=[]) trivial {} 40 l ?_
 rintro e X ⟨rfl,rfl⟩
 refine ⟨_,0,rfl,?_⟩
 cases bg with
 | true=>exact jE (R:=[]) trivial {} 40 (t:=2) (v:=.bool true) ⟨rfl,Below.refl _ _⟩
 | false =>
   obtain ⟨zs,u⟩:=PW w0 (by have:=of_decide_eq_false r;omega)
   refine aS (R:=[]) trivial {} 40 (Fe a X u) ?_
   rintro e c ⟨M,A,rfl,y,hs,hnw,m⟩
   refine ⟨_,0,rfl,?_⟩
   refine nQ (R:=[]) trivial {} 10 1 (dW (T:=32) (z:=.agg (aq zeroM zeroA)) (by kernel_rfl) c) ?_
   refine cw (R:=[]) trivial {} 10 (aG (ty:=32) (cells:=aq M A) (heap_alloc_new c _) (by kernel_rfl) (by kernel_rfl) (eX M A)) ?_
   have H:=(Vs.new (L:=[]) (w:=X) (W:=c) ⟨fun x hx=>absurd hx (List.not_mem_nil),m⟩ (cs:=aq M A) (Value.agg (aq zeroM zeroA)).cells 32)
   have b3:=oN c (Value.agg (aq zeroM zeroA)).cells (aq M A) 32
   generalize (c.alloc (.cells (Value.agg (aq zeroM zeroA)).cells 32)).setRow c.heap.size (aq M A)=o at *
   have Q:=hs.below b3
   have n:=hT.below H.below
   have hl:=y.len
   have P:=any_fit y
   refine an (xL _) {} 1 ?_
   refine ah [.code (az 3 (aW Tryz.f6))] [(3,.p c.heap.size 0,1)] ?_
   have E:=fun W (O:Bw o W)=>zZ M A W hl (Q.below O) P (n.below O)
   have G:=fun W (O:Bw o W)=>zY M A W hl (Q.below O) P
   have told:(ey M=false∧iK M=(zeroM,0))∨(ey M=true∧ey (iK M).1=true∧j7 (iK M).1∧(∀ j,U ((iK M).1.cs.getD j 0))∧(((iK M).2=4∧(iK M).1=M)∨((iK M).2=1∧(iK M).1.pr≤M.pr)∨(((iK M).2=2∨(iK M).2=3)∧M.pr≤(iK M).1.pr∧(iK M).1.x=M.x∧(iK M).1.cs.getD 21 0=M.cs.getD 21 0∧(iK M).1.wt=false))):=by
    unfold iK
    cases ok:ey M with
    | false=>exact Or.inl ⟨rfl,if_neg (by simp)⟩
    | true =>
      rw [if_pos rfl]
      have hg:Gw M:=⟨P.gd ok,P.ud⟩
      have hn:=hg.step
      exact Or.inr ⟨rfl,hn.1.ok,hn.1.len,hn.1.mw.cs,JC hg⟩
   have g:j7 (iK M).1:=by
    rcases told with h | h
    ·rw [h.2];exact zero_len
    ·exact h.2.2.1
   generalize iK M=V at E G told g
   obtain ⟨N,k⟩:=V
   dsimp only [mQ] at E G told g
   have hkk:(k != k)=false:=by simp
   refine aH (Vs o [⟨c.heap.size,aq M A,32,[]⟩]) (aN Vs.eng {} 30 H.at (fun W h=>E W h.below) ?_)
   rintro W4 e f h4 ⟨C,rfl,fC,b5⟩
   refine ⟨_,0,rfl,gm (by kernel_rfl),?_⟩
   have V5:=(H.to h4.below).to b5
   refine nQ (xL _) {} 30 2 (dW (T:=32) (z:=.agg (aq zeroM zeroA)) (by kernel_rfl) f) ?_
   refine cw (xL _) {} 30 (aG (ty:=32) (cells:=aq N C) (heap_alloc_new f _) (by kernel_rfl) (by kernel_rfl) (eX N C)) ?_
   have Y:=V5.new (cs:=aq N C) (Value.agg (aq zeroM zeroA)).cells 32
   have b6:=oN f (Value.agg (aq zeroM zeroA)).cells (aq N C) 32
   generalize (f.alloc (.cells (Value.agg (aq zeroM zeroA)).cells 32)).setRow f.heap.size (aq N C)=I at *
   have k6:Bw o I:=aa (aa h4.below b5) b6
   have sC:=fC.msl.below b6
   refine an (xL _) {} 2 ?_
   refine ah [.code (az 4 (aW Tryz.f6))] [(3,.p c.heap.size 0,1),(4,.p f.heap.size 0,2),(5,.i k,0)] ?_
   refine aH (Vs I [⟨c.heap.size,aq M A,32,[]⟩,⟨f.heap.size,aq N C,32,[]⟩]) (aN Vs.eng {} 30 Y.at (fun W h=>G W (aa k6 h.below)) ?_)
   rintro W7 e i h7 ⟨D,rfl,fD,b8⟩
   refine ⟨_,0,rfl,gm (by kernel_rfl),?_⟩
   have V8:=(Y.to h7.below).to b8
   refine nQ (xL _) {} 30 3 (dW (T:=32) (z:=.agg (aq zeroM zeroA)) (by kernel_rfl) i) ?_
   refine cw (xL _) {} 30 (aG (ty:=32) (cells:=aq N D) (heap_alloc_new i _) (by kernel_rfl) (by kernel_rfl) (eX N D)) ?_
   have Z:=V8.new (cs:=aq N D) (Value.agg (aq zeroM zeroA)).cells 32
   have b9:=oN i (Value.agg (aq zeroM zeroA)).cells (aq N D) 32
   generalize (i.alloc (.cells (Value.agg (aq zeroM zeroA)).cells 32)).setRow i.heap.size (aq N D)=p at *
   have k9:Bw I p:=aa (aa h7.below b8) b9
   have d:=sC.below k9
   have q:=(Q.below k6).below k9
   have sD9:=fD.msl.below b9
   have hb9:=Z.below
   have P9:=Z.at
   clear H V5 Y V8 Z h4 h7 b3 b5 b6 b8 b9 E G fC fD Q sC k6 k9 n hs hnw m l u
   refine aH (Vs p [⟨c.heap.size,aq M A,32,[]⟩,⟨f.heap.size,aq N C,32,[]⟩,⟨i.heap.size,aq N D,32,[]⟩]) ?_
   refine ae Vs.eng { eq:=[(24,aj hkk)],cv:=[(28,jy Vs.to fun W h=>jO N C D W g (d.below h.below) (sD9.below h.below))] } 16 P9 fun Wa K=>?_
   refine ah [.code (az 5 (aW Tryz.f6))] [(3,.p c.heap.size 0,1),(4,.p f.heap.size 0,2),(5,.i k,0)] ?_
   have fin:∀ W,Vs p [⟨c.heap.size,aq M A,32,[]⟩,⟨f.heap.size,aq N C,32,[]⟩,⟨i.heap.size,aq N D,32,[]⟩] W→Ending.returned (.bool true)=.returned (.bool true)∧Bw X W:=fun W h=>⟨rfl,aa hb9 h.below⟩
   rcases told with ⟨_,e⟩ | ⟨hoM,B,_,hU,told⟩
   ·obtain ⟨rfl,rfl⟩:=Prod.mk.inj e
    exact aY (t:=2) (v:=.bool true) Vs.eng { cv:=[(35,jy Vs.to fun W h=>jO zeroM C zeroA W zero_len (d.below h.below) (zero_sl W))] } 60 K fin
   ·have F:=fun W (h:Vs p [⟨c.heap.size,aq M A,32,[]⟩,⟨f.heap.size,aq N C,32,[]⟩,⟨i.heap.size,aq N D,32,[]⟩] W)=>gT N C W g (d.below h.below) hU
    rw [B] at F
    rcases told with ⟨rfl,rfl⟩ | ⟨rfl,hp⟩ | ⟨hk,hp,hx,h21,hwt⟩
    ·exact aY (t:=2) (v:=.bool true) Vs.eng { cv:=[(37,jy Vs.to F),(52,jy Vs.to fun W h=>jO N C A W g (d.below h.below) (q.below h.below))] } 120 K fin
    ·have hd:decide (N.pr≤M.pr)=true:=decide_eq_true hp
     exact aY (t:=2) (v:=.bool true) Vs.eng { eq:=[(59,aj hd)],cv:=[(37,jy Vs.to F)] } 120 K fin
    ·have hd:decide (M.pr≤N.pr)=true:=decide_eq_true hp
     have hwn:(!N.wt)=true:=by rw [hwt];rfl
     obtain ⟨h22,_,_,_,_,_⟩:=ay B
     obtain ⟨hM22,_,_,_,_,_⟩:=ay hoM
     dsimp only at h22 d
     obtain ⟨b1,o1,e1,hb1,hc1⟩:=d.cs 21 (by omega)
     obtain ⟨b2,o2,e2,m,s⟩:=q.cs 21 (by omega)
     rw [← h21] at s
     have c1:∀ W,Vs p [⟨c.heap.size,aq M A,32,[]⟩,⟨f.heap.size,aq N C,32,[]⟩,⟨i.heap.size,aq N D,32,[]⟩] W→W.cell? ⟨b1,o1+21,none⟩=some (.u (N.cs.getD 21 0)):=fun W h=>(h.below.cell (by exact hb1)).trans hc1
     have c2:∀ W,Vs p [⟨c.heap.size,aq M A,32,[]⟩,⟨f.heap.size,aq N C,32,[]⟩,⟨i.heap.size,aq N D,32,[]⟩] W→W.cell? ⟨b2,o2+21,none⟩=some (.u (N.cs.getD 21 0)):=fun W h=>(h.below.cell (by exact m)).trans s
     have ee:∀ x:Int,(x==x)=true:=fun x=>by simp
     have HW:=fun W (h:Vs p [⟨c.heap.size,aq M A,32,[]⟩,⟨f.heap.size,aq N C,32,[]⟩,⟨i.heap.size,aq N D,32,[]⟩] W)=>mn C.ax A.ax N.x.length M.x.length C.cx A.cx N.x M.x W rfl rfl g.x hl.x (d.x.below h.below) (q.x.below h.below)
     have hxd:decide (N.x=M.x)=true:=decide_eq_true hx
     rw [hxd] at HW
     generalize N.cs.getD 21 0=x at *
     rcases hk with rfl | rfl
     all_goals exact aY (t:=2) (v:=.bool true) Vs.eng { eq:=[(64,aj hd),(81,aj (ee x)),(86,aj hwn)],cv:=[(37,jy Vs.to F),(70,jy Vs.to HW)],ov:=[(75,kN N.cs.length C.cc .i64 21 e1 ⟨by omega,by omega⟩ underlying23 (by kernel_rfl)),(76,iR ⟨b1,o1+(21:Int).toNat,none⟩ (.u x) underlying22 rfl c1),(79,kN M.cs.length A.cc .i64 21 e2 ⟨by omega,by omega⟩ underlying23 (by kernel_rfl)),(80,iR ⟨b2,o2+(21:Int).toNat,none⟩ (.u x) underlying22 rfl c2)] } 120 K fin
end Go.Proofs.YtjifdmoehfbihaaGreatDoor.fnStepped
