/- Own lemmas. -/
import Derived.Test.YtjifdmoehfbihaaGreatDoorAut
import Derived.Test.YtjifdmoehfbihaaGreatDoorK32
set_option maxRecDepth 100000
namespace Go.Proofs.YtjifdmoehfbihaaGreatDoor
open Go.RowKit Tryz
set_option linter.unusedVariables false
theorem vE (a:Option Addr) (n cap:Nat) (l:List Int) (p pc k:Int) (i:Bool) (v:Int) (w:World) (hz:l.length=n) (hs:Sl .u64 w a l) (hl:∀ j,U (l.getD j 0)):Calls prog 148 #[.slice a n cap,.i p,.u pc,.i k,.bool i,.u v] w λe A=>∃ (s:Option Addr) (c:Nat), e=.returned (.tuple #[.slice s (qI n l p pc k i v).length c,.i (Dd n l p k i),.u (De n l p k i),.bool (yh n l p k)]) /\ A.ownsRow w.heap.size 22 1 (.slice s (qI n l p pc k i v).length c) (qI n l p pc k i v).length ((qI n l p pc k i v).map (Value.int .u64))/\Bw w A:=by
 have J:=λW (hb:Bw w W)=>eI a n cap l p W hz (hs.below hb) hl
 refine cn (S:=Bs w []) (args:=[.slice a n cap,.i p,.u pc,.i k,.bool i,.u v]) [] func148 ?_
 cases y:yh n l p k with
 | false =>
   have no:∀ W,Bs w [] W->∃ (s:Option Addr) (c:Nat),Ending.returned (.tuple #[.slice none 0 0,.i 0,.u 0,.bool false])=.returned (.tuple #[.slice s (qI n l p pc k i v).length c,.i (Dd n l p k i),.u (De n l p k i),.bool false])/\W.ownsRow w.heap.size 22 1 (.slice s (qI n l p pc k i v).length c) (qI n l p pc k i v).length ((qI n l p pc k i v).map (Value.int .u64))/\Bw w W:=λW q=>by
    unfold qI Dd De
    rw [y]
    exact ⟨none,0,rfl,lW _ _,q.2⟩
   cases f:aQ n l p<;>cases d:decide (k<0)<;>cases L:decide (k>=16)<;>(
    first
    | (exfalso;revert y;unfold yh Qb;rw [f];simp at d L ⊢;omega)
    | (rw [f] at J
       exact lm Bs.eng {cv:=[(20,gB J)],eq:=[(24,au d),(28,au L)]} 60 (Bs.start w []) λW b q o=>⟨_,kG rfl _ _ _,by rw [o.slot (v:=.slice none 0 0) a3,o.slot (v:=.i 0) a3,o.slot (v:=.u 0) a3,o.slot (v:=.bool false) a3];exact no W q⟩))
 | true =>
   have Q:=y
   unfold yh Qb at Q
   rw [Bool.and_eq_true,decide_eq_true_eq] at Q
   obtain ⟨f,hk0⟩:=Q
   rw [f] at J
   obtain ⟨rfl,hp⟩:=fU f
   have d:decide (k<0)=false:=by rw [decide_eq_false_iff_not];omega
   have L:decide (k>=16)=false:=by rw [decide_eq_false_iff_not];omega
   obtain ⟨j,rfl⟩:∃ j:Nat,k=(j:Int):=⟨k.toNat,al⟩
   have V:j<16:=al
   obtain ⟨b,m,rfl,F,_⟩:=hs 0 al
   have E:∀ x,x<22->∀ W,Bw w W->W.cell? ⟨b,m+x,none⟩=some (.u (l.getD x 0)):=λx hx W q=>(q.cell (by exact F)).trans (wZ hs x al).2
   have eL:qI 22 l p pc j i v=gZ l (cK l p j i) p (fS j i) pc v:=by unfold qI;rw [y,Int.toNat_natCast]
   have eP:Dd 22 l p j i=qV (cK l p j i):=by unfold Dd;rw [y,Int.toNat_natCast]
   have eA:De 22 l p j i=dG (mZ l (cK l p j i)) j (lQ l (cK l p j i) i):=by unfold De;rw [y,Int.toNat_natCast]
   have ez:(gZ l (cK l p j i) p (fS j i) pc v).length=22:=by rw [kH,hz]
   rw [eL,eP,eA,ez]
   clear eL eP eA ez y
   have C:=λW (q:Bw w W)=>vA b m cap l p j V i W (E 1 al W q) (E 2 al W q) (hl 1) (hl 2)
   have hp3:p=0\/p=1\/p=3:=by simpa [bI,or_assoc] using hp
   have hD:cK l p j i=true->p=0\/p=1:=λe=>by
    rcases hp3 with h|h|h
    ·exact .inl h
    ·exact .inr h
    ·rw [h] at e;cases e
   generalize cK l p j i=D at C hD ⊢
   have HE:∀ W,CB 198 #[.agg (cq !D),.u (l.getD 0 0),.i p] W (.u (if D=true then kQ (l.getD 0 0) (p==1) else lH (l.getD 0 0) p)):=λW=>by
    cases D with
    | false=>exact GV _ p hp (hl 0) W
    | true =>
      rcases hD rfl with rfl|rfl
      ·exact Dm _ (hl 0) W
      ·exact Dn _ (hl 0) W
   have HC:=λW=>vy j V i W
   have fin:∀ (g:Nat) (W:World),Lq w g (!D) W->Wg prog (Lq w g !D) (bodyPost prog Tryz.f148 λe A=>∃ (s:Option Addr) (c:Nat),e=.returned (.tuple #[.slice s 22 c,.i (qV D),.u (dG (mZ l D) j (lQ l D i)),.bool true])/\A.ownsRow w.heap.size 22 1 (.slice s 22 c) 22 ((gZ l D p (fS j i) pc v).map (Value.int .u64))/\Bw w A) Tryz.f148.ntmps [.code (aG 4 (bD Tryz.f148))] [(0,.slice (some ⟨b,m,none⟩) 22 cap,0),(1,.i p,0),(2,.u pc,0),(3,.i j,0),(4,.bool i,0),(5,.u v,0),(16,.p g 0,1)] W:=λg P N=>by
    have c0:=λW (q:Lq w g (!D) W)=>E 0 al W q.bel
    have cV:∀ W,Lq w g (!D) W->W.cell? ⟨b,m+(if D=true then 10 else 4),none⟩=some (.u (mZ l D)):=λW q=>by cases D;exact E 4 al W q.bel;exact E 10 al W q.bel
    have K:=λW=>vz (mZ l D) j V i W
    have eT:gZ l D p (fS j i) pc v=(((l.set (if D=true then 13 else 7) (fS j i)).set (if D=true then 12 else 6) (bits .andNot .u64 pc 3)).set (if D=true then 14 else 8) v).set 0 (if D=true then kQ (l.getD 0 0) (p==1) else lH (l.getD 0 0) p):=by cases D<;>rfl
    rw [eT]
    clear eT
    have B:(if D=true then 13 else 7)<22/\(if D=true then 12 else 6)<22/\(if D=true then 14 else 8)<22:=by cases D<;>decide
    generalize X:(if D=true then 13 else 7)=k1 at B ⊢
    generalize Y:(if D=true then 12 else 6)=k2 at B ⊢
    generalize Z:(if D=true then 14 else 8)=k3 at B ⊢
    have eJ:dG (mZ l D) j (i&&(bits .and .u64 (mZ l D) 1==1))=dG (mZ l D) j (lQ l D i):=rfl
    rw [eJ] at K
    generalize (if D=true then kQ (l.getD 0 0) (p==1) else lH (l.getD 0 0) p)=st at HE ⊢
    generalize dG (mZ l D) j (lQ l D i)=ea at K ⊢
    generalize mZ l D=vv at K cV
    generalize fS j i=tv at HC ⊢
    obtain ⟨r,G,⟨ys,o2⟩,u⟩:=Kq P
    refine Ng (R:=[]) trivial {} 9 0 G ?_
    have q2:=N.below u
    refine cW (R:=[]) trivial {} 6 ?_
    obtain ⟨W3,H,o3,g3⟩:=Ks (cap:=cap) o2 (hs.below q2.bel) hz 3
    refine iQ 0 H ?_
    have v3:=Nx q2 (Array.getElem?_eq_some_iff.1 N.row).1 g3 o3 N.bel.size
    generalize P.heap.size=h at v3 ⊢
    clear q2 o2 u N g3 o3 G H
    cases D<;>(
     refine af Lv.eng {cv:=[(46,mt λW _=>HC W)]} 60 (dr:=true) v3 λW4 v4=>?_
     refine bM (v4.run k1 B.1 tv) (hx:=by subst X;kernel_rfl) (hS:=λ_=>(v4.put k1 tv).q) ?_
     refine af Lv.eng {eq:=[(52,ei .u64 (Oh pc))]} 60 (dr:=true) (v4.put k1 tv) λW5 v5=>?_
     refine bM (v5.run k2 B.2.1 (bits .andNot .u64 pc 3)) (hx:=by subst Y;kernel_rfl) ?_
     refine af Lv.eng {} 60 (dr:=true) (v5.put k2 (bits .andNot .u64 pc 3)) λW6 v6=>?_
     refine bM (v6.run k3 B.2.2 v) (hx:=by subst Z;kernel_rfl) ?_
     refine af Lv.eng {cv:=[(65,lq (λq k=>q.below k) λW _=>HE W)],ov:=[(63,kR ⟨b,m+0,none⟩ _ underlying22 rfl c0)]} 60 (dr:=true) (v6.put k3 v) λW7 v7=>?_
     refine bM (v7.run 0 a5 st) (hS:=λ_=>(v7.put 0 st).q) ?_
     exact lm Lv.eng {cv:=[(77,mt λW _=>K W)],ov:=[(74,kR _ _ underlying22 rfl cV)]} 99 (dr:=true) (v7.put 0 st) λW c v o=>⟨_,kG rfl _ _ _,some ⟨h,0,none⟩,22,by rw [o.slot (v:=.slice (some ⟨h,0,none⟩) 22 22) a3,o.slot (v:=.i (qV _)) a3,o.slot (v:=.u ea) a3,o.slot (v:=.bool true) a3],dp v.own (by have:=v.lo;have:=v.q.lo;omega),v.q.bel⟩)
   refine aW Bs.eng {cv:=[(20,gB J)],eq:=[(24,au d),(28,au L)]} 60 (Bs.start w []) (λW _=>jV W) ?_
   rintro P e r M ⟨rfl,u⟩
   refine ⟨_,0,rfl,gp a3,?_⟩
   refine iQ 1 (gF (T:=168) (z:=.agg rM) a3 r) ?_
   refine bM (bj (g:=r.heap.size) (t:=168) (ty:=168) (old:=rM) (cells:=cq true) (heap_alloc_new _ _) a3 rfl a3) ?_
   have O:Lq w r.heap.size true ((r.alloc (.cells (Value.agg rM).cells 168)).setRow r.heap.size (cq true)):=⟨setRow_heap _ _ _ _ _ _ (heap_alloc_new _ _),aD ((M.below u).2.alloc (M.below u).2.size _) (M.below u).2.size _,(M.below u).2.size⟩
   generalize r.heap.size=g at O ⊢
   generalize (r.alloc (.cells (Value.agg rM).cells 168)).setRow g (cq true)=W3 at O ⊢
   refine aR (Lq w g true) ?_
   have C:=λW (q:Lq w g true W)=>C W q.bel
   cases D with
   | false =>
     refine af Lq.eng {cv:=[(35,lq (λq k=>q.below k) C)]} 12 (dr:=false) O λW q=>?_
     exact aE _ _ (fin g W q)
   | true =>
     refine aW Lq.eng {cv:=[(35,lq (λq k=>q.below k) C)]} 30 (dr:=false) O (λW _=>iG W) ?_
     rintro W4 e W5 q4 ⟨rfl,b5⟩
     refine ⟨_,0,rfl,gp a3,?_⟩
     have I:=q4.below b5
     refine bM (bj (g:=g) (t:=168) (ty:=168) (old:=cq true) (cells:=cq false) I.row a3 rfl a3) ?_
     have q6:Lq w g false (W5.setRow g (cq false)):=⟨setRow_heap _ _ _ _ _ _ I.row,aD I.bel I.lo _,I.lo⟩
     refine aR (Lq w g false) ?_
     refine af Lq.eng {} 1 (dr:=false) q6 λW q=>?_
     exact aE _ _ (fin g W q)
theorem sj (a:Option Addr) (n cap:Nat) (l:List Int) (p:Int) (w:World) (hz:l.length=n) (hs:Sl .u64 w a l) (hl:∀ j,U (l.getD j 0)):CB 95 #[.slice a n cap,.i p] w (.i (sP n l p)):=by
 have k:∀ W,Bw w W->CB 68 #[.slice a n cap,.i p] W (.bool (aQ n l p)):=λW B=>eI a n cap l p W hz (hs.below B) hl
 refine cn (S:=Bs w []) (args:=[.slice a n cap,.i p]) [] func95 ?_
 cases c:aQ n l p with
 | false =>
   rw [c] at k
   exact bm (t:=4) (v:=.i (-1)) Bs.eng {cv:=[(12,gB k)]} 40 (Bs.start _ _) (λf h=>⟨by simp [sP,c],h.2⟩)
 | true =>
   rw [c] at k
   obtain ⟨rfl,o⟩:=fU c
   obtain ⟨V,g⟩:∃ V,V=sP 22 l p:=⟨_,rfl⟩
   rw [<- g]
   have F:sP 22 l p=Ey l p:=by rw [Mm l p o (hl 0)];simp [sP,c]
   rw [F] at g
   unfold Ey jC at g
   obtain ⟨b,d,rfl,i,C⟩:=hs 0 al
   have m:∀ j,j<22->∀ W,Bs w [] W->W.cell? ⟨b,d+j,none⟩=some (.u (l.getD j 0)):=λj E W h=>(h.2.cell (by exact i)).trans (wZ hs j al).2
   have q:=λx (D:U x) W (_:Bw w W)=>AX x D W
   have r:∀ W,Bw w W->CB 146 #[.agg (cq true),.u (l.getD 0 0),.i p] W (.bool (uo l p)):=λW _=>MN _ p (hl 0) W
   have s:∀ W,Bw w W->CB 146 #[.agg (cq false),.u (l.getD 0 0),.i p] W (.bool (uq l p)):=λW _=>MO _ p (hl 0) W
   cases u:decide (cO (bits .andNot .u64 (bits .and .u64 (l.getD 9 0) (l.getD 3 0)) (l.getD 2 0))>=0)<;>cases y:decide (cO (bits .and .u64 (bits .and .u64 (l.getD 9 0) (l.getD 3 0)) (l.getD 2 0))>=0)<;>cases z:uo l p<;>cases A:uq l p<;>(
    rw [z] at r
    rw [A] at s
    rw [u,y,z,A] at g
    exact bm (t:=4) (v:=.i V) Bs.eng {eq:=[(32,au u),(45,au y)],ov:=[(16,kR ⟨b,d+9,none⟩ _ underlying22 rfl (m 9 al)),(19,kR ⟨b,d+3,none⟩ _ underlying22 rfl (m 3 al)),(23,kR ⟨b,d+0,none⟩ _ underlying22 rfl (m 0 al)),(26,kR ⟨b,d+2,none⟩ _ underlying22 rfl (m 2 al))],cv:=[(12,gB k),(30,gB (q (bits .andNot .u64 (bits .and .u64 (l.getD 9 0) (l.getD 3 0)) (l.getD 2 0)) (aj _ _ _))),(34,gB λW _=>jV W),(37,gB r),(43,gB (q (bits .and .u64 (bits .and .u64 (l.getD 9 0) (l.getD 3 0)) (l.getD 2 0)) (aj _ _ _))),(47,gB λW _=>iG W),(50,gB s)]} 120 (Bs.start _ _) (hv:=by subst g;kernel_rfl) (he:=by subst g;kernel_rfl) (λf h=>⟨rfl,h.2⟩))
end Go.Proofs.YtjifdmoehfbihaaGreatDoor
