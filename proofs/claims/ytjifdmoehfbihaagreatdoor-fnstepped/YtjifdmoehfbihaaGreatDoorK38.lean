/- Own lemmas. -/
import Derived.Test.YtjifdmoehfbihaaGreatDoorAut
import Derived.Test.YtjifdmoehfbihaaGreatDoorK32
set_option maxRecDepth 100000
namespace Go.Proofs.YtjifdmoehfbihaaGreatDoor
open Go.RowKit Tryz
set_option linter.unusedVariables false
theorem xm (a:Option Addr) (n cap:Nat) (l:List Int) (p pc k:Int) (i:Bool) (v:Int) (w:World) (hz:l.length=n) (hs:Sl .u64 w a l) (hl:∀ j,U (l.getD j 0)):Calls prog 148 #[.slice a n cap,.i p,.u pc,.i k,.bool i,.u v] w λe A=>∃ (s:Option Addr) (c:Nat), e=.returned (.tuple #[.slice s (rK n l p pc k i v).length c,.i (Ex n l p k i),.u (Ey n l p k i),.bool (zy n l p k)]) /\ A.ownsRow w.heap.size 22 1 (.slice s (rK n l p pc k i v).length c) (rK n l p pc k i v).length ((rK n l p pc k i v).map (Value.int .u64))/\Bw w A:=by
 have J:=λW (hb:Bw w W)=>fh a n cap l p W hz (hs.below hb) hl
 refine bz (S:=Bs w []) (args:=[.slice a n cap,.i p,.u pc,.i k,.bool i,.u v]) [] func148 ?_
 cases y:zy n l p k with
 | false =>
   have no:∀ W,Bs w [] W->∃ (s:Option Addr) (c:Nat),Ending.returned (.tuple #[.slice none 0 0,.i 0,.u 0,.bool false])=.returned (.tuple #[.slice s (rK n l p pc k i v).length c,.i (Ex n l p k i),.u (Ey n l p k i),.bool false])/\W.ownsRow w.heap.size 22 1 (.slice s (rK n l p pc k i v).length c) (rK n l p pc k i v).length ((rK n l p pc k i v).map (Value.int .u64))/\Bw w W:=λW q=>by
    unfold rK Ex Ey
    rw [y]
    exact ⟨none,0,rfl,qy _ _,q.2⟩
   cases f:aX n l p<;>cases d:decide (k<0)<;>cases L:decide (k>=16)<;>(
    first
    | (exfalso;revert y;unfold zy TS;rw [f];simp at d L ⊢;omega)
    | (rw [f] at J
       exact kV Bs.eng {cv:=[(20,fW J)],eq:=[(24,aj d),(28,aj L)]} 60 (Bs.start w []) λW b q o=>⟨_,lB rfl _ _ _,by rw [o.slot (v:=.slice none 0 0) al,o.slot (v:=.i 0) al,o.slot (v:=.u 0) al,o.slot (v:=.bool false) al];exact no W q⟩))
 | true =>
   have Q:=y
   unfold zy TS at Q
   rw [Bool.and_eq_true,decide_eq_true_eq] at Q
   obtain ⟨f,hk0⟩:=Q
   rw [f] at J
   obtain ⟨rfl,hp⟩:=gu f
   have d:decide (k<0)=false:=by rw [decide_eq_false_iff_not];omega
   have L:decide (k>=16)=false:=by rw [decide_eq_false_iff_not];omega
   obtain ⟨j,rfl⟩:∃ j:Nat,k=(j:Int):=⟨k.toNat,ab⟩
   have V:j<16:=ab
   obtain ⟨b,m,rfl,F,_⟩:=hs 0 ab
   have E:∀ x,x<22->∀ W,Bw w W->W.cell? ⟨b,m+x,none⟩=some (.u (l.getD x 0)):=λx hx W q=>(q.cell (by exact F)).trans (yq hs x ab).2
   have eL:rK 22 l p pc j i v=gW l (cE l p j i) p (gq j i) pc v:=by unfold rK;rw [y,Int.toNat_natCast]
   have eP:Ex 22 l p j i=pH (cE l p j i):=by unfold Ex;rw [y,Int.toNat_natCast]
   have eA:Ey 22 l p j i=dO (nG l (cE l p j i)) j (mz l (cE l p j i) i):=by unfold Ey;rw [y,Int.toNat_natCast]
   have ez:(gW l (cE l p j i) p (gq j i) pc v).length=22:=by rw [lC,hz]
   rw [eL,eP,eA,ez]
   clear eL eP eA ez y
   have C:=λW (q:Bw w W)=>xi b m cap l p j V i W (E 1 ab W q) (E 2 ab W q) (hl 1) (hl 2)
   have hp3:p=0\/p=1\/p=3:=by simpa [bC,or_assoc] using hp
   have hD:cE l p j i=true->p=0\/p=1:=λe=>by
    rcases hp3 with h|h|h
    ·exact .inl h
    ·exact .inr h
    ·rw [h] at e;cases e
   generalize cE l p j i=D at C hD ⊢
   have HE:∀ W,CB 198 #[.agg (cD !D),.u (l.getD 0 0),.i p] W (.u (if D=true then kR (l.getD 0 0) (p==1) else lP (l.getD 0 0) p)):=λW=>by
    cases D with
    | false=>exact Js _ p hp (hl 0) W
    | true =>
      rcases hD rfl with rfl|rfl
      ·exact EH _ (hl 0) W
      ·exact EI _ (hl 0) W
   have HC:=λW=>xg j V i W
   have fin:∀ (g:Nat) (W:World),Lq w g (!D) W->Wg prog (Lq w g !D) (bodyPost prog Tryz.f148 λe A=>∃ (s:Option Addr) (c:Nat),e=.returned (.tuple #[.slice s 22 c,.i (pH D),.u (dO (nG l D) j (mz l D i)),.bool true])/\A.ownsRow w.heap.size 22 1 (.slice s 22 c) 22 ((gW l D p (gq j i) pc v).map (Value.int .u64))/\Bw w A) Tryz.f148.ntmps [.code (az 4 (aW Tryz.f148))] [(0,.slice (some ⟨b,m,none⟩) 22 cap,0),(1,.i p,0),(2,.u pc,0),(3,.i j,0),(4,.bool i,0),(5,.u v,0),(16,.p g 0,1)] W:=λg P N=>by
    have c0:=λW (q:Lq w g (!D) W)=>E 0 ab W q.bel
    have cV:∀ W,Lq w g (!D) W->W.cell? ⟨b,m+(if D=true then 10 else 4),none⟩=some (.u (nG l D)):=λW q=>by cases D;exact E 4 ab W q.bel;exact E 10 ab W q.bel
    have K:=λW=>xh (nG l D) j V i W
    have eT:gW l D p (gq j i) pc v=(((l.set (if D=true then 13 else 7) (gq j i)).set (if D=true then 12 else 6) (bits .andNot .u64 pc 3)).set (if D=true then 14 else 8) v).set 0 (if D=true then kR (l.getD 0 0) (p==1) else lP (l.getD 0 0) p):=by cases D<;>rfl
    rw [eT]
    clear eT
    have B:(if D=true then 13 else 7)<22/\(if D=true then 12 else 6)<22/\(if D=true then 14 else 8)<22:=by cases D<;>decide
    generalize X:(if D=true then 13 else 7)=k1 at B ⊢
    generalize Y:(if D=true then 12 else 6)=k2 at B ⊢
    generalize Z:(if D=true then 14 else 8)=k3 at B ⊢
    have eJ:dO (nG l D) j (i&&(bits .and .u64 (nG l D) 1==1))=dO (nG l D) j (mz l D i):=rfl
    rw [eJ] at K
    generalize (if D=true then kR (l.getD 0 0) (p==1) else lP (l.getD 0 0) p)=st at HE ⊢
    generalize dO (nG l D) j (mz l D i)=ea at K ⊢
    generalize nG l D=vv at K cV
    generalize gq j i=tv at HC ⊢
    obtain ⟨r,G,⟨ys,o2⟩,u⟩:=Mw P
    refine nQ (R:=[]) trivial {} 9 0 G ?_
    have q2:=N.below u
    refine an (R:=[]) trivial {} 6 ?_
    obtain ⟨W3,H,o3,g3⟩:=Mx (cap:=cap) o2 (hs.below q2.bel) hz 3
    refine dU 0 H ?_
    have v3:=Qn q2 (Array.getElem?_eq_some_iff.1 N.row).1 g3 o3 N.bel.size
    generalize P.heap.size=h at v3 ⊢
    clear q2 o2 u N g3 o3 G H
    cases D<;>(
     refine ae Lv.eng {cv:=[(46,jS λW _=>HC W)]} 60 (dr:=true) v3 λW4 v4=>?_
     refine bJ (v4.run k1 B.1 tv) (hx:=by subst X;kernel_rfl) (hS:=λ_=>(v4.put k1 tv).q) ?_
     refine ae Lv.eng {eq:=[(52,dI .u64 (Rd pc))]} 60 (dr:=true) (v4.put k1 tv) λW5 v5=>?_
     refine bJ (v5.run k2 B.2.1 (bits .andNot .u64 pc 3)) (hx:=by subst Y;kernel_rfl) ?_
     refine ae Lv.eng {} 60 (dr:=true) (v5.put k2 (bits .andNot .u64 pc 3)) λW6 v6=>?_
     refine bJ (v6.run k3 B.2.2 v) (hx:=by subst Z;kernel_rfl) ?_
     refine ae Lv.eng {cv:=[(65,jy (λq k=>q.below k) λW _=>HE W)],ov:=[(63,iR ⟨b,m+0,none⟩ _ underlying22 rfl c0)]} 60 (dr:=true) (v6.put k3 v) λW7 v7=>?_
     refine bJ (v7.run 0 bb st) (hS:=λ_=>(v7.put 0 st).q) ?_
     exact kV Lv.eng {cv:=[(77,jS λW _=>K W)],ov:=[(74,iR _ _ underlying22 rfl cV)]} 99 (dr:=true) (v7.put 0 st) λW c v o=>⟨_,lB rfl _ _ _,some ⟨h,0,none⟩,22,by rw [o.slot (v:=.slice (some ⟨h,0,none⟩) 22 22) al,o.slot (v:=.i (pH _)) al,o.slot (v:=.u ea) al,o.slot (v:=.bool true) al],cN v.own (by have:=v.lo;have:=v.q.lo;omega),v.q.bel⟩)
   refine aN Bs.eng {cv:=[(20,fW J)],eq:=[(24,aj d),(28,aj L)]} 60 (Bs.start w []) (λW _=>kz W) ?_
   rintro P e r M ⟨rfl,u⟩
   refine ⟨_,0,rfl,gm al,?_⟩
   refine dU 1 (dW (T:=168) (z:=.agg sS) al r) ?_
   refine bJ (aG (g:=r.heap.size) (t:=168) (ty:=168) (old:=sS) (cells:=cD true) (heap_alloc_new _ _) al rfl al) ?_
   have O:Lq w r.heap.size true ((r.alloc (.cells (Value.agg sS).cells 168)).setRow r.heap.size (cD true)):=⟨setRow_heap _ _ _ _ _ _ (heap_alloc_new _ _),aE ((M.below u).2.alloc (M.below u).2.size _) (M.below u).2.size _,(M.below u).2.size⟩
   generalize r.heap.size=g at O ⊢
   generalize (r.alloc (.cells (Value.agg sS).cells 168)).setRow g (cD true)=W3 at O ⊢
   refine aH (Lq w g true) ?_
   have C:=λW (q:Lq w g true W)=>C W q.bel
   cases D with
   | false =>
     refine ae Lq.eng {cv:=[(35,jy (λq k=>q.below k) C)]} 12 (dr:=false) O λW q=>?_
     exact ah _ _ (fin g W q)
   | true =>
     refine aN Lq.eng {cv:=[(35,jy (λq k=>q.below k) C)]} 30 (dr:=false) O (λW _=>iV W) ?_
     rintro W4 e W5 q4 ⟨rfl,b5⟩
     refine ⟨_,0,rfl,gm al,?_⟩
     have I:=q4.below b5
     refine bJ (aG (g:=g) (t:=168) (ty:=168) (old:=cD true) (cells:=cD false) I.row al rfl al) ?_
     have q6:Lq w g false (W5.setRow g (cD false)):=⟨setRow_heap _ _ _ _ _ _ I.row,aE I.bel I.lo _,I.lo⟩
     refine aH (Lq w g false) ?_
     refine ae Lq.eng {} 1 (dr:=false) q6 λW q=>?_
     exact ah _ _ (fin g W q)
theorem tE (a:Option Addr) (n cap:Nat) (l:List Int) (p:Int) (w:World) (hz:l.length=n) (hs:Sl .u64 w a l) (hl:∀ j,U (l.getD j 0)):CB 95 #[.slice a n cap,.i p] w (.i (uf n l p)):=by
 have k:∀ W,Bw w W->CB 68 #[.slice a n cap,.i p] W (.bool (aX n l p)):=λW B=>fh a n cap l p W hz (hs.below B) hl
 refine bz (S:=Bs w []) (args:=[.slice a n cap,.i p]) [] func95 ?_
 cases c:aX n l p with
 | false =>
   rw [c] at k
   exact aY (t:=4) (v:=.i (-1)) Bs.eng {cv:=[(12,fW k)]} 40 (Bs.start _ _) (λf h=>⟨by simp [uf,c],h.2⟩)
 | true =>
   rw [c] at k
   obtain ⟨rfl,o⟩:=gu c
   obtain ⟨V,g⟩:∃ V,V=uf 22 l p:=⟨_,rfl⟩
   rw [<- g]
   have F:uf 22 l p=Gt l p:=by rw [OV l p o (hl 0)];simp [uf,c]
   rw [F] at g
   unfold Gt j4 at g
   obtain ⟨b,d,rfl,i,C⟩:=hs 0 ab
   have m:∀ j,j<22->∀ W,Bs w [] W->W.cell? ⟨b,d+j,none⟩=some (.u (l.getD j 0)):=λj E W h=>(h.2.cell (by exact i)).trans (yq hs j ab).2
   have q:=λx (D:U x) W (_:Bw w W)=>Cl x D W
   have r:∀ W,Bw w W->CB 146 #[.agg (cD true),.u (l.getD 0 0),.i p] W (.bool (vE l p)):=λW _=>Pl _ p (hl 0) W
   have s:∀ W,Bw w W->CB 146 #[.agg (cD false),.u (l.getD 0 0),.i p] W (.bool (vF l p)):=λW _=>Pm _ p (hl 0) W
   cases u:decide (dc (bits .andNot .u64 (bits .and .u64 (l.getD 9 0) (l.getD 3 0)) (l.getD 2 0))>=0)<;>cases y:decide (dc (bits .and .u64 (bits .and .u64 (l.getD 9 0) (l.getD 3 0)) (l.getD 2 0))>=0)<;>cases z:vE l p<;>cases A:vF l p<;>(
    rw [z] at r
    rw [A] at s
    rw [u,y,z,A] at g
    exact aY (t:=4) (v:=.i V) Bs.eng {eq:=[(32,aj u),(45,aj y)],ov:=[(16,iR ⟨b,d+9,none⟩ _ underlying22 rfl (m 9 ab)),(19,iR ⟨b,d+3,none⟩ _ underlying22 rfl (m 3 ab)),(23,iR ⟨b,d+0,none⟩ _ underlying22 rfl (m 0 ab)),(26,iR ⟨b,d+2,none⟩ _ underlying22 rfl (m 2 ab))],cv:=[(12,fW k),(30,fW (q (bits .andNot .u64 (bits .and .u64 (l.getD 9 0) (l.getD 3 0)) (l.getD 2 0)) (af _ _ _))),(34,fW λW _=>kz W),(37,fW r),(43,fW (q (bits .and .u64 (bits .and .u64 (l.getD 9 0) (l.getD 3 0)) (l.getD 2 0)) (af _ _ _))),(47,fW λW _=>iV W),(50,fW s)]} 120 (Bs.start _ _) (hv:=by subst g;kernel_rfl) (he:=by subst g;kernel_rfl) (λf h=>⟨rfl,h.2⟩))
end Go.Proofs.YtjifdmoehfbihaaGreatDoor
