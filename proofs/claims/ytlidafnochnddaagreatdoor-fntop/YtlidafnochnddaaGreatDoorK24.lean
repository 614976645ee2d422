/- Own lemmas. -/
import Derived.Test.YtlidafnochnddaaGreatDoorAut
import Derived.Test.YtlidafnochnddaaGreatDoorK22
set_option maxRecDepth 100000
set_option maxHeartbeats 6400000
namespace Go.Proofs.YtlidafnochnddaaGreatDoor
open Go.RowKit Tryz
open Go renaming heap_alloc_new->F0,bits->F3,World->G3,setRow_heap->H1
open Int renaming toNat_natCast->A0
open Value renaming int->A5,agg->A6
set_option linter.unusedVariables false
variable (w:Option Addr)
theorem wD (n cap:Nat) (l:List Int) (p pc k:Int) (i:Bool) (v:Int) (a:G3) (hz:l.length=n) (N:Sl .u64 a w l) (hl:∀ j,U (l.getD j 0)): Calls prog 167 #[.slice w n cap,.i p,.u pc,.i k,.bool i,.u v] a λe A=>∃ (s:Option Addr) (c:Nat), e=.returned (.tuple #[.slice s (rm n l p pc k i v).length c,.i (Dm n l p k i),.u (Dn n l p k i),.bool (yU n l p k)]) /\ A.ownsRow a.heap.size 32 1 (.slice s (rm n l p pc k i v).length c) (rm n l p pc k i v).length ((rm n l p pc k i v).map (A5 .u64))/\Bw a A:=by
 have J:=λW (hb:Bw a W)=>d9 w n cap l p W hz (N.below hb) hl
 refine cF (S:=Bs a []) (args:=[.slice w n cap,.i p,.u pc,.i k,.bool i,.u v]) [] func167 ?_
 cases y:yU n l p k with
 | false =>
   have no:∀ W,Bs a [] W->∃ (s:Option Addr) (c:Nat),Ending.returned (.tuple #[.slice none 0 0,.i 0,.u 0,.bool false])=.returned (.tuple #[.slice s (rm n l p pc k i v).length c,.i (Dm n l p k i),.u (Dn n l p k i),.bool false])/\W.ownsRow a.heap.size 32 1 (.slice s (rm n l p pc k i v).length c) (rm n l p pc k i v).length ((rm n l p pc k i v).map (A5 .u64))/\Bw a W:=λW q=>by
    unfold rm Dm Dn
    rw [y]
    exact ⟨none,0,rfl,qm _ _,q.2⟩
   cases f:aQ n l p<;>cases d:decide (k<0)<;>cases L:decide (k>=16)<;>(
    first
    | (exfalso;revert y;unfold yU Sn;rw [f];simp at d L ⊢;omega)
    | (rw [f] at J
       exact lu Bs.eng {cv:=[(20,fu J)],eq:=[(24,aD d),(28,aD L)]} 60 (Bs.start a []) λW b q o=>⟨_,kJ rfl _ _ _,by rw [o.slot (v:=.slice none 0 0) ab,o.slot (v:=.i 0) ab,o.slot (v:=.u 0) ab,o.slot (v:=.bool false) ab];exact no W q⟩))
 | true =>
   have V:=y
   unfold yU Sn at V
   rw [Bool.and_eq_true,JZ6] at V
   obtain ⟨f,hk0⟩:=V
   rw [f] at J
   obtain ⟨rfl,hp⟩:=fj f
   have d:decide (k<0)=false:=by rw [JZ7];omega
   have L:decide (k>=16)=false:=by rw [JZ7];omega
   obtain ⟨j,rfl⟩:∃ j:Nat,k=(j:Int):=⟨k.toNat,aa⟩
   have X:j<16:=aa
   obtain ⟨b,m,rfl,F,_⟩:=N 0 aa
   have E:∀ x,x<22->∀ W,Bw a W->W.cell? ⟨b,m+x,none⟩=some (.u (l.getD x 0)):=λx hx W q=>(q.cell (by exact F)).trans (E7 N x aa).2
   have eL:rm 22 l p pc j i v=iQ l (dj l p j i) p (gE j i) pc v:=by unfold rm;rw [y,A0]
   have eP:Dm 22 l p j i=tD (dj l p j i):=by unfold Dm;rw [y,A0]
   have eA:Dn 22 l p j i=ew (pC l (dj l p j i)) j (wZ l (dj l p j i) i):=by unfold Dn;rw [y,A0]
   have ez:(iQ l (dj l p j i) p (gE j i) pc v).length=22:=by rw [uP,hz]
   rw [eL,eP,eA,ez]
   clear eL eP eA ez y
   have C:=λW (q:Bw a W)=>wB b m cap l p j X i W (E 1 aa W q) (E 2 aa W q) (hl 1) (hl 2)
   have hp3:p=0\/p=1\/p=3:=by simpa [di,or_assoc] using hp
   have hD:dj l p j i->p=0\/p=1:=λe=>by
    rcases hp3 with h|h|h
    ·exact .inl h
    ·exact .inr h
    ·rw [h] at e;cases e
   generalize dj l p j i=D at C hD ⊢
   have HE:∀ W,CB 195 #[.agg (bK !D),.u (l.getD 0 0),.i p] W (.u (if D=true then lI (l.getD 0 0) (p==1) else mW (l.getD 0 0) p)):=λW=>by
    cases D with
    | false=>exact Hs _ p hp (hl 0) W
    | true =>
      rcases hD rfl with rfl|rfl
      ·exact DK _ (hl 0) W
      ·exact DL _ (hl 0) W
   have HC:=λW=>wz j X i W
   have fin:∀ (g:Nat) (W:G3),Lq a g (!D) W->Wg prog (Lq a g !D) (bodyPost prog Tryz.f167 λe A=>∃ (s:Option Addr) (c:Nat),e=.returned (.tuple #[.slice s 22 c,.i (tD D),.u (ew (pC l D) j (wZ l D i)),.bool true])/\A.ownsRow a.heap.size 32 1 (.slice s 22 c) 22 ((iQ l D p (gE j i) pc v).map (A5 .u64))/\Bw a A) Tryz.f167.ntmps [.code (cQ 4 (bI Tryz.f167))] [(0,.slice (some ⟨b,m,none⟩) 22 cap,0),(1,.i p,0),(2,.u pc,0),(3,.i j,0),(4,.bool i,0),(5,.u v,0),(16,.p g 0,1)] W:=λg Q O=>by
    have c0:=λW (q:Lq a g (!D) W)=>E 0 aa W q.bel
    have cV:∀ W,Lq a g (!D) W->W.cell? ⟨b,m+(if D=true then 10 else 4),none⟩=some (.u (pC l D)):=λW q=>by cases D;exact E 4 aa W q.bel;exact E 10 aa W q.bel
    have K:=λW=>wA (pC l D) j X i W
    have eT:iQ l D p (gE j i) pc v=(((l.set (if D=true then 13 else 7) (gE j i)).set (if D=true then 12 else 6) (F3 .andNot .u64 pc 3)).set (if D=true then 14 else 8) v).set 0 (if D=true then lI (l.getD 0 0) (p==1) else mW (l.getD 0 0) p):=by cases D<;>rfl
    rw [eT]
    clear eT
    have B:(if D=true then 13 else 7)<22/\(if D=true then 12 else 6)<22/\(if D=true then 14 else 8)<22:=by cases D<;>decide
    generalize Y:(if D=true then 13 else 7)=k1 at B ⊢
    generalize Z:(if D=true then 12 else 6)=k2 at B ⊢
    generalize hk3:(if D=true then 14 else 8)=k3 at B ⊢
    have eJ:ew (pC l D) j (i&&(F3 .and .u64 (pC l D) 1==1))=ew (pC l D) j (wZ l D i):=rfl
    rw [eJ] at K
    generalize (if D=true then lI (l.getD 0 0) (p==1) else mW (l.getD 0 0) p)=st at HE ⊢
    generalize ew (pC l D) j (wZ l D i)=ea at K ⊢
    generalize pC l D=vv at K cV
    generalize gE j i=tv at HC ⊢
    obtain ⟨r,G,⟨ys,o2⟩,u⟩:=Ld Q
    refine eU (R:=[]) trivial {} 9 0 G ?_
    have q2:=O.below u
    refine aO (R:=[]) trivial {} 6 ?_
    obtain ⟨W3,H,o3,g3⟩:=Le (cap:=cap) o2 (N.below q2.bel) hz 3
    refine eH 0 H ?_
    have v3:=OT q2 (Array.getElem?_eq_some_iff.1 O.row).1 g3 o3 O.bel.size
    generalize Q.heap.size=h at v3 ⊢
    clear q2 o2 u O g3 o3 G H
    cases D<;>(
     refine ak Lv.eng {cv:=[(46,Ek λW _=>HC W)]} 60 (dr:=true) v3 λW4 v4=>?_
     refine cP (v4.run k1 B.1 tv) (hx:=by subst Y;kernel_rfl) (hS:=λ_=>(v4.put k1 tv).q) ?_
     refine ak Lv.eng {eq:=[(52,ed .u64 (PW pc))]} 60 (dr:=true) (v4.put k1 tv) λW5 v5=>?_
     refine cP (v5.run k2 B.2.1 (F3 .andNot .u64 pc 3)) (hx:=by subst Z;kernel_rfl) ?_
     refine ak Lv.eng {} 60 (dr:=true) (v5.put k2 (F3 .andNot .u64 pc 3)) λW6 v6=>?_
     refine cP (v6.run k3 B.2.2 v) (hx:=by subst hk3;kernel_rfl) ?_
     refine ak Lv.eng {cv:=[(65,jF (λq k=>q.below k) λW _=>HE W)],ov:=[(63,lw ⟨b,m+0,none⟩ _ underlying32 rfl c0)]} 60 (dr:=true) (v6.put k3 v) λW7 v7=>?_
     refine cP (v7.run 0 ba st) (hS:=λ_=>(v7.put 0 st).q) ?_
     exact lu Lv.eng {cv:=[(77,Ek λW _=>K W)],ov:=[(74,lw _ _ underlying32 rfl cV)]} 99 (dr:=true) (v7.put 0 st) λW c v o=>⟨_,kJ rfl _ _ _,some ⟨h,0,none⟩,22,by rw [o.slot (v:=.slice (some ⟨h,0,none⟩) 22 22) ab,o.slot (v:=.i (tD _)) ab,o.slot (v:=.u ea) ab,o.slot (v:=.bool true) ab],cS v.own (by have:=v.lo;have:=v.q.lo;omega),v.q.bel⟩)
   refine bF Bs.eng {cv:=[(20,fu J)],eq:=[(24,aD d),(28,aD L)]} 60 (Bs.start a []) (λW _=>jS W) ?_
   rintro Q e r M ⟨rfl,u⟩
   refine ⟨_,0,rfl,jw ab,?_⟩
   refine eH 1 (dV (T:=255) (z:=.agg sD) ab r) ?_
   refine cP (aF (g:=r.heap.size) (t:=255) (ty:=255) (old:=sD) (cells:=bK true) (F0 _ _) ab rfl ab) ?_
   have P:Lq a r.heap.size true ((r.alloc (.cells (A6 sD).cells 255)).setRow r.heap.size (bK true)):=⟨H1 _ _ _ _ _ _ (F0 _ _),ay ((M.below u).2.alloc (M.below u).2.size _) (M.below u).2.size _,(M.below u).2.size⟩
   generalize r.heap.size=g at P ⊢
   generalize (r.alloc (.cells (A6 sD).cells 255)).setRow g (bK true)=W3 at P ⊢
   refine bO (Lq a g true) ?_
   have C:=λW (q:Lq a g true W)=>C W q.bel
   cases D with
   | false =>
     refine ak Lq.eng {cv:=[(35,jF (λq k=>q.below k) C)]} 12 (dr:=false) P λW q=>?_
     exact aH _ _ (fin g W q)
   | true =>
     refine bF Lq.eng {cv:=[(35,jF (λq k=>q.below k) C)]} 30 (dr:=false) P (λW _=>hZ W) ?_
     rintro W4 e W5 q4 ⟨rfl,b5⟩
     refine ⟨_,0,rfl,jw ab,?_⟩
     have I:=q4.below b5
     refine cP (aF (g:=g) (t:=255) (ty:=255) (old:=bK true) (cells:=bK false) I.row ab rfl ab) ?_
     have q6:Lq a g false (W5.setRow g (bK false)):=⟨H1 _ _ _ _ _ _ I.row,ay I.bel I.lo _,I.lo⟩
     refine bO (Lq a g false) ?_
     refine ak Lq.eng {} 1 (dr:=false) q6 λW q=>?_
     exact aH _ _ (fin g W q)
theorem sS (n cap:Nat) (l:List Int) (p:Int) (a:G3) (hz:l.length=n) (q:Sl .u64 a w l) (hl:∀ j,U (l.getD j 0)): CB 151 #[.slice w n cap,.i p] a (.i (tK n l p)):=by
 have k:∀ W,Bw a W->CB 75 #[.slice w n cap,.i p] W (.bool (aQ n l p)):=λW C=>d9 w n cap l p W hz (q.below C) hl
 refine cF (S:=Bs a []) (args:=[.slice w n cap,.i p]) [] func151 ?_
 cases c:aQ n l p with
 | false =>
   rw [c] at k
   exact bg (t:=4) (v:=.i (-1)) Bs.eng {cv:=[(12,fu k)]} 40 (Bs.start _ _) (λf h=>⟨by simp [tK,c],h.2⟩)
 | true =>
   rw [c] at k
   obtain ⟨rfl,o⟩:=fj c
   obtain ⟨V,g⟩:∃ V,V=tK 22 l p:=⟨_,rfl⟩
   rw [<- g]
   have F:tK 22 l p=EM l p:=by rw [M9 l p o (hl 0)];simp [tK,c]
   rw [F] at g
   unfold EM kV at g
   obtain ⟨b,d,rfl,i,D⟩:=q 0 aa
   have m:∀ j,j<22->∀ W,Bs a [] W->W.cell? ⟨b,d+j,none⟩=some (.u (l.getD j 0)):=λj G W h=>(h.2.cell (by exact i)).trans (E7 q j aa).2
   have r:=λx (E:U x) W (_:Bw a W)=>BT x E W
   have s:∀ W,Bw a W->CB 165 #[.agg (bK true),.u (l.getD 0 0),.i p] W (.bool (uQ l p)):=λW _=>NZ _ p (hl 0) W
   have u:∀ W,Bw a W->CB 165 #[.agg (bK false),.u (l.getD 0 0),.i p] W (.bool (uR l p)):=λW _=>N0 _ p (hl 0) W
   cases y:decide (dA (F3 .andNot .u64 (F3 .and .u64 (l.getD 9 0) (l.getD 3 0)) (l.getD 2 0))>=0)<;>cases z:decide (dA (F3 .and .u64 (F3 .and .u64 (l.getD 9 0) (l.getD 3 0)) (l.getD 2 0))>=0)<;>cases A:uQ l p<;>cases B:uR l p<;>(
    rw [A] at s
    rw [B] at u
    rw [y,z,A,B] at g
    exact bg (t:=4) (v:=.i V) Bs.eng {eq:=[(32,aD y),(45,aD z)],ov:=[(16,lw ⟨b,d+9,none⟩ _ underlying32 rfl (m 9 aa)),(19,lw ⟨b,d+3,none⟩ _ underlying32 rfl (m 3 aa)),(23,lw ⟨b,d+0,none⟩ _ underlying32 rfl (m 0 aa)),(26,lw ⟨b,d+2,none⟩ _ underlying32 rfl (m 2 aa))],cv:=[(12,fu k),(30,fu (r (F3 .andNot .u64 (F3 .and .u64 (l.getD 9 0) (l.getD 3 0)) (l.getD 2 0)) (af _ _ _))),(34,fu λW _=>jS W),(37,fu s),(43,fu (r (F3 .and .u64 (F3 .and .u64 (l.getD 9 0) (l.getD 3 0)) (l.getD 2 0)) (af _ _ _))),(47,fu λW _=>hZ W),(50,fu u)]} 120 (Bs.start _ _) (hv:=by subst g;kernel_rfl) (he:=by subst g;kernel_rfl) (λf h=>⟨rfl,h.2⟩))
theorem oF (W:G3) (old cs:Array Value) (t:TypeId):Bw W ((W.alloc (.cells old t)).setRow W.heap.size cs):=aN (bal _ _) (Nat.le_refl _) _
def sT (M:MV):List Int:=if eW M=true then M.d.ys else []
theorem vz (M:MV) (A:MA) (w:G3) (hl:iW M) (m:D7 w M A) (p:∀ j,U (M.cs.getD j 0)):Calls prog 26 #[.agg #[.u M.pc,.slice A.ax M.x.length A.cx,.i M.pr,.slice A.ac M.cs.length A.cc,.slice A.ar M.ram.length A.cr,.u M.d.t,.u M.d.cm,.bool M.d.so,.slice A.ai M.d.xs.length A.ci,.slice A.ao M.d.ys.length A.co,.i M.d.ir,.u M.hd,.bool M.hl,.bool M.wt]] w λe c=>∃ (s:Option Addr) (t:Nat),e=.returned (.slice s (sT M).length t)/\c.ownsRow w.heap.size 5 1 (.slice s (sT M).length t) (sT M).length ((sT M).map (A5 .u8))/\Bw w c:=by
 have d:Hid (∀ c,Bw w c->CB 49 #[.agg #[.u M.pc,.slice A.ax M.x.length A.cx,.i M.pr,.slice A.ac M.cs.length A.cc,.slice A.ar M.ram.length A.cr,.u M.d.t,.u M.d.cm,.bool M.d.so,.slice A.ai M.d.xs.length A.ci,.slice A.ao M.d.ys.length A.co,.i M.d.ir,.u M.hd,.bool M.hl,.bool M.wt]] c (.bool (eW M))):=λc K=>dN M A c hl (m.below K) p;cases h:eW M with
 | false =>rw [h] at d;have g:sT M=[]:=(by simp [sT,h]);rw [g];clear hl m h g p;go_enter func26,ntmps26;go_wp2_with fail;refine (d.out _ (bal _ _)).mono ?_;rintro e r ⟨rfl,b⟩;have y:=ah (ae (bal _ _) b);clear b d;go_wp2_with fail;go_ret;exact ⟨none,0,rfl,⟨rfl,.inl ⟨rfl,rfl⟩⟩,y.out⟩
 | true =>rw [h] at d;have g:sT M=M.d.ys:=(by simp [sT,h]);rw [g];have B:Hid (M.d.ys.length<=1048576):=hl.ys;have z:Hid (Sl .u8 w A.ao M.d.ys):=m.ys;clear hl m h g p;go_enter func26,ntmps26;go_wp2_with fail;refine (d.out _ (bal _ _)).mono ?_;rintro e r ⟨rfl,b⟩;have R1:r.heap[w.heap.size]?=some (.cells #[.u M.pc,.slice A.ax M.x.length A.cx,.i M.pr,.slice A.ac M.cs.length A.cc,.slice A.ar M.ram.length A.cr,.u M.d.t,.u M.d.cm,.bool M.d.so,.slice A.ai M.d.xs.length A.ci,.slice A.ao M.d.ys.length A.co,.i M.d.ir,.u M.hd,.bool M.hl,.bool M.wt] 36 (0,0)):=aA b (F0 _ _);have o:=ah (ae (bal _ _) b);obtain ⟨L,N,O,P,Q,R,S,T,V,W,E,F,G,H⟩:=br R1;clear b d R1;go_wp2_with fail;refine (ik _ _ _ M.d.ys r rfl B.out (z.out.below o.out)).mono ?_;rintro e X ⟨I,J,rfl,l,f⟩;have C:=ah l;have u:=ah (ae o.out f);have D:=ah o.out.size;clear l f;go_wp2_with fail;go_ret;exact ⟨I,J,rfl,cS C.out D.out,u.out⟩
