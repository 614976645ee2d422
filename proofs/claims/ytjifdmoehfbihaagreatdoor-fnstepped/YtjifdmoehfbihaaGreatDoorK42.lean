/- Own lemmas. -/
import Derived.Test.YtjifdmoehfbihaaGreatDoorAut
import Derived.Test.YtjifdmoehfbihaaGreatDoorK40
import Derived.Test.YtjifdmoehfbihaaGreatDoorK41
set_option maxRecDepth 100000
namespace Go.Proofs.YtjifdmoehfbihaaGreatDoor
open Go.RowKit Tryz
set_option linter.unusedVariables false
theorem zX (l:List Int) (p:Int) (h:0<=fG l p):∃ k:Nat,k<16/\fG l p=k:=by
 have key:∀ x,0<=dc x->∃ k:Nat,k<16/\dc x=k:=λx a=>by
  unfold dc at a ⊢;rcases ug x ei with e|⟨n,b,e,_⟩;·rw [e] at a;omega
  ·refine ⟨n,?_,e⟩;have:∀ m ∈ ei,m<16:=by decide
   exact this n b
 unfold fG at h ⊢;split at h;·exact key _ h
 ·unfold Ff at h ⊢;split at h;·exact key _ h
  ·omega
section
variable {B hh r : Nat} {M : MV} {A : MA} {w : World}
theorem GN (h:Ht B hh r M A w) (i:Gd M):CB 73 #[.slice A.ac M.cs.length A.cc,.i M.pr] w (.i (fG M.cs M.pr)):=by obtain ⟨a,f,d,_,_,_⟩:=ay i.ok;obtain ⟨g,c,b,_⟩:=h.mp.cs a;rw [c,a];exact xj g 0 A.cc M.cs M.pr d w a (gv b)
end
section
variable {B hh r : Nat} {M : MV} {A : MA} {w : World}
theorem Su (h:Ht B hh r M A w) (hg:Gd M) (hd:Ud M.d):Calls prog 34 #[.p hh 0] w (HR B hh r M A w (fL M)):=by
 obtain ⟨L,hcs,hpr,_,_,_⟩:=ay hg.ok;obtain ⟨b,I,E⟩:=h.atC L;have K:∀ (j:Nat),j<22->∀ W,Hx B r [aM hh r] M A w M A W->W.cell? ⟨b,j,none⟩=some (.u (M.cs.getD j 0)):=λj hj W a=>by obtain ⟨b',Q,p⟩:=a.ht.atC L;rw [I] at Q;cases Q;exact (p j hj).1
 have fin:∀ (S:World->Prop) (W:World),Hx B r [aM hh r] M A w M A W->(M.wt&&(j4 M.cs==0))=false->Wg prog S (bodyPost prog Tryz.f34 (HR B hh r M A w (fL M))) Tryz.f34.ntmps [.code (az 3 (aW Tryz.f34))] [(0,.p hh 0,2),(3,.p r 0,1)] W:=by
  intro S W a hn;clear K E I;have Z:fL M=if 0<=fG M.cs M.pr then (aK (fj M false) (fG M.cs M.pr).toNat true 0,3) else (let q:=aC (fj M false) M.pc 4 1 0;if (q.2.2 != 0)=true then cF q 0 q.2.1.pc else match Be q.1 with | none=>(aK q.2.1 2 false q.1,2) | some i=>cR q.2.1 i q.1):=by unfold fL;rw [hn,if_neg bb];rfl
  rw [Z];clear Z;have n:=hg.wait false;have U:fG M.cs M.pr=fG (fj M false).cs (fj M false).pr:=rfl;have R:M.pc=(fj M false).pc:=rfl;have F:Ud (fj M false).d:=hd;refine aH (Hs r [aM hh r] (aq M A)) ?_;refine ae (Hs.eng (dr:=false) (λ_ h=>h.hs)) {} 40 a λu s=>?_;refine bJ (bE (i:=13) (T:=4) (v:=.bool false) s.mp.row (show 13<14 by decide) al rfl) ?_;have h2:=s.fld (M':=fj M false) 13 (.bool false) rfl rfl;rw [U,R];generalize fj M false=N at n h2 F ⊢;clear U R;refine aH (Hx B r [aM hh r] M A w N A) ?_;by_cases e:0<=fG N.cs N.pr;·obtain ⟨k,k16,hk⟩:=zX _ _ e;have q:decide (0<=((k:Nat):Int))=true:=ek;have o:∀ W,Hx B r [aM hh r] M A w N A W->CB 73 #[.slice A.ac N.cs.length A.cc,.i N.pr] W (.i ((k:Nat):Int)):=λW a=>hk ▸ GN a.ht n;rw [if_pos e,hk,Int.toNat_natCast];clear hk e;refine ae (Hx.eng (dr:=true)) {eq:=[(52,aj q)],cv:=[(50,jy (λh k=>h.below k) λW a=>o W a)]} 22 h2 λW3 h3=>?_;have hl:(aK N k true 0).cs.length=N.cs.length:=lC _ _ _ _ _ _;have em:aq (iz N (aK N k true 0).cs) A=aq N A:=(by unfold aq iz;dsimp only;rw [hl]);refine aH (Hs r [aM hh r] (aq N A)) ?_;refine lg 21 ?_;refine aN (Hs.eng (dr:=true) (λ_ h=>h.hs)) {} 100 (h3.below (Below.refl _ _).drew) (λu s=>vO s.ht n k k16 true 0) ?_;rintro W4 e W5 h4 ⟨rfl,h5,k5⟩;have h6:=h4.to h5 k5;refine ⟨_,0,rfl,λ_=>em ▸ h6.hs,?_⟩;refine ae (Hs.eng (dr:=true) (λ_ h=>em ▸ h.hs)) {} 40 h6 λW7 G=>?_;refine bJ (bE (i:=2) (T:=2) (v:=.i (aK N k true 0).pr) G.mp.row (show 2<14 by decide) al rfl) ?_;have O:=G.fld (M':=gi (iz N (aK N k true 0).cs) (aK N k true 0).pr) 2 (.i (aK N k true 0).pr) rfl rfl;refine aH (Hx B r [aM hh r] M A w (gi (iz N (aK N k true 0).cs) (aK N k true 0).pr) A) ?_;refine ae (Hx.eng (dr:=true)) {} 40 O λW9 H=>?_;refine bJ (bE (i:=0) (T:=22) (v:=.u (aK N k true 0).pc) H.mp.row (show 0<14 by decide) al rfl) ?_;have l:=H.fld (M':=aK N k true 0) 0 (.u (aK N k true 0).pc) rfl rfl;refine aH (Hx B r [aM hh r] M A w (aK N k true 0) A) ?_;exact aY (t:=2) (v:=.i 3) (Hx.eng (dr:=true)) {cv:=[(77,jS λW a=>mG (aK N k true 0) A B hh r W a.ht)]} 40 l λW a=>a.hr 3
  ·have q:decide (0<=fG N.cs N.pr)=false:=(by rw [decide_eq_false_iff_not];exact e);rw [if_neg e];clear e;generalize V:fG N.cs N.pr=pv at q;have o:∀ W,Hx B r [aM hh r] M A w N A W->CB 73 #[.slice A.ac N.cs.length A.cc,.i N.pr] W (.i pv):=λW a=>V ▸ GN a.ht n;clear V;refine ae (Hx.eng (dr:=true)) {eq:=[(52,aj q)],cv:=[(50,jy (λh k=>h.below k) λW a=>o W a)]} 22 h2 λW3 h3=>?_;refine ah [.code (az 5 (aW Tryz.f34))] [(0,.p hh 0,2),(3,.p r 0,1)] ?_;clear o q;have ga:=n.acc N.pc 4 1 0;have P:=λW (a:Mp B r N A W)=>fK N A B r N.pc 4 1 0 W a n.len n.mw n.ok bb ab ab n.pc kO;have ec:=λc=>jW (M:=N) (addr:=N.pc) (size:=4) (kind:=1) (x:=0) (c:=c);have Y:=sU n F N.pc 4 ab 1 0;have ud:=zK F N.pc 4 1 kO;rw [show ((4:Nat):Int)=4 from rfl] at Y;generalize aC N N.pc 4 1 0=X at *;obtain ⟨y,f,c⟩:=X;dsimp only at ga P ec Y ud ⊢;refine aH (Hs r [aM hh r] (aq N A)) ?_;refine ae (Hs.eng (dr:=false) (λ_ h=>h.hs)) {} 1 h3 λW4 h4=>?_;refine lg 9 ?_;refine aN (Hs.eng (dr:=true) (λ_ h=>h.hs)) {} 100 (h4.below (Below.refl _ _).drew) (λu s=>P u s.mp) ?_;rintro W5 e W6 h5 ⟨rfl,C,h6,k6⟩;refine ⟨_,0,rfl,gm al,aH (Hs r [aM hh r] (aq f C)) ?_⟩;have G:=h5.step h6 k6;cases o:(c != 0) with
   | true =>rw [if_pos rfl];have tg:∀ W,Hx B r [aM hh r] M A w f C W->Calls prog 77 #[.p hh 0,.i ((c-16).toNat:Nat),.u f.pc] W (HR B hh r f C W (cF (y,f,c) 0 f.pc)):=λW a=>dL _ (ec c rfl o).2 f.pc a.ht ga;exact Hx.last (Hs.eng (dr:=true) (λ_ h=>h.hs)) {eq:=[(92,aj o),(95,dI .i64 (ec c rfl o).1)]} 60 G tg
   | false =>
     rw [if_neg bb];have m:=λW=>oC y Y.1 Y.2 W;unfold lO at m;cases he:Be y with
     | none =>simp only [he] at m;refine aN (Hs.eng (dr:=true) (λ_ h=>h.hs)) {eq:=[(92,aj o)]} 60 G (λu s=>m u) ?_;rintro W8 e W9 O ⟨rfl,k9⟩;refine ⟨_,0,rfl,gm al,?_⟩;have H:=O.below k9;refine ae (Hs.eng (dr:=false) (λ_ h=>h.hs)) {} 3 H λd l=>?_;refine dU 3 (dW (T:=69) (z:=.agg #[.i 0,.i 0,.i 0,.i 0,.i 0]) al d) ?_;refine bJ (aG (g:=d.heap.size) (t:=69) (ty:=69) (old:=#[.i 0,.i 0,.i 0,.i 0,.i 0]) (cells:=#[.i 0,.i 0,.i 0,.i 0,.i 0]) (heap_alloc_new _ _) al rfl al) ?_;have D:=l.below (aE (bal d (.cells #[.i 0,.i 0,.i 0,.i 0,.i 0] 69)) (Nat.le_refl _) #[.i 0,.i 0,.i 0,.i 0,.i 0]);have tg:∀ W,Hx B r [aM hh r] M A w f C W->Calls prog 77 #[.p hh 0,.i 2,.u y] W (HR B hh r f C W (aK f 2 false y,2)):=λW a=>dL 2 bb y a.ht ga;exact Hx.last (Hs.eng (dr:=true) (λ_ h=>h.hs)) {} 60 D tg
     | some i =>simp only [he] at m;have hi:=zO he;refine aN (Hs.eng (dr:=true) (λ_ h=>h.hs)) {eq:=[(92,aj o)]} 60 G (λu s=>m u) ?_;rintro W8 e W9 O ⟨rfl,k9⟩;refine ⟨_,0,rfl,gm al,?_⟩;have H:=O.below k9;refine ae (Hs.eng (dr:=false) (λ_ h=>h.hs)) {} 3 H λd l=>?_;refine dU 3 (dW (T:=69) (z:=.agg #[.i 0,.i 0,.i 0,.i 0,.i 0]) al d) ?_;refine bJ (aG (g:=d.heap.size) (t:=69) (ty:=69) (old:=#[.i 0,.i 0,.i 0,.i 0,.i 0]) (cells:=#[.i i.op,.i i.rd,.i i.a,.i i.b,.i i.imm]) (heap_alloc_new _ _) al rfl al) ?_;have D:Hx B r [aM hh r,EW d.heap.size i] M A w f C ((d.alloc (.cells #[.i 0,.i 0,.i 0,.i 0,.i 0] 69)).setRow d.heap.size #[.i i.op,.i i.rd,.i i.a,.i i.b,.i i.imm]):=l.var (aE (bal d _) (Nat.le_refl _) _) (EW d.heap.size i) (setRow_heap _ _ _ _ _ _ (heap_alloc_new _ _)) (Nat.le_refl _);refine aH (Hx B r [aM hh r,EW d.heap.size i] M A w f C) ?_;refine ae (Hx.eng (dr:=false)) {} 10 D λW12 h12=>?_;exact ah _ _ (Ss i y hi Y h12 ga ud)
 refine bz (S:=Hx B r [aM hh r] M A w M A) (args:=[.p hh 0]) [] func34 ?_;refine aL 0 2 ?_;have h0:=Hx.start h [];cases J:M.wt with
 | true =>
   cases hz:(j4 M.cs==0) with
   | true =>have Z:fL M=(M,4):=(by unfold fL;rw [J,hz,if_pos bb]);rw [Z];exact aY (t:=2) (v:=.i 4) (Hx.eng (dr:=true)) {eq:=[(22,aj J),(37,aj hz)],ov:=[(28,kN M.cs.length A.cc .i64 9 I ⟨ab,ab⟩ underlying23 al),(29,iR ⟨b,0+(9:Int).toNat,none⟩ (.u (M.cs.getD 9 0)) underlying22 rfl (K 9 ab)),(34,kN M.cs.length A.cc .i64 3 I ⟨ab,ab⟩ underlying23 al),(35,iR ⟨b,0+(3:Int).toNat,none⟩ (.u (M.cs.getD 3 0)) underlying22 rfl (K 3 ab))]} 60 h0 λW a=>a.hr 4
   | false =>refine ae (Hx.eng (dr:=true)) {eq:=[(22,aj J),(37,aj hz)],ov:=[(28,kN M.cs.length A.cc .i64 9 I ⟨ab,ab⟩ underlying23 al),(29,iR ⟨b,0+(9:Int).toNat,none⟩ (.u (M.cs.getD 9 0)) underlying22 rfl (K 9 ab)),(34,kN M.cs.length A.cc .i64 3 I ⟨ab,ab⟩ underlying23 al),(35,iR ⟨b,0+(3:Int).toNat,none⟩ (.u (M.cs.getD 3 0)) underlying22 rfl (K 3 ab))]} 34 h0 λW a=>?_;exact ah _ _ (fin _ W a (by rw [J,hz];rfl))
 | false =>refine ae (Hx.eng (dr:=true)) {eq:=[(22,aj J)]} 34 h0 λW a=>?_;exact ah _ _ (fin _ W a (by rw [J];rfl))
end
def SR (B g:Nat) (w0:World) (V:MV × Int) (e:Ending) (w':World):Prop:=e=.returned (.i V.2)/\∃ A' t',Tq B g w0 V.1 A' t' w'
section
variable {B g K : Nat} {w0 w w' W : World} {M M' : MV} {A A' : MA} {t t' : TV}
theorem Sw (h:Tq B g w0 M A tS w) (hg:Gd M) (hd:Ud M.d):Calls prog 41 #[.p g 0] w (SR B g w0 (fL M)):=by
 obtain ⟨I,hcs,hpr,_,_,_⟩:=ay hg.ok; -- what is raised is entered
 have up:∀ (S:World->Prop) (N:MV) (C:MA) (f:TV) (k:Nat) (W:World),Tq B g w0 N C f W->Gd N->f.up=true->f.cz=k->k<16->Wg prog S (bodyPost prog Tryz.f41 (SR B g w0 (aK N k false f.vl,2))) Tryz.f41.ntmps [.code (az 6 (aW Tryz.f41))] [(0,.p g 0,1)] W:=by intro S N C f k W d gN l m u;refine aH (Tq B g w0 N C f) ?_;refine ae (Tq.eng (dr:=false)) {eq:=[(61,aj l)]} 40 d λW1 h1=>?_;refine lg 11 ?_;refine aN (Tq.eng (dr:=true)) {eq:=[(68,dI .i64 m)]} 60 (h1.below (Below.refl _ _).drew) (λW d=>GL d gN k u false f.vl) ?_;rintro W2 e W3 H ⟨rfl,C2,J⟩;refine ⟨_,0,rfl,gm al,?_⟩;exact jE (R:=[]) (t:=2) (v:=.i 2) trivial {} 40 ⟨rfl,C2,f,J⟩
 -- g7 a performance
 have tail:∀ (S:World->Prop) (cf:Bool) (i:Ins) (V:MV × Int) (N:MV) (C:MA) (f:TV) (W:World),jA i->cf=decide (87<=i.op/\i.op<=92)->Pf cf V i N f->Tq B g w0 N C f W->Wg prog S (bodyPost prog Tryz.f41 (SR B g w0 V)) Tryz.f41.ntmps [.code (az 6 (aW Tryz.f41))] [(0,.p g 0,1)] W:=by
  intro S cf i V N C f W Q hcf o d;cases l:f.up with
  | true =>obtain ⟨k,u,m⟩:=o.c l;have e:=o.e;rw [iu l m] at e;rw [<- e];exact up S N C f k W d o.g l m u
  | false =>have hfo:Fo cf f.fm:=(by rw [o.fm,hcf];exact Ct i.op);have s:=λW (d:Tq B g w0 N C f W)=>M9 hfo d o.g (by rw [o.rd];exact Q.rd0) (by rw [o.rd];exact Q.rd31) l;have e2:V.2=1:=(by rw [<- o.e];unfold tD;rw [l];rfl);rw [o.e] at s;unfold SR;rw [e2];generalize V.1=V1 at *;refine aH (Tq B g w0 N C f) ?_;refine aN (Tq.eng (dr:=true)) {eq:=[(61,aj l)]} 60 d s ?_;rintro W2 e W3 H ⟨rfl,J⟩;refine ⟨_,0,rfl,gm al,?_⟩;exact jE (R:=[]) (t:=2) (v:=.i 1) trivial {} 40 ⟨rfl,C,f,J⟩
 have fin:∀ (S:World->Prop) (W:World),Tq B g w0 M A tS W->(M.wt&&(j4 M.cs==0))=false->Wg prog S (bodyPost prog Tryz.f41 (SR B g w0 (fL M))) Tryz.f41.ntmps [.code (az 2 (aW Tryz.f41))] [(0,.p g 0,1)] W:=by
  intro S W d hn;have eV:fL M=if 0<=fG M.cs M.pr then (aK (fj M false) (fG M.cs M.pr).toNat true 0,3) else (let q:=aC (fj M false) M.pc 4 1 0;if (q.2.2 != 0)=true then cF q 0 q.2.1.pc else match Be q.1 with | none=>(aK q.2.1 2 false q.1,2) | some i=>cR q.2.1 i q.1):=by unfold fL;rw [hn,if_neg bb];rfl
  rw [eV];clear eV;have F:=hg.wait false;have Y:fG M.cs M.pr=fG (fj M false).cs (fj M false).pr:=rfl;have U:M.pc=(fj M false).pc:=rfl;have z:Ud (fj M false).d:=hd;have Z:(fj M false).wt=false:=rfl;refine aH (λ_=>True) ?_;refine nZ (R1:=[⟨g,bH (fj M false) A tS,[]⟩]) (Iv.one d.row) {} 8 λW1 h1=>?_;have H:=d.iv h1 rfl;refine ah [.code (az 3 (aW Tryz.f41))] [(0,.p g 0,1)] ?_;rw [Y,U];generalize fj M false=N at F H z Z ⊢;clear Y U h1;have r:=λW (d:Tq B g w0 N A tS W)=>tE A.ac N.cs.length A.cc N.cs N.pr W rfl d.sl.cs F.mw.cs;have T:uf N.cs.length N.cs N.pr=fG N.cs N.pr:=(by unfold uf;rw [(eI F.ok).2.2.1]);rw [T] at r;clear T;refine aH (Tq B g w0 N A tS) ?_;by_cases e:0<=fG N.cs N.pr;·obtain ⟨k,k16,u⟩:=zX _ _ e;have q:decide (0<=((k:Nat):Int))=true:=ek;rw [if_pos e,u,Int.toNat_natCast];rw [u] at r;refine aN (Tq.eng (dr:=true)) {eq:=[(43,aj q)],cv:=[(41,NE r)]} 60 H (λW d=>GL d F k k16 true 0) ?_;rintro W3 e W4 J ⟨rfl,C2,n⟩;refine ⟨_,0,rfl,gm al,?_⟩;exact jE (R:=[]) (t:=2) (v:=.i 3) trivial {} 40 ⟨rfl,C2,tS,n⟩
  ·have q:decide (0<=fG N.cs N.pr)=false:=(by rw [decide_eq_false_iff_not];exact e);rw [if_neg e];generalize fG N.cs N.pr=pv at *;have P:=λW (d:Tq B g w0 N A tS W)=>Pw d F z;have ga:=F.acc N.pc 4 1 0;have da:=zK z N.pc 4 1 kO;have wa:=(iJ N N.pc 4 1 0).2.2.2;have pa:=(iJ N N.pc 4 1 0).1;have ec:=λc=>jW (M:=N) (addr:=N.pc) (size:=4) (kind:=1) (x:=0) (c:=c);rw [Z] at wa;unfold Sp at P;generalize aC N N.pc 4 1 0=X at *;obtain ⟨y,E,c⟩:=X;dsimp only at *;rw [pa];refine aN (Tq.eng (dr:=true)) {eq:=[(43,aj q)],cv:=[(41,NE r)]} 60 H P ?_;rintro W3 e W4 J ⟨rfl,C,n⟩;refine ⟨_,0,rfl,gm al,?_⟩;refine an (R:=[]) trivial {} 1 ?_;refine ah [.code (az 5 (aW Tryz.f41))] [(0,.p g 0,1)] ?_;have skip:∀ (S:World->Prop) (f:TV) (k:Nat),Tq B g w0 E C f W4->f.up=true->f.cz=k->k<16->Wg prog S (bodyPost prog Tryz.f41 (SR B g w0 (aK E k false f.vl,2))) Tryz.f41.ntmps [.code (az 5 (aW Tryz.f41))] [(0,.p g 0,1)] W4:=(by intro S f k d l m u;refine aH (Tq B g w0 E C f) ?_;refine ae (Tq.eng (dr:=false)) {eq:=[(54,aj l)]} 11 d λW5 h5=>?_;exact ah _ _ (up _ E C f k W5 h5 ga l m u));cases O:(c != 0) with
   | true =>rw [O,if_pos rfl] at n;rw [if_pos rfl];unfold ns at n;dsimp only at n;rw [O,if_pos rfl,(ec c rfl O).1] at n;exact skip _ _ (c-16).toNat n rfl rfl (ec c rfl O).2
   | false =>
     rw [O,if_neg bb] at n;rw [if_neg bb];cases he:Be y with
     | none =>simp only [he] at n ⊢;exact skip _ _ 2 n rfl rfl bb
     | some i =>simp only [he] at n ⊢;have Q:=zO he;refine aH (Tq B g w0 E C (t0 E i y)) ?_;refine aN (Tq.eng (dr:=true)) {} 60 n (λW d=>JB i y Q d ga da wa) ?_;rintro W5 e W6 h5 ⟨rfl,N3,D,t3,o,h6⟩;refine ⟨_,0,rfl,gm al,?_⟩;refine an (R:=[]) trivial {} 1 ?_;exact ah _ _ (tail _ _ i _ N3 D t3 W6 Q rfl o h6)
 obtain ⟨b,K,hne,_⟩:=h.atC I;have cc:∀ (j:Nat),j<22->∀ W,Tq B g w0 M A tS W->W.cell? ⟨b,j,none⟩=some (.u (M.cs.getD j 0)):=λj hj W d=>by obtain ⟨b',L,_,p⟩:=d.atC I;rw [K] at L;cases L;exact (p j hj).1
 refine bz (S:=Tq B g w0 M A tS) (args:=[.p g 0]) [] func41 ?_;refine aL 0 1 ?_;cases G:M.wt with
 | true =>
   cases hz:(j4 M.cs==0) with
   | true =>have eV:fL M=(M,4):=(by unfold fL;rw [G,hz,if_pos bb]);rw [eV];exact aY (t:=2) (v:=.i 4) (Tq.eng (dr:=true)) {eq:=[(8,aj G),(25,aj hz)],ov:=[(15,kN M.cs.length A.cc .i64 9 K ⟨ab,ab⟩ underlying23 al),(16,iR ⟨b,0+(9:Int).toNat,none⟩ (.u (M.cs.getD 9 0)) underlying22 rfl (cc 9 ab)),(22,kN M.cs.length A.cc .i64 3 K ⟨ab,ab⟩ underlying23 al),(23,iR ⟨b,0+(3:Int).toNat,none⟩ (.u (M.cs.getD 3 0)) underlying22 rfl (cc 3 ab))]} 60 h λW d=>⟨rfl,A,tS,d⟩
   | false =>refine ae (Tq.eng (dr:=true)) {eq:=[(8,aj G),(25,aj hz)],ov:=[(15,kN M.cs.length A.cc .i64 9 K ⟨ab,ab⟩ underlying23 al),(16,iR ⟨b,0+(9:Int).toNat,none⟩ (.u (M.cs.getD 9 0)) underlying22 rfl (cc 9 ab)),(22,kN M.cs.length A.cc .i64 3 K ⟨ab,ab⟩ underlying23 al),(23,iR ⟨b,0+(3:Int).toNat,none⟩ (.u (M.cs.getD 3 0)) underlying22 rfl (cc 3 ab))]} 29 h λW d=>?_;exact ah _ _ (fin _ W d (by rw [G,hz];rfl))
 | false =>refine ae (Tq.eng (dr:=true)) {eq:=[(8,aj G)]} 29 h λW d=>?_;exact ah _ _ (fin _ W d (by rw [G];rfl))
end
structure TH (M:MV):Prop where
 mw:MW M
 ux:∀ j,U (M.x.getD j 0)
 pc:U M.pc
 hd:U M.hd
 ud:Ud M.d
theorem TH.gd {M:MV} (h:TH M) (a:ey M=true):Gd M:=⟨a,h.mw,h.ux,h.pc,h.hd⟩
def iK (M:MV):MV × Int:=if ey M=true then fL M else (zeroM,0)
def mQ (w:World) (V:MV × Int) (e:Ending) (w':World):Prop:=∃ C:MA,e=.returned (.tuple #[.agg (aq V.1 C),.i V.2])/\bx w.heap.size w'.heap.size w' (aI V.1 C)/\Bw w w'
theorem Sy {P:Program} (T:TypeId) (v:Value) (w:World):(do pure (.value (<- Instr.box T v)):Sem Next).run P w=.ok (.value (.p w.heap.size 0)) (w.alloc (.cells v.cells T)):=by simp [Instr.box,newVar,newRow]
theorem zY (M:MV) (A:MA) (w:World) (hl:j7 M) (hs:sa w M A) (J:TH M):Calls prog 9 #[.agg (aq M A)] w (mQ w (iK M)):=by
 have p:=λW (X:Bw w W)=>qp M A W hl (hs.below X);unfold iK;refine bz (S:=Bs w [(aq M A,32),(aq zeroM zeroA,32)]) (args:=[.agg (aq M A)]) [(aq M A,32),(aq zeroM zeroA,32)] func9 ?_;cases G:ey M with
 | false =>rw [G] at p;rw [if_neg bb];refine ae Bs.eng {cv:=[(8,fW p)]} 40 (Bs.start _ _) λf d=>?_;refine bJ (aG (g:=w.heap.size+1) (old:=aq zeroM zeroA) (cells:=aq zeroM zeroA) (t:=32) (ty:=32) (d.1 1 _ rfl) al rfl (eX _ _)) ?_;refine fP (R:=[]) trivial {} 40 λa n=>⟨.tuple #[.agg (aq zeroM zeroA),.i 0],uz n rfl al al (setRow_heap _ _ _ _ _ _ (d.1 1 _ rfl)) underlying32 rfl al,zeroA,rfl,oU _ _ _,bm d.2 ab _⟩
 | true =>
   rw [G] at p;rw [if_pos rfl];have Y:=J.gd G;have o:=λ(B hh r:Nat) (C:MA) (W:World) (h:Ht B hh r M C W)=>Su h Y J.ud;generalize fL M=V at o ⊢;refine aN Bs.eng {cv:=[(8,fW p)]} 40 (Bs.start _ _) (λf d=>El M A f hl (hs.below d.2)) ?_;rintro f e b d ⟨C,rfl,u,L⟩;refine ⟨_,0,rfl,gm al,?_⟩;have I:=d.below L;have s1:w.heap.size+2<=f.heap.size:=(by have:=(Array.getElem?_eq_some_iff.1 (d.1 1 _ rfl)).1;omega);refine dU 3 (dW (T:=32) (z:=.agg (aq zeroM zeroA)) al b) ?_;refine bJ (aG (g:=b.heap.size) (t:=32) (ty:=32) (old:=aq zeroM zeroA) (cells:=aq M C) (heap_alloc_new _ _) al rfl (eX _ _)) ?_;have H:Bw b ((b.alloc (.cells (aq zeroM zeroA) 32)).setRow b.heap.size (aq M C)):=bm (bal _ _) (Nat.le_refl _) _;have N:((b.alloc (.cells (aq zeroM zeroA) 32)).setRow b.heap.size (aq M C)).heap[b.heap.size]?=some (.cells (aq M C) 32 (0,0)):=setRow_heap _ _ _ _ _ _ (heap_alloc_new _ _);have z3:((b.alloc (.cells (aq zeroM zeroA) 32)).setRow b.heap.size (aq M C)).heap.size=b.heap.size+1:=(by rw [setRow_size,World.size_alloc]);have e3:(Value.agg (aq zeroM zeroA)).cells=aq zeroM zeroA:=rfl;rw [e3];generalize (b.alloc (.cells (aq zeroM zeroA) 32)).setRow b.heap.size (aq M C)=c at H N z3 ⊢;refine nQ (R:=[]) trivial {} 40 2 (v:=.p c.heap.size 0) (w':=c.alloc (.cells #[.p b.heap.size 0,.slice none 0 0] 61)) (Sy 61 (.agg #[.p b.heap.size 0,.slice none 0 0]) c) ?_;have s:Bw c (c.alloc (.cells #[.p b.heap.size 0,.slice none 0 0] 61)):=bal _ _;have O:(c.alloc (.cells #[.p b.heap.size 0,.slice none 0 0] 61)).heap[c.heap.size]?=some (.cells #[.p b.heap.size 0,.slice none 0 0] 61 (0,0)):=heap_alloc_new _ _;generalize c.alloc (.cells #[.p b.heap.size 0,.slice none 0 0] 61)=m at s O ⊢;have F:=aa H s;have s2:=L.size;have s4:=s.size;have U:bx f.heap.size m.heap.size m (aI M C):=(u.below F).low (Nat.le_refl _) F.size;have m4:Mp f.heap.size b.heap.size M C m:=⟨bA s N,U,λq E e=>by have:=u.hi q E _ e;omega,s2⟩;have t4:Ht f.heap.size c.heap.size b.heap.size M C m:=⟨O,m4,ab,λq E e=>by have:=u.hi q E _ e;omega⟩;refine aS (R:=[]) trivial {} 40 (o _ _ _ C m t4) ?_;rintro e Q ⟨rfl,D,P,k5⟩;refine ⟨_,0,rfl,?_⟩;have j:=m4.under k5;have y:Bs w [(aq M A,32),(aq zeroM zeroA,32)] Q:=by
    have l:=(I.below F);refine ⟨λi x K=>?_,?_⟩;·have Z:i<2:=(by have:=(List.getElem?_eq_some_iff.1 K).1;exact this);rw [j.block _ ab];exact l.1 i x K
    ·exact ⟨j.os.trans l.2.os,j.tape.trans l.2.tape,j.output.trans l.2.output,Nat.le_trans l.2.size j.size,λk n=>(j.block k ab).trans (l.2.block k n)⟩
   refine aL 4 1 ?_;refine cw (R:=[⟨b.heap.size,aq V.1 D,[]⟩]) ⟨⟨_,_,P.mp.row⟩,trivial⟩ {} 40 (aG (g:=w.heap.size+1) (t:=32) (ty:=32) (old:=aq zeroM zeroA) (cells:=aq V.1 D) (y.1 1 _ rfl) al rfl (eX _ _)) ?_;refine fP (R:=[]) trivial {} 40 λa n=>⟨.tuple #[.agg (aq V.1 D),.i V.2],uz n rfl al al (setRow_heap _ _ _ _ _ _ (y.1 1 _ rfl)) underlying32 rfl al,D,rfl,?_,bm y.2 ab _⟩;have:=P.mp.fam;refine bx.low (B:=f.heap.size) ?_ ab (Nat.le_refl _);rw [setRow_size];exact this.mono λk d I h3=>setRow_other _ _ _ _ ab
structure Pr (w:World) (cs:Array Value) (g:Nat) (M:MV) (C:MA) (W:World):Prop where
 b:Bs w [(cs,32),(aq zeroM zeroA,32)] W
 row:W.heap[g]?=some (.cells (bH zeroM zeroA ⟨.nilFunc,0,0,0,0,0,0,.nilIface,0,0,false,false,0,0⟩) 71 (0,0))
 fam:bx (w.heap.size+2) W.heap.size W (aI M C)
 ne:∀ q ∈ aI M C,q.v.ownBlock≠some g
 lo:w.heap.size+2<=g
theorem tT (M:MV) (A:MA):(bH M A tS).all (·.oneCell')=true:=by unfold bH;kernel_rfl
theorem Bs.two {w W:World} {cs:Array Value} (h:Bs w [(cs,32),(aq zeroM zeroA,32)] W):w.heap.size+2<=W.heap.size:=by have:=(Array.getElem?_eq_some_iff.1 (h.1 1 _ rfl)).1;omega
theorem wg {P:Program} {fn:Func} {Rs:Ending->World->Prop} {w W:World} {bs:List (Array Value × TypeId)} (h:Bs w bs W):nE P (Bs w bs) (λx=>x=W) (kW w.heap.size bs) false (bodyPost P fn Rs):=
 ⟨λ_ e=>e ▸ h,(Bs.eng (P:=P) (fn:=fn) (Rs:=Rs)).rows,(λh=>l0),ct⟩
theorem Nh (M:MV) (C:MA) (w:World):(do pure (.value (<- Instr.build 71 #[(0,.agg (aq (tz M M.ram) C)),(1,.func (.func 40) #[] #[])])):Sem Next).run prog w=.ok (.value (.agg (bH M C tS))) w:=by kernel_rfl
theorem GO {w:World} {B n:Nat} {a:Option Addr} {c':Nat} {xs:List Int} (o:w.ownsRow B 5 1 (.slice a n c') n (xs.map (Value.int .u8))) (b:B<=w.heap.size):bx B w.heap.size w [aF a n c' xs]:=(bx.nil B B w).cons (aF a n c' xs) B w.heap.size o (Nat.le_refl _) (Nat.le_refl _) (Nat.le_refl _) b
theorem zZ (M:MV) (A:MA) (w:World) (hl:j7 M) (hs:sa w M A) (hf:TH M) (hT:qV w):Calls prog 11 #[.agg (aq M A)] w (mQ w (iK M)):=by
 have X:=λW (hb:Bw w W)=>gT M A W hl (hs.below hb) hf.mw.cs;unfold iK;refine bz (S:=Bs w [(aq M A,32),(aq zeroM zeroA,32)]) (args:=[.agg (aq M A)]) [(aq M A,32),(aq zeroM zeroA,32)] func11 ?_;cases ok:ey M with
 | false =>rw [ok] at X;rw [if_neg bb];refine ae Bs.eng {cv:=[(7,fW X)]} 40 (Bs.start _ _) λu v=>?_;refine bJ (aG (g:=w.heap.size+1) (old:=aq zeroM zeroA) (cells:=aq zeroM zeroA) (t:=32) (ty:=32) (v.1 1 _ rfl) al rfl (eX _ _)) ?_;refine fP (R:=[]) trivial {} 40 λa I=>⟨.tuple #[.agg (aq zeroM zeroA),.i 0],uz I rfl al al (setRow_heap _ _ _ _ _ _ (v.1 1 _ rfl)) underlying32 rfl al,zeroA,rfl,oU _ _ _,bm v.2 ab _⟩
 | true =>
   rw [ok] at X;rw [if_pos rfl];have hg:=hf.gd ok;have Q:=λ(B g:Nat) (w0 W:World) (C:MA) (h:Tq B g w0 M C tS W)=>Sw h hg hf.ud;generalize fL M=V at Q ⊢;have hGw:=hT.lt;have fin:∀ (S:World->Prop) (g:Nat) (C:MA) (W:World),Pr w (aq M A) g M C W->Wg prog S (bodyPost prog Tryz.f11 (mQ w V)) Tryz.f11.ntmps [.code (az 3 (aW Tryz.f11))] [(2,.p (w.heap.size+1) 0,0),(4,.p g 0,1)] (W.setRow g (bH M C tS)):=by
    intro S g C W x;have hlo:=x.lo;have E:Bw w (W.setRow g (bH M C tS)):=bm x.b.2 ab _;have r1:(W.setRow g (bH M C tS)).heap[w.heap.size+1]?=some (.cells (aq zeroM zeroA) 32 (0,0)):=(setRow_other _ _ _ _ ab).trans (x.b.1 1 _ rfl);have q0:Tq (w.heap.size+2) g (W.setRow g (bH M C tS)) M C tS (W.setRow g (bH M C tS)):=by
     refine ⟨⟨_,setRow_heap _ _ _ _ _ _ x.row⟩,?_,x.ne,?_,rfl,rfl,rfl,Nat.le_refl _,λ_ _ _=>rfl,hT.below E,ab,ab⟩;·rw [setRow_size];exact x.fam.other λq J k e=>setRow_other _ _ _ _ (λe2=>x.ne q J (by rw [e,e2]))
     ·rw [setRow_size];exact x.b.two
    generalize W.setRow g (bH M C tS)=u at E r1 q0 ⊢;refine aS (R:=[]) trivial {} 40 (Q _ _ _ _ C q0) ?_;rintro e c ⟨rfl,D,tx,K⟩;refine ⟨_,0,rfl,?_⟩;have s:∀ k,k<w.heap.size+2->c.heap[k]?=u.heap[k]?:=λk I=>K.block k I ab;have b2:Bw w c:=⟨K.os.trans E.os,K.tape.trans E.tape,K.output.trans E.output,Nat.le_trans E.size K.size,λk I=>(s k ab).trans (E.block k I)⟩;have r2:c.heap[w.heap.size+1]?=some (.cells (aq zeroM zeroA) 32 (0,0)):=(s _ ab).trans r1;refine aL 4 1 ?_;refine cw (R:=[⟨g,bH V.1 D tx,[]⟩]) ⟨K.row.in_,trivial⟩ {} 40 (aG (g:=w.heap.size+1) (t:=32) (ty:=32) (old:=aq zeroM zeroA) (cells:=aq V.1 D) r2 al rfl (eX _ _)) ?_;refine fP (R:=[]) trivial {} 40 λa I=>⟨.tuple #[.agg (aq V.1 D),.i V.2],uz I rfl al al (setRow_heap _ _ _ _ _ _ r2) underlying32 rfl al,D,rfl,?_,bm b2 ab _⟩;refine bx.low (B:=w.heap.size+2) ?_ ab (Nat.le_refl _);rw [setRow_size];exact K.fam.mono λk v p f=>setRow_other _ _ _ _ ab
   refine ae Bs.eng {cv:=[(7,fW X)]} 9 (Bs.start _ _) λW0 h0=>?_;refine ah [.code (az 2 (aW Tryz.f11))] [(1,.p w.heap.size 0,1),(2,.p (w.heap.size+1) 0,2)] ?_;refine an (R:=[]) trivial {} 1 ?_;refine iH 1 ?_;have O:=λW (h:Bs w [(aq M A,32),(aq zeroM zeroA,32)] W)=>oT A.ar M.ram.length A.cr M.ram W rfl hl.ram (hs.below h.2).ram;have H:=λ(y:Option Addr) (F B:Nat) W (h:Bs w [(aq M A,32),(aq zeroM zeroA,32)] W) (hR:bx B W.heap.size W [aF y M.ram.length F M.ram]) (hB:B<=W.heap.size)=>rJ M A M.ram y M.ram.length F B W hl (hs.below h.2) hR hB rfl;have d:=h0.below (Below.refl W0.heap.size W0).drew;have s0:=d.two;have N:∀ W:World,Bw W (W.alloc (.cells (bH zeroM zeroA ⟨.nilFunc,0,0,0,0,0,0,.nilIface,0,0,false,false,0,0⟩) 71)):=λW=>bal _ _;have b:∀ W:World,(W.alloc (.cells (bH zeroM zeroA ⟨.nilFunc,0,0,0,0,0,0,.nilIface,0,0,false,false,0,0⟩) 71)).heap.size=W.heap.size+1:=λW=>World.size_alloc _ _;have m:=λ(W:World)=>dW (P:=prog) (T:=71) (z:=.agg (bH zeroM zeroA ⟨.nilFunc,0,0,0,0,0,0,.nilIface,0,0,false,false,0,0⟩)) al W;have zc:(Value.agg (bH zeroM zeroA ⟨.nilFunc,0,0,0,0,0,0,.nilIface,0,0,false,false,0,0⟩)).cells=(bH zeroM zeroA ⟨.nilFunc,0,0,0,0,0,0,.nilIface,0,0,false,false,0,0⟩):=rfl;rw [zc] at m;generalize W0.drew=u at d s0 ⊢;refine ae (wg d) {} 3 rfl ?_;rintro _ rfl;rename_i u;refine rv (i:=3) (j:=6) ?_ ?_
   ·refine qb (O _ d) ?_;rintro e c ⟨y,F,rfl,Z,s⟩;have p:=d.below s;have L:=s.size;have Y:=GO Z L;refine ⟨_,0,rfl,p,?_⟩;refine rv (i:=4) (j:=6) ?_ ?_
    ·refine qb (H y F _ c p Y L) ?_;rintro e l ⟨C,_,_,rfl,G,n3,U⟩;have f:=p.below U;have z3:=U.size;have r:=f.below (N l);have o:Pr w (aq M A) l.heap.size M C (l.alloc (.cells (bH zeroM zeroA ⟨.nilFunc,0,0,0,0,0,0,.nilIface,0,0,false,false,0,0⟩) 71)):=⟨r,heap_alloc_new _ _,(G.below (N l)).low s0 (by rw [b];omega),λq J e=>by have:=G.hi q J _ e;omega,ab⟩;refine ⟨_,0,rfl,f,?_⟩;refine rv (i:=5) (j:=6) ?_ ?_;·refine uS 0 (Nh M C l) f ?_;refine dU 0 (m l) (hS:=λ_=>r) ?_;refine ae (wg r) {} 1 rfl ?_;rintro _ rfl;refine bJ (aG (g:=l.heap.size) (t:=71) (ty:=71) (old:=(bH zeroM zeroA ⟨.nilFunc,0,0,0,0,0,0,.nilIface,0,0,false,false,0,0⟩)) (cells:=bH M C tS) o.row al rfl (tT _ _)) ?_;refine an (R:=[]) trivial {} 1 ?_;exact ah _ _ (fin _ _ C _ o)
     ·refine uS 0 (m l) r ?_;refine ae (wg r) {} 2 rfl ?_;rintro _ rfl;refine bJ (aG (g:=l.heap.size) (t:=71) (ty:=71) (old:=(bH zeroM zeroA ⟨.nilFunc,0,0,0,0,0,0,.nilIface,0,0,false,false,0,0⟩)) (cells:=bH M C tS) o.row al rfl (tT _ _)) ?_;refine an (R:=[]) trivial {} 1 ?_;exact ah _ _ (fin _ _ C _ o)
    ·have f:=p.below (N c);refine uS 0 (m c) f ?_;have G:=(Y.below (N c)).low (Nat.le_refl _) (show c.heap.size<=(c.alloc (.cells (bH zeroM zeroA ⟨.nilFunc,0,0,0,0,0,0,.nilIface,0,0,false,false,0,0⟩) 71)).heap.size by rw [b];omega);refine lQ (H y F _ _ f G (by rw [b];omega)) ?_;rintro e W4 ⟨C,_,_,rfl,f4,n4,k4⟩;have r:=f.below k4;have o:Pr w (aq M A) c.heap.size M C W4:=by
      refine ⟨r,bA k4 (heap_alloc_new _ _),f4.low s0 (Nat.le_refl _),λq J e=>?_,ab⟩;rcases n4 q J _ e with n | n;·rw [b] at n;omega
      ·have:=(Z.lt _ n).2;omega
     refine ⟨_,0,rfl,λ_=>r,?_⟩;refine ae (wg r) {} 2 rfl ?_;rintro _ rfl;refine bJ (aG (g:=c.heap.size) (t:=71) (ty:=71) (old:=(bH zeroM zeroA ⟨.nilFunc,0,0,0,0,0,0,.nilIface,0,0,false,false,0,0⟩)) (cells:=bH M C tS) o.row al rfl (tT _ _)) ?_;refine an (R:=[]) trivial {} 1 ?_;exact ah _ _ (fin _ _ C _ o)
   ·have v:=d.below (N u);refine uS 0 (m u) v ?_;refine lQ (O _ v) ?_;rintro e c ⟨y,F,rfl,Z,s⟩;have p:=v.below s;have L:=s.size;have Y:=GO Z L;refine ⟨_,0,rfl,λ_=>p,?_⟩;refine lQ (H y F _ c p Y L) ?_;rintro e l ⟨C,_,_,rfl,G,n3,U⟩;have f:=p.below U;rw [b] at L;have o:Pr w (aq M A) u.heap.size M C l:=(by refine ⟨f,bA U (bA s (heap_alloc_new _ _)),G.low (by rw [b];omega) (Nat.le_refl _),λq J e=>?_,ab⟩;have:=((G.own q J).lt _ e).1;rw [b] at this;omega);refine ⟨_,0,rfl,λ_=>f,?_⟩;refine ae (wg f) {} 2 rfl ?_;rintro _ rfl;refine bJ (aG (g:=u.heap.size) (t:=71) (ty:=71) (old:=(bH zeroM zeroA ⟨.nilFunc,0,0,0,0,0,0,.nilIface,0,0,false,false,0,0⟩)) (cells:=bH M C tS) o.row al rfl (tT _ _)) ?_;refine an (R:=[]) trivial {} 1 ?_;exact ah _ _ (fin _ _ C _ o)
theorem Gw.step {M:MV} (h:Gw M):Gw (fL M).1:=Ps h λl p a=>zX l p a
section
variable {B hh r : Nat} {M M' M2 : MV} {A A' A2 : MA} {w W W' : World} {xs : List Int} {a : Option Addr} {c : Nat}
end
section
variable {B hh r : Nat} {M : MV} {A : MA} {w : World}
end
def Ru (M N:MV):Prop:=N.pr=M.pr/\N.x=M.x/\N.cs.getD 21 0=M.cs.getD 21 0/\N.wt=M.wt
def Rz (M N:MV):Prop:=M.pr<=N.pr/\N.x=M.x/\N.cs.getD 21 0=M.cs.getD 21 0/\N.wt=M.wt
theorem Ru.rz {M N Q:MV} (h:Ru M N) (k:Rz N Q):Rz M Q:=⟨h.1 ▸ k.1,k.2.1.trans h.2.1,k.2.2.1.trans h.2.2.1,k.2.2.2.trans h.2.2.2⟩
theorem Ru.trans {M N Q:MV} (h:Ru M N) (k:Ru N Q):Ru M Q:=⟨k.1.trans h.1,k.2.1.trans h.2.1,k.2.2.1.trans h.2.2.1,k.2.2.2.trans h.2.2.2⟩
theorem Ni (l:List Int) (d:Bool) (p t pc v:Int):(gW l d p t pc v).getD 21 0=l.getD 21 0:=by
 cases d;·show ((((l.set 7 t).set 6 (bits .andNot .u64 pc 3)).set 8 v).set 0 (lP (l.getD 0 0) p)).getD 21 0=_;rw [dC _ _ _ _ ab,dC _ _ _ _ ab,dC _ _ _ _ ab,dC _ _ _ _ ab]
 ·show ((((l.set 13 t).set 12 (bits .andNot .u64 pc 3)).set 14 v).set 0 (kR (l.getD 0 0) (p==1))).getD 21 0=_;rw [dC _ _ _ _ ab,dC _ _ _ _ ab,dC _ _ _ _ ab,dC _ _ _ _ ab]
theorem pE {p:Int} (h:bC p=true):p=0\/p=1\/p=3:=by unfold bC at h;simp only [Bool.or_eq_true,beq_iff_eq] at h;omega
theorem GP {M:MV} (b:bC M.pr=true) (k:Nat) (i:Bool) (v:Int):Rz M (aK M k i v):=by
 refine ⟨?_,rfl,Ni _ _ _ _ _ _,rfl⟩;show M.pr<=pH (cE M.cs M.pr k i);have d:=pE b;cases a:cE M.cs M.pr k i with
 | false=>show M.pr<=3;omega
 | true =>show M.pr<=1;unfold cE at a;rw [Bool.and_eq_true] at a;have c:¬ M.pr=3:=(by simpa using a.1);omega
theorem Nj (M:MV) (pa:Int):Ru M (mB M pa):=by unfold mB;split<;>exact ⟨rfl,rfl,rfl,rfl⟩
theorem GQ (M:MV) (D:DV):Ru M (cC (cP M D)):=⟨rfl,rfl,dC _ _ _ _ ab,rfl⟩
theorem TI (M:MV) (pa size kind x:Int):Ru M (qU M pa size kind x).2.1:=by
 unfold qU;split
 ·split;·exact Ru.trans (N:=bL M _) ⟨rfl,rfl,rfl,rfl⟩ (Nj _ pa)
  ·exact ⟨rfl,rfl,rfl,rfl⟩
 ·split
  ·split;·exact GQ _ _
   ·exact ⟨rfl,rfl,rfl,rfl⟩
  ·split
   ·split;·exact (GQ _ _).trans (Nj _ pa)
    ·exact ⟨rfl,rfl,rfl,rfl⟩
   ·exact ⟨rfl,rfl,rfl,rfl⟩
theorem iA (M:MV) (a n kind x:Int):Ru M (aC M a n kind x).2.1:=by
 unfold aC;split;·exact ⟨rfl,rfl,rfl,rfl⟩
 ·unfold wP;split;·exact ⟨rfl,rfl,rfl,rfl⟩
  ·split;·exact ⟨rfl,rfl,rfl,rfl⟩
   ·exact Ru.trans (N:=bL M _) ⟨rfl,rfl,rfl,rfl⟩ (TI _ _ _ _ _)
def Sx (M:MV) (V:MV × Int):Prop:=(V.2=1/\V.1.pr<=M.pr)\/(V.2=2/\Rz M V.1)
theorem Ru.sx {M N:MV} {V:MV × Int} (h:Ru M N) (k:Sx N V):Sx M V:=k.imp (λk=>⟨k.1,h.1 ▸ k.2⟩) λk=>⟨k.1,h.rz k.2⟩
theorem fZ {M N:MV} (a:bC M.pr=true) (h:Ru M N) (k:Nat) (i:Bool) (v:Int):Sx M (aK N k i v,2):=Or.inr ⟨rfl,h.rz (GP (h.1 ▸ a) k i v)⟩
theorem jX {M N:MV} (h:N.pr=M.pr) (rd x t:Int):Sx M (aT N rd x t,1):=Or.inl ⟨rfl,Int.le_of_eq h⟩
theorem nt (M:MV):Ru M M:=⟨rfl,rfl,rfl,rfl⟩
theorem PF {M:MV} (c:bC M.pr=true) (i:Ins) (a b n:Int):Sx M (nz M i a b n):=by
 unfold nz;split;·exact fZ c (nt M) _ _ _
 ·exact jX rfl _ _ _
theorem PH {M:MV} (b:bC M.pr=true) (i:Ins) (a:Int):Sx M (lI M i a):=by
 unfold lI;dsimp only;split;·exact fZ b (iA _ _ _ _ _) _ _ _
 ·exact jX (iA _ _ _ _ _).1 _ _ _
theorem Nk {M:MV} (c:bC M.pr=true) (i:Ins) (a b:Int):Sx M (lJ M i a b):=by
 unfold lJ;dsimp only;split;·exact fZ c (iA _ _ _ _ _) _ _ _
 ·exact jX (iA _ _ _ _ _).1 _ _ _
theorem Sz (M:MV) (a kind:Int):Ru M (cZ M a kind):=⟨rfl,rfl,rfl,rfl⟩
theorem PJ {M:MV} (d:bC M.pr=true) (i:Ins) (a b:Int):Sx M (hZ M i a b):=by
 have c:=Sz M a 3;unfold hZ;split
 ·unfold SJ;dsimp only;split;·exact fZ d (iA _ _ _ _ _) _ _ _
  ·exact Or.inl ⟨rfl,Int.le_of_eq (iA M a _ 2 0).1⟩
 ·split;·exact fZ d (nt M) _ _ _
  ·split;·exact fZ d c _ _ _
   ·split
    ·unfold TU;split
     ·dsimp only;split;·exact fZ d (c.trans (iA _ _ _ _ _)) _ _ _
      ·exact Or.inl ⟨rfl,Int.le_of_eq (c.trans (iA (cZ M a 3) a _ 3 b)).1⟩
     ·exact Or.inl ⟨rfl,Int.le_of_eq c.1⟩
    ·unfold Pi;dsimp only;split;·exact fZ d (c.trans (iA _ _ _ _ _)) _ _ _
     ·split;·exact fZ d ((c.trans (iA _ _ _ _ _)).trans (iA _ _ _ _ _)) _ _ _
      ·exact jX ((c.trans (iA _ _ _ _ _)).trans (iA _ _ _ _ _)).1 _ _ _
theorem SA {M:MV} (b:bC M.pr=true) (i:Ins) (a w:Int):Sx M (ml M i a w):=by
 unfold ml;split;·exact fZ b (nt M) _ _ _
 ·dsimp only;split;·exact Or.inl ⟨rfl,Int.le_refl _⟩
  ·exact jX rfl _ _ _
theorem SB {M:MV} (h:Gw M) (b:bC M.pr=true) (i:Ins) (w:Int):Sx M (jN M i w):=by
 obtain ⟨k,c,_,_,_,_⟩:=ay h.1.ok;have u0:=h.1.mw.cs 0;have g:=dR c 0 ab;have d:=pE b;unfold jN;split;·exact fZ b (nt M) _ _ _
 ·split;·exact fZ b (nt M) _ _ _
  ·split
   ·split;·exact fZ b (nt M) _ _ _
    ·rename_i a;refine Or.inl ⟨rfl,?_⟩;show cW (M.cs.getD 0 0) (i.op==96)<=M.pr;cases f:(i.op==96) with
     | true =>
       rw [f] at a;have n:M.pr=3:=by
        rcases d with e|e|e;·rw [e] at a;exact absurd rfl a
        ·rw [e] at a;exact absurd rfl a
        ·exact e
       have:=pE (vq _ u0 g);show wrap64 (bits .and .u64 (M.cs.getD 0 0/2048) 3)<=M.pr;omega
     | false =>
       rw [f] at a;have j:1<=M.pr:=by
        rcases d with e|e|e;·rw [e] at a;exact absurd rfl a
        ·omega
        ·omega
       show wrap64 (ak (M.cs.getD 0 0) 8)<=M.pr;rw [rL _ 8 u0];have l:wrap64 0=0:=bv;have m:wrap64 1=1:=bv;split;·rw [m];exact j
       ·rw [l];omega
   ·split;·exact fZ b (nt M) _ _ _
    ·split;·exact Or.inl ⟨rfl,Int.le_refl _⟩
     ·exact jX rfl _ _ _
theorem PL {M:MV} (h:Gw M) (i:Ins) (w:Int):Sx M (cR M i w):=by
 obtain ⟨_,_,a,_,_,_⟩:=ay h.1.ok;unfold cR;dsimp only;split;·exact jX rfl _ _ _
 split;·exact jX rfl _ _ _
 split;·exact PF a _ _ _ _
 split;·exact PH a _ _
 split;·exact Nk a _ _ _
 split;·exact jX rfl _ _ _
 split;·exact PJ a _ _ _
 split;·exact jX rfl _ _ _
 split;·exact SA a _ _ _
 ·exact SB h a _ _
theorem JC {M:MV} (h:Gw M):((fL M).2=4/\(fL M).1=M)\/((fL M).2=1/\(fL M).1.pr<=M.pr)\/(((fL M).2=2\/(fL M).2=3)/\M.pr<=(fL M).1.pr/\(fL M).1.x=M.x/\(fL M).1.cs.getD 21 0=M.cs.getD 21 0/\(fL M).1.wt=false):=by
 obtain ⟨_,_,a,_,_,_⟩:=ay h.1.ok;have b:Gw (fj M false):=⟨h.1.wait false,h.2⟩;have fin:∀ V,Sx (fj M false) V->(V.2=4/\V.1=M)\/(V.2=1/\V.1.pr<=M.pr)\/((V.2=2\/V.2=3)/\M.pr<=V.1.pr/\V.1.x=M.x/\V.1.cs.getD 21 0=M.cs.getD 21 0/\V.1.wt=false):=λV c=>by
  rcases c with k|k;·exact Or.inr (Or.inl k)
  ·exact Or.inr (Or.inr ⟨Or.inl k.1,k.2⟩)
 unfold fL;split;·exact Or.inl ⟨rfl,rfl⟩
 ·split;·exact Or.inr (Or.inr ⟨Or.inr rfl,GP (M:=fj M false) a _ _ _⟩)
  ·dsimp only;split;·exact fin _ (fZ (M:=fj M false) a (iA _ _ _ _ _) _ _ _)
   ·split;·exact fin _ (fZ (M:=fj M false) a (iA _ _ _ _ _) _ _ _)
    ·exact fin _ ((iA _ _ _ _ _).sx (PL (jx b M.pc 4 1 kO) _ _))
end Go.Proofs.YtjifdmoehfbihaaGreatDoor
