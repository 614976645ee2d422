/- Own lemmas. -/
import Derived.Test.YtjifdmoehfbihaaGreatDoorAut
import Derived.WalkKit
import Derived.Deep.RegionHeld3
namespace Go.Proofs.YtjifdmoehfbihaaGreatDoor
open Go.RowKit
set_option linter.unusedVariables false
section
variable {P : Program} {ops : Array Oper} {Q : Exit -> Act -> World -> Prop} {md : Region.Mode} {S : World -> Prop} {k : Nat}
def gY (P:Program) (md:Region.Mode) (ops:Array Oper) (Q:Exit->Act->World->Prop) (S:World->Prop) (k:Nat):Nat->Array Bool->Act->World->Prop
 | 0,listed,a,w=>Region.ready md ops listed=[]/\Q .normal a w
 | fuel+1,listed,a,w =>
   (Region.ready md ops listed=[]->Q .normal a w) /\
   ∀ i ∈ Region.ready md ops listed,wpOp P ops Q i (λc b=>(i≠k->S b/\gY P md ops Q S k fuel (listed.setIfInBounds i true) c b)/\(i=k->wpAny P md ops Q fuel (listed.setIfInBounds i true) c b)) a w
theorem ur:∀ (fuel:Nat) (listed:Array Bool) (a:Act) (w:World),gY P md ops Q S k fuel listed a w->wpAny P md ops Q fuel listed a w
 | 0,_,_,_,h=>h
 | fuel+1,_,_,_,h=>⟨h.1,λi d=>wpOp_mono (λc f b=>by
  by_cases e:i=k
  ·exact b.2 e
  ·exact ur fuel _ c f (b.1 e).2) (h.2 i d)⟩
def nK (md:Region.Mode) (ops:Array Oper) (k i:Nat):Bool:=(i != k)&&(match ops[k]? with | some a=>a.after.any (λe=>Region.binds md e&&(e.on==i)) | none=>false)
theorem CV {i:Nat} (h:nK md ops k i=true):i≠k/\∃ b e,ops[k]?=some b/\e ∈ b.after/\Region.binds md e=true/\e.on=i:=by
 unfold nK at h;simp only [Bool.and_eq_true,bne_iff_ne,ne_eq] at h;refine ⟨h.1,?_⟩;have a:=h.2;cases c:ops[k]? with
 | none=>rw [c] at a;cases a
 | some b =>rw [c] at a;simp only [Array.any_eq_true,Bool.and_eq_true,beq_iff_eq] at a;obtain ⟨j,g,d,f⟩:=a;exact ⟨b,_,rfl,Array.getElem_mem g,d,f⟩
def pL (md:Region.Mode) (ops:Array Oper) (listed:Array Bool):Prop:=∀ j o,ops[j]?=some o->listed.getD j false=true->∀ e ∈ o.after,Region.binds md e=true->listed.getD e.on false=true
def tG (md:Region.Mode) (ops:Array Oper) (listed:Array Bool):Bool:=(List.range listed.size).all λj=>!(listed.getD j false)||(match ops[j]? with | some o=>o.after.all λe=>!(Region.binds md e)||listed.getD e.on false | none=>true)
theorem Ap {listed:Array Bool} (h:tG md ops listed=true):pL md ops listed:=by
 intro j o k d e g f;unfold tG at h;rw [List.all_eq_true] at h;have i:j<listed.size:=by
  rcases Nat.lt_or_ge j listed.size with a|a;·exact a
  ·simp [Array.getD,Nat.not_lt.2 a] at d
 have b:=h j (List.mem_range.2 i);rw [d,k] at b;simp only [Bool.not_true,Bool.false_or,Array.all_eq_true] at b;obtain ⟨x,l,rfl⟩:=Array.getElem_of_mem g;have c:=b x l;rw [f] at c;simpa using c
def qZ (md:Region.Mode) (ops:Array Oper) (i:Nat):Nat->Nat->Bool
 | 0,_=>false
 | f+1,k=>nK md ops k i||(List.range ops.size).any λj=>nK md ops k j&&qZ md ops i f j
theorem sd {i:Nat} {listed:Array Bool} (o:pL md ops listed):∀ f k,qZ md ops i f k=true->(listed.getD k false=true\/k ∈ Region.ready md ops listed)->listed.getD i false=true
 | 0,_,h,_=>l0
 | f+1,k,h,g=>by
   have a:∀ j,nK md ops k j=true->listed.getD j false=true:=by
    intro j d
    obtain ⟨_,r,e,q,p,n,c⟩:=CV d
    rcases g with g|g
    ·have:=o k r q g e p n
     rw [c] at this;exact this
    ·obtain ⟨_,s,l,b⟩:=mem_ready.1 g
     rw [q] at l
     cases l
     have m:=b e p n
     rw [c] at m
     exact m
   unfold qZ at h
   rw [Bool.or_eq_true] at h
   rcases h with h|h
   ·exact a i h
   ·rw [List.any_eq_true] at h
    obtain ⟨j,_,d⟩:=h
    rw [Bool.and_eq_true] at d
    exact sd o f j d.2 (Or.inl (a j d.1))
theorem nL {listed:Array Bool} {i j:Nat} (h:listed.getD i false=true):(listed.setIfInBounds j true).getD i false=true:=by
 simp only [Array.getD_eq_getD_getElem?,Array.getElem?_setIfInBounds] at h ⊢;split
 ·split;·rfl
  ·rename_i a b;subst a;simp [Array.getElem?_eq_none (Nat.not_lt.1 b)] at h
 ·exact h
theorem CW {listed:Array Bool} (i:pL md ops listed) {j:Nat} (k:j ∈ Region.ready md ops listed):pL md ops (listed.setIfInBounds j true):=by
 intro x o g c e f d;by_cases h:x=j;·subst h;obtain ⟨_,l,b,a⟩:=mem_ready.1 k;rw [g] at b;cases b;exact nL (a e f d)
 ·refine nL (i x o g ?_ e f d);simp only [Array.getD_eq_getD_getElem?,Array.getElem?_setIfInBounds] at c ⊢;rw [if_neg (Ne.symm h)] at c;exact c
theorem wv {i:Nat} {u:Oper} {v:Value} (M:ops[i]?=some u) (r:∀ (j:Nat) (o:Oper) z b,ops[j]?=some o->o.op≠.select z b) (U:∀ c a w,Q (.panic c) (a.put u.dst v) w->Q (.panic c) a w) (E:i≠k) (f:Nat) (hk:qZ md ops i f k=true):∀ (fuel:Nat) (listed:Array Bool) (a:Act) (w:World),pL md ops listed -> (∀ j x,ops[j]?=some x->j≠i->listed.getD j true=false->(∀ e ∈ x.after,Region.binds md e=true->e.on≠i)->u.apart ops x=true) -> i ∈ Region.ready md ops listed->YieldsIf P ops S u v a->S w -> gY P md ops Q S k fuel (listed.setIfInBounds i true) (a.put u.dst v) w->gY P md ops Q S k (fuel+1) listed a w:=by
 intro fuel;induction fuel with
 | zero =>
   intro listed a w _ _ q K B H;refine ⟨λh=>(by rw [h] at q;cases q),λj y=>?_⟩;by_cases d:j=i;·subst d;exact K.wpOp M B ⟨λ_=>⟨B,H⟩,λe=>absurd e E⟩
   ·have:=ready_mono y d;rw [H.1] at this;cases this
 | succ fuel X =>
   intro listed a w D m q K B H;refine ⟨λh=>(by rw [h] at q;cases q),λj y=>?_⟩;by_cases d:j=i;·subst d;exact K.wpOp M B ⟨λ_=>⟨B,H⟩,λe=>absurd e E⟩
   ·have l:=H.2 j (ready_mono y d);obtain ⟨p,x,t,C⟩:=mem_ready.1 y;have F:∀ e ∈ x.after,Region.binds md e=true->e.on≠i:=λe W V L=>by
     have l:=C e W V;have A:=(mem_ready.1 q).1;rw [L] at l;rcases Nat.lt_or_ge i listed.size with s|s;·simp [s] at A l;rw [A] at l;cases l
     ·simp [Array.getElem?_eq_none s] at l
    have g:j≠k:=by
     rintro rfl;have l:=sd D f j hk (Or.inr y);have A:=(mem_ready.1 q).1;rcases Nat.lt_or_ge i listed.size with s|s;·simp [s] at A l;rw [A] at l;cases l
     ·simp [Array.getElem?_eq_none s] at l
    have T:=wpOp_putIf t (m j x t d p F) (λz b=>r i u z b M) (λz b=>r j x z b t) U K l;have n:∀ k I,ops[k]?=some I->k≠i->(listed.setIfInBounds j true).getD k true=false ->
     (∀ e ∈ I.after,Region.binds md e=true->e.on≠i)->u.apart ops I=true:=λk I hk N G O=>by
     refine m k I hk N ?_ O
     by_cases g:j=k
     ·subst g;exact p
     ·rw [getD_set_ne true g] at G;exact G
    refine wpOp_mono (λR Y J=>⟨λ_=>⟨(J.2.1 g).1,X (listed.setIfInBounds j true) R Y (CW D y) n (ready_mono q (Ne.symm d)) J.1 (J.2.1 g).1 ?_⟩,λe=>absurd e g⟩) T;rw [Array.setIfInBounds_comm _ _ d];exact (J.2.1 g).2
theorem yC {i:Nat} {b:Oper} {v:Value} {fuel:Nat} {listed:Array Bool} {a:Act} {w:World} (f:ops[i]?=some b)
 (hs:Region.noSelect ops=true) (j:Region.free md ops listed i=true) (hr:(Region.ready md ops listed).contains i=true) (e:i≠k) (hk:qZ md ops i 6 k=true) (d:tG md ops listed=true)
 (g:∀ c a w,Q (.panic c) (a.put b.dst v) w->Q (.panic c) a w) (hy:YieldsIf P ops S b v a) (hS:S w)
 (h:gY P md ops Q S k fuel (listed.setIfInBounds i true) (a.put b.dst v) w):gY P md ops Q S k (fuel+1) listed a w :=
 wv f (Region.noSelect_spec hs) g e 6 hk fuel listed a w (Ap d) (Region.free_spec f j) (by simpa using hr) hy hS h
theorem nM {o:Oper} {v:Value} {a:Act} (h:YieldsIf P ops (λ_=>True) o v a):Yields P ops o v a :=
 h.imp (λ⟨c,b⟩=>⟨c,λw=>b w trivial⟩) id
theorem wA {i:Nat} {t:Oper} {v:Value} (D:ops[i]?=some t) (m:∀ (j:Nat) (o:Oper) x b,ops[j]?=some o->o.op≠.select x b) (T:∀ c a w,Q (.panic c) (a.put t.dst v) w->Q (.panic c) a w) (z:i≠k):∀ (fuel:Nat) (listed:Array Bool) (a:Act) (w:World), (∀ j u,ops[j]?=some u->j≠i->listed.getD j true=false->(∀ e ∈ u.after,Region.binds md e=true->e.on≠i)->t.apart ops u=true) -> i ∈ Region.ready md ops listed->Yields P ops t v a->S w -> gY P md ops Q S k fuel (listed.setIfInBounds i true) (a.put t.dst v) w->gY P md ops Q S k (fuel+1) listed a w:=by
 intro fuel;induction fuel with
 | zero =>
   intro listed a w _ p F J H;refine ⟨λh=>(by rw [h] at p;cases p),λj E=>?_⟩;by_cases d:j=i;·subst d;exact (Yields.yieldsIf (S:=λ_=>True) F).wpOp D trivial ⟨λ_=>⟨J,H⟩,λe=>absurd e z⟩
   ·have:=ready_mono E d;rw [H.1] at this;cases this
 | succ fuel X =>
   intro listed a w l p F J H;refine ⟨λh=>(by rw [h] at p;cases p),λj E=>?_⟩;by_cases d:j=i;·subst d;exact (Yields.yieldsIf (S:=λ_=>True) F).wpOp D trivial ⟨λ_=>⟨J,H⟩,λe=>absurd e z⟩
   ·have q:=H.2 j (ready_mono E d);obtain ⟨n,u,s,y⟩:=mem_ready.1 E;have A:∀ e ∈ u.after,Region.binds md e=true->e.on≠i:=λe V U K=>by
     have q:=y e V U;have O:=(mem_ready.1 p).1;rw [K] at q;rcases Nat.lt_or_ge i listed.size with I|I;·simp [I] at O q;rw [O] at q;cases q
     ·simp [Array.getElem?_eq_none I] at q
    have R:=wpOp_putIf (S:=λ_=>True) s (l j u s d n A) (λx b=>m i t x b D) (λx b=>m j u x b s) T (Yields.yieldsIf F) q;have g:∀ k C,ops[k]?=some C->k≠i->(listed.setIfInBounds j true).getD k true=false ->
     (∀ e ∈ C.after,Region.binds md e=true->e.on≠i)->t.apart ops C=true:=λk C W L B M=>by
     refine l k C W L ?_ M
     by_cases f:j=k
     ·subst f;exact n
     ·rw [getD_set_ne true f] at B;exact B
    by_cases f:j=k;·refine wpOp_mono (λG N r=>⟨λe=>absurd f e,λ_=>?_⟩) R;refine wpAny_first D m T fuel (listed.setIfInBounds j true) G N g (ready_mono p (Ne.symm d)) (nM r.1) ?_;rw [Array.setIfInBounds_comm _ _ d];exact r.2.2 f
    ·refine wpOp_mono (λG N r=>⟨λ_=>⟨(r.2.1 f).1,X (listed.setIfInBounds j true) G N g (ready_mono p (Ne.symm d)) (nM r.1) (r.2.1 f).1 ?_⟩,λe=>absurd e f⟩) R;rw [Array.setIfInBounds_comm _ _ d];exact (r.2.1 f).2
theorem yD {i:Nat} {b:Oper} {v:Value} {fuel:Nat} {listed:Array Bool} {a:Act} {w:World} (d:ops[i]?=some b)
 (hs:Region.noSelect ops=true) (f:Region.free md ops listed i=true) (hr:(Region.ready md ops listed).contains i=true) (hk:i≠k)
 (e:∀ c a w,Q (.panic c) (a.put b.dst v) w->Q (.panic c) a w) (hy:Yields P ops b v a) (hS:S w)
 (h:gY P md ops Q S k fuel (listed.setIfInBounds i true) (a.put b.dst v) w):gY P md ops Q S k (fuel+1) listed a w :=
 wA d (Region.noSelect_spec hs) e hk fuel listed a w (Region.free_spec d f) (by simpa using hr) hy hS h
theorem CY {i:Nat} {o:Oper} {fuel:Nat} {listed:Array Bool} {a:Act} {w:World} (m:ops[i]?=some o) (hr:Region.ready md ops listed=[i]) (hk:i≠k) (h:∀ b:Act->World->Prop,Shut (∀ a w,S w->(S w->gY P md ops Q S k fuel (listed.setIfInBounds i true) a w)->b a w)->if Region.wanted o (yielded ops a.tmps)=true then Oper.wp P o a w b Q else b (a.put o.dst undef) w):gY P md ops Q S k (fuel+1) listed a w:=by refine ⟨λf=>absurd (hr.symm.trans f) (List.cons_ne_nil _ _),λj d=>?_⟩;rw [hr] at d;obtain rfl:=List.mem_singleton.1 d;exact wpOp_step m (λb g=>h b (λa w c l=>g a w ⟨λ_=>⟨c,l c⟩,λe=>absurd e hk⟩))
theorem CZ {o:Oper} {fuel:Nat} {listed:Array Bool} {a:Act} {w:World} (i:ops[k]?=some o) (hr:Region.ready md ops listed=[k]) (h:∀ b:Act->World->Prop,Shut (∀ a w,wpAny P md ops Q fuel (listed.setIfInBounds k true) a w->b a w)->if Region.wanted o (yielded ops a.tmps)=true then Oper.wp P o a w b Q else b (a.put o.dst undef) w):gY P md ops Q S k (fuel+1) listed a w:=by refine ⟨λd=>absurd (hr.symm.trans d) (List.cons_ne_nil _ _),λj c=>?_⟩;rw [hr] at c;obtain rfl:=List.mem_singleton.1 c;exact wpOp_step i (λb f=>h b (λa w g=>f a w ⟨λe=>absurd rfl e,λ_=>g⟩))
theorem Hm {i:Nat} {o:Oper} {fuel:Nat} {listed:Array Bool} {a:Act} {w:World} (e:ops[i]?=some o) (hr:Region.ready md ops listed=[i]) (h:∀ b:Act->World->Prop,Shut (∀ a w,wpAny P md ops Q fuel (listed.setIfInBounds i true) a w->b a w)->if Region.wanted o (yielded ops a.tmps)=true then Oper.wp P o a w b Q else b (a.put o.dst undef) w):wpAny P md ops Q (fuel+1) listed a w:=by refine ⟨λd=>absurd (hr.symm.trans d) (List.cons_ne_nil _ _),λj c=>?_⟩;rw [hr] at c;obtain rfl:=List.mem_singleton.1 c;exact wpOp_step e h
end
end Go.Proofs.YtjifdmoehfbihaaGreatDoor
