/- Own lemmas. -/
import Derived.WalkKit
import Derived.Deep.RegionHeld3
namespace Go.Proofs.YtbajeckeeekhnaaGreat
open Go.RowKit
set_option linter.unusedVariables false

section
variable {P : Program} {ops : Array Oper} {Q : Exit → Act → World → Prop} {md : Region.Mode} {S : World → Prop} {k : Nat}

def wpAnyK (P:Program) (md:Region.Mode) (ops:Array Oper) (Q:Exit→Act→World→Prop) (S:World→Prop) (k:Nat):Nat→Array Bool→Act→World→Prop
 | 0,listed,a,w=>Region.ready md ops listed=[]∧Q .normal a w
 | fuel+1,listed,a,w =>
   (Region.ready md ops listed=[]→Q .normal a w) ∧
   ∀ i ∈ Region.ready md ops listed,wpOp P ops Q i (fun a' w'=>(i≠k→S w'∧wpAnyK P md ops Q S k fuel (listed.setIfInBounds i true) a' w')∧(i=k→wpAny P md ops Q fuel (listed.setIfInBounds i true) a' w')) a w

theorem wpAny_of_K:∀ (fuel:Nat) (listed:Array Bool) (a:Act) (w:World),wpAnyK P md ops Q S k fuel listed a w→wpAny P md ops Q fuel listed a w
 | 0,_,_,_,h=>h
 | fuel+1,_,_,_,h=>⟨h.1,fun i hi=>wpOp_mono (fun a' w' h'=>by
  by_cases e:i=k
  ·exact h'.2 e
  ·exact wpAny_of_K fuel _ a' w' (h'.1 e).2) (h.2 i hi)⟩

theorem wpAnyK_first {i:Nat} {oi:Oper} {v:Value} (hi:ops[i]?=some oi) (hsel:∀ (j:Nat) (o:Oper) cs b,ops[j]?=some o→o.op≠.select cs b)
 (hQ:∀ c a w,Q (.panic c) (a.put oi.dst v) w→Q (.panic c) a w) (hik:i≠k) (hk:∃ ok e,ops[k]?=some ok∧e ∈ ok.after∧Region.binds md e=true∧e.on=i) :
 ∀ (fuel:Nat) (listed:Array Bool) (a:Act) (w:World),
  (∀ j oj,ops[j]?=some oj→j≠i→listed.getD j true=false→(∀ e ∈ oj.after,Region.binds md e=true→e.on≠i)→oi.apart ops oj=true) →
  i ∈ Region.ready md ops listed→YieldsIf P ops S oi v a→S w →
  wpAnyK P md ops Q S k fuel (listed.setIfInBounds i true) (a.put oi.dst v) w→wpAnyK P md ops Q S k (fuel+1) listed a w:=by
 intro fuel
 induction fuel with
 | zero =>
   intro listed a w _ hr hy hS H
   refine ⟨fun h=>(by rw [h] at hr;cases hr),fun j hj=>?_⟩
   by_cases hji:j=i
   ·subst hji;exact hy.wpOp hi hS ⟨fun _=>⟨hS,H⟩,fun e=>absurd e hik⟩
   ·have:=ready_mono hj hji
    rw [H.1] at this
    cases this
 | succ fuel ih =>
   intro listed a w hfree hr hy hS H
   refine ⟨fun h=>(by rw [h] at hr;cases hr),fun j hj=>?_⟩
   by_cases hji:j=i
   ·subst hji;exact hy.wpOp hi hS ⟨fun _=>⟨hS,H⟩,fun e=>absurd e hik⟩
   ·have h1:=H.2 j (ready_mono hj hji)
    obtain ⟨hjun,oj,hoj,hall⟩:=mem_ready.1 hj
    have hnot:∀ e ∈ oj.after,Region.binds md e=true→e.on≠i:=fun e he hb heq=>by
     have h1:=hall e he hb
     have h0:=(mem_ready.1 hr).1
     rw [heq] at h1
     rcases Nat.lt_or_ge i listed.size with h' | h'
     ·simp [h'] at h0 h1;rw [h0] at h1;cases h1
     ·simp [Array.getElem?_eq_none h'] at h1
    have hjk:j≠k:=by
     rintro rfl
     obtain ⟨ok,e,ho,he,hb,hei⟩:=hk
     rw [hoj] at ho
     cases ho
     exact hnot e he hb hei
    have h2:=wpOp_putIf hoj (hfree j oj hoj hji hjun hnot) (fun cs b=>hsel i oi cs b hi) (fun cs b=>hsel j oj cs b hoj) hQ hy h1
    have hfree':∀ k ok,ops[k]?=some ok→k≠i→(listed.setIfInBounds j true).getD k true=false →
     (∀ e ∈ ok.after,Region.binds md e=true→e.on≠i)→oi.apart ops ok=true:=fun k ok hk hki hun hno=>by
     refine hfree k ok hk hki ?_ hno
     by_cases hjk:j=k
     ·subst hjk;exact hjun
     ·rw [getD_set_ne true hjk] at hun;exact hun
    refine wpOp_mono (fun a' w' h3=>⟨fun _=>⟨(h3.2.1 hjk).1,ih (listed.setIfInBounds j true) a' w' hfree' (ready_mono hr (Ne.symm hji)) h3.1 (h3.2.1 hjk).1 ?_⟩,fun e=>absurd e hjk⟩) h2
    rw [Array.setIfInBounds_comm _ _ hji]
    exact (h3.2.1 hjk).2

def waitsFor (md:Region.Mode) (ops:Array Oper) (k i:Nat):Bool:=(i != k)&&(match ops[k]? with | some ok=>ok.after.any (fun e=>Region.binds md e&&(e.on==i)) | none=>false)

theorem waits_spec {i:Nat} (h:waitsFor md ops k i=true):i≠k∧∃ ok e,ops[k]?=some ok∧e ∈ ok.after∧Region.binds md e=true∧e.on=i:=by
 unfold waitsFor at h
 simp only [Bool.and_eq_true,bne_iff_ne,ne_eq] at h
 refine ⟨h.1,?_⟩
 have h2:=h.2
 cases ho:ops[k]? with
 | none=>rw [ho] at h2;cases h2
 | some ok =>
   rw [ho] at h2
   simp only [Array.any_eq_true,Bool.and_eq_true,beq_iff_eq] at h2
   obtain ⟨j,hj,h3,h4⟩:=h2
   exact ⟨ok,_,rfl,Array.getElem_mem hj,h3,h4⟩

def ClosedP (md:Region.Mode) (ops:Array Oper) (listed:Array Bool):Prop:=∀ j o,ops[j]?=some o→listed.getD j false=true→∀ e ∈ o.after,Region.binds md e=true→listed.getD e.on false=true

def closedB (md:Region.Mode) (ops:Array Oper) (listed:Array Bool):Bool:=(List.range listed.size).all fun j=>!(listed.getD j false)||(match ops[j]? with | some o=>o.after.all fun e=>!(Region.binds md e)||listed.getD e.on false | none=>true)

theorem closed_spec {listed:Array Bool} (h:closedB md ops listed=true):ClosedP md ops listed:=by
 intro j o ho hl e he hb
 unfold closedB at h
 rw [List.all_eq_true] at h
 have hj:j < listed.size:=by
  rcases Nat.lt_or_ge j listed.size with h' | h'
  ·exact h'
  ·simp [Array.getD,Nat.not_lt.2 h'] at hl
 have h1:=h j (List.mem_range.2 hj)
 rw [hl,ho] at h1
 simp only [Bool.not_true,Bool.false_or,Array.all_eq_true] at h1
 obtain ⟨x,hx,rfl⟩:=Array.getElem_of_mem he
 have h2:=h1 x hx
 rw [hb] at h2
 simpa using h2

def waitsT (md:Region.Mode) (ops:Array Oper) (i:Nat):Nat→Nat→Bool
 | 0,_=>false
 | f+1,k=>waitsFor md ops k i||(List.range ops.size).any fun j=>waitsFor md ops k j&&waitsT md ops i f j

theorem waitsT_spec {i:Nat} {listed:Array Bool} (hc:ClosedP md ops listed):∀ f k,waitsT md ops i f k=true→(listed.getD k false=true∨k ∈ Region.ready md ops listed)→listed.getD i false=true
 | 0,_,h,_=>by cases h
 | f+1,k,h,hk=>by
   have dep:∀ j,waitsFor md ops k j=true→listed.getD j false=true:=by
    intro j hj
    obtain ⟨_,ok,e,ho,he,hb,hei⟩:=waits_spec hj
    rcases hk with hk | hk
    ·have:=hc k ok ho hk e he hb
     rw [hei] at this;exact this
    ·obtain ⟨_,o2,ho2,hall⟩:=mem_ready.1 hk
     rw [ho] at ho2
     cases ho2
     have h1:=hall e he hb
     rw [hei] at h1
     exact h1
   unfold waitsT at h
   rw [Bool.or_eq_true] at h
   rcases h with h | h
   ·exact dep i h
   ·rw [List.any_eq_true] at h
    obtain ⟨j,_,hj⟩:=h
    rw [Bool.and_eq_true] at hj
    exact waitsT_spec hc f j hj.2 (Or.inl (dep j hj.1))

theorem getD_set_false {listed:Array Bool} {i j:Nat} (h:listed.getD i false=true):(listed.setIfInBounds j true).getD i false=true:=by
 simp only [Array.getD_eq_getD_getElem?,Array.getElem?_setIfInBounds] at h ⊢
 split
 ·split
  ·rfl
  ·rename_i h1 h2;subst h1;simp [Array.getElem?_eq_none (Nat.not_lt.1 h2)] at h
 ·exact h

theorem closed_set {listed:Array Bool} (hc:ClosedP md ops listed) {j:Nat} (hj:j ∈ Region.ready md ops listed):ClosedP md ops (listed.setIfInBounds j true):=by
 intro x o ho hl e he hb
 by_cases hx:x=j
 ·subst hx
  obtain ⟨_,o2,ho2,hall⟩:=mem_ready.1 hj
  rw [ho] at ho2
  cases ho2
  exact getD_set_false (hall e he hb)
 ·refine getD_set_false (hc x o ho ?_ e he hb)
  simp only [Array.getD_eq_getD_getElem?,Array.getElem?_setIfInBounds] at hl ⊢
  rw [if_neg (Ne.symm hx)] at hl
  exact hl

theorem wpAnyK_firstT {i:Nat} {oi:Oper} {v:Value} (hi:ops[i]?=some oi) (hsel:∀ (j:Nat) (o:Oper) cs b,ops[j]?=some o→o.op≠.select cs b)
 (hQ:∀ c a w,Q (.panic c) (a.put oi.dst v) w→Q (.panic c) a w) (hik:i≠k) (f:Nat) (hk:waitsT md ops i f k=true) :
 ∀ (fuel:Nat) (listed:Array Bool) (a:Act) (w:World),ClosedP md ops listed →
  (∀ j oj,ops[j]?=some oj→j≠i→listed.getD j true=false→(∀ e ∈ oj.after,Region.binds md e=true→e.on≠i)→oi.apart ops oj=true) →
  i ∈ Region.ready md ops listed→YieldsIf P ops S oi v a→S w →
  wpAnyK P md ops Q S k fuel (listed.setIfInBounds i true) (a.put oi.dst v) w→wpAnyK P md ops Q S k (fuel+1) listed a w:=by
 intro fuel
 induction fuel with
 | zero =>
   intro listed a w _ _ hr hy hS H
   refine ⟨fun h=>(by rw [h] at hr;cases hr),fun j hj=>?_⟩
   by_cases hji:j=i
   ·subst hji;exact hy.wpOp hi hS ⟨fun _=>⟨hS,H⟩,fun e=>absurd e hik⟩
   ·have:=ready_mono hj hji
    rw [H.1] at this
    cases this
 | succ fuel ih =>
   intro listed a w hcl hfree hr hy hS H
   refine ⟨fun h=>(by rw [h] at hr;cases hr),fun j hj=>?_⟩
   by_cases hji:j=i
   ·subst hji;exact hy.wpOp hi hS ⟨fun _=>⟨hS,H⟩,fun e=>absurd e hik⟩
   ·have h1:=H.2 j (ready_mono hj hji)
    obtain ⟨hjun,oj,hoj,hall⟩:=mem_ready.1 hj
    have hnot:∀ e ∈ oj.after,Region.binds md e=true→e.on≠i:=fun e he hb heq=>by
     have h1:=hall e he hb
     have h0:=(mem_ready.1 hr).1
     rw [heq] at h1
     rcases Nat.lt_or_ge i listed.size with h' | h'
     ·simp [h'] at h0 h1;rw [h0] at h1;cases h1
     ·simp [Array.getElem?_eq_none h'] at h1
    have hjk:j≠k:=by
     rintro rfl
     have h1:=waitsT_spec hcl f j hk (Or.inr hj)
     have h0:=(mem_ready.1 hr).1
     rcases Nat.lt_or_ge i listed.size with h' | h'
     ·simp [h'] at h0 h1;rw [h0] at h1;cases h1
     ·simp [Array.getElem?_eq_none h'] at h1
    have h2:=wpOp_putIf hoj (hfree j oj hoj hji hjun hnot) (fun cs b=>hsel i oi cs b hi) (fun cs b=>hsel j oj cs b hoj) hQ hy h1
    have hfree':∀ k ok,ops[k]?=some ok→k≠i→(listed.setIfInBounds j true).getD k true=false →
     (∀ e ∈ ok.after,Region.binds md e=true→e.on≠i)→oi.apart ops ok=true:=fun k ok hk hki hun hno=>by
     refine hfree k ok hk hki ?_ hno
     by_cases hjk:j=k
     ·subst hjk;exact hjun
     ·rw [getD_set_ne true hjk] at hun;exact hun
    refine wpOp_mono (fun a' w' h3=>⟨fun _=>⟨(h3.2.1 hjk).1,ih (listed.setIfInBounds j true) a' w' (closed_set hcl hj) hfree' (ready_mono hr (Ne.symm hji)) h3.1 (h3.2.1 hjk).1 ?_⟩,fun e=>absurd e hjk⟩) h2
    rw [Array.setIfInBounds_comm _ _ hji]
    exact (h3.2.1 hjk).2

theorem wpAnyK_takeT {i:Nat} {oi:Oper} {v:Value} {fuel:Nat} {listed:Array Bool} {a:Act} {w:World} (hi:ops[i]?=some oi)
 (hs:Region.noSelect ops=true) (hf:Region.free md ops listed i=true) (hr:(Region.ready md ops listed).contains i=true) (hik:i≠k) (hk:waitsT md ops i 6 k=true) (hcl:closedB md ops listed=true)
 (hQ:∀ c a w,Q (.panic c) (a.put oi.dst v) w→Q (.panic c) a w) (hy:YieldsIf P ops S oi v a) (hS:S w)
 (h:wpAnyK P md ops Q S k fuel (listed.setIfInBounds i true) (a.put oi.dst v) w):wpAnyK P md ops Q S k (fuel+1) listed a w :=
 wpAnyK_firstT hi (Region.noSelect_spec hs) hQ hik 6 hk fuel listed a w (closed_spec hcl) (Region.free_spec hi hf) (by simpa using hr) hy hS h

theorem wpAnyK_take {i:Nat} {oi:Oper} {v:Value} {fuel:Nat} {listed:Array Bool} {a:Act} {w:World} (hi:ops[i]?=some oi)
 (hs:Region.noSelect ops=true) (hf:Region.free md ops listed i=true) (hr:(Region.ready md ops listed).contains i=true) (hk:waitsFor md ops k i=true)
 (hQ:∀ c a w,Q (.panic c) (a.put oi.dst v) w→Q (.panic c) a w) (hy:YieldsIf P ops S oi v a) (hS:S w)
 (h:wpAnyK P md ops Q S k fuel (listed.setIfInBounds i true) (a.put oi.dst v) w):wpAnyK P md ops Q S k (fuel+1) listed a w :=
 wpAnyK_first hi (Region.noSelect_spec hs) hQ (waits_spec hk).1 (waits_spec hk).2 fuel listed a w (Region.free_spec hi hf) (by simpa using hr) hy hS h

theorem yields_of_true {o:Oper} {v:Value} {a:Act} (h:YieldsIf P ops (fun _=>True) o v a):Yields P ops o v a :=
 h.imp (fun ⟨hw,hv⟩=>⟨hw,fun w=>hv w trivial⟩) id

theorem wpAnyK_firstP {i:Nat} {oi:Oper} {v:Value} (hi:ops[i]?=some oi) (hsel:∀ (j:Nat) (o:Oper) cs b,ops[j]?=some o→o.op≠.select cs b)
 (hQ:∀ c a w,Q (.panic c) (a.put oi.dst v) w→Q (.panic c) a w) (hik:i≠k) :
 ∀ (fuel:Nat) (listed:Array Bool) (a:Act) (w:World),
  (∀ j oj,ops[j]?=some oj→j≠i→listed.getD j true=false→(∀ e ∈ oj.after,Region.binds md e=true→e.on≠i)→oi.apart ops oj=true) →
  i ∈ Region.ready md ops listed→Yields P ops oi v a→S w →
  wpAnyK P md ops Q S k fuel (listed.setIfInBounds i true) (a.put oi.dst v) w→wpAnyK P md ops Q S k (fuel+1) listed a w:=by
 intro fuel
 induction fuel with
 | zero =>
   intro listed a w _ hr hy hS H
   refine ⟨fun h=>(by rw [h] at hr;cases hr),fun j hj=>?_⟩
   by_cases hji:j=i
   ·subst hji;exact (Yields.yieldsIf (S:=fun _=>True) hy).wpOp hi trivial ⟨fun _=>⟨hS,H⟩,fun e=>absurd e hik⟩
   ·have:=ready_mono hj hji
    rw [H.1] at this
    cases this
 | succ fuel ih =>
   intro listed a w hfree hr hy hS H
   refine ⟨fun h=>(by rw [h] at hr;cases hr),fun j hj=>?_⟩
   by_cases hji:j=i
   ·subst hji;exact (Yields.yieldsIf (S:=fun _=>True) hy).wpOp hi trivial ⟨fun _=>⟨hS,H⟩,fun e=>absurd e hik⟩
   ·have h1:=H.2 j (ready_mono hj hji)
    obtain ⟨hjun,oj,hoj,hall⟩:=mem_ready.1 hj
    have hnot:∀ e ∈ oj.after,Region.binds md e=true→e.on≠i:=fun e he hb heq=>by
     have h1:=hall e he hb
     have h0:=(mem_ready.1 hr).1
     rw [heq] at h1
     rcases Nat.lt_or_ge i listed.size with h' | h'
     ·simp [h'] at h0 h1;rw [h0] at h1;cases h1
     ·simp [Array.getElem?_eq_none h'] at h1
    have h2:=wpOp_putIf (S:=fun _=>True) hoj (hfree j oj hoj hji hjun hnot) (fun cs b=>hsel i oi cs b hi) (fun cs b=>hsel j oj cs b hoj) hQ (Yields.yieldsIf hy) h1
    have hfree':∀ k ok,ops[k]?=some ok→k≠i→(listed.setIfInBounds j true).getD k true=false →
     (∀ e ∈ ok.after,Region.binds md e=true→e.on≠i)→oi.apart ops ok=true:=fun k ok hk hki hun hno=>by
     refine hfree k ok hk hki ?_ hno
     by_cases hjk:j=k
     ·subst hjk;exact hjun
     ·rw [getD_set_ne true hjk] at hun;exact hun
    by_cases hjk:j=k
    ·refine wpOp_mono (fun a' w' h3=>⟨fun e=>absurd hjk e,fun _=>?_⟩) h2
     refine wpAny_first hi hsel hQ fuel (listed.setIfInBounds j true) a' w' hfree' (ready_mono hr (Ne.symm hji)) (yields_of_true h3.1) ?_
     rw [Array.setIfInBounds_comm _ _ hji]
     exact h3.2.2 hjk
    ·refine wpOp_mono (fun a' w' h3=>⟨fun _=>⟨(h3.2.1 hjk).1,ih (listed.setIfInBounds j true) a' w' hfree' (ready_mono hr (Ne.symm hji)) (yields_of_true h3.1) (h3.2.1 hjk).1 ?_⟩,fun e=>absurd e hjk⟩) h2
     rw [Array.setIfInBounds_comm _ _ hji]
     exact (h3.2.1 hjk).2

theorem wpAnyK_takeP {i:Nat} {oi:Oper} {v:Value} {fuel:Nat} {listed:Array Bool} {a:Act} {w:World} (hi:ops[i]?=some oi)
 (hs:Region.noSelect ops=true) (hf:Region.free md ops listed i=true) (hr:(Region.ready md ops listed).contains i=true) (hk:i≠k)
 (hQ:∀ c a w,Q (.panic c) (a.put oi.dst v) w→Q (.panic c) a w) (hy:Yields P ops oi v a) (hS:S w)
 (h:wpAnyK P md ops Q S k fuel (listed.setIfInBounds i true) (a.put oi.dst v) w):wpAnyK P md ops Q S k (fuel+1) listed a w :=
 wpAnyK_firstP hi (Region.noSelect_spec hs) hQ hk fuel listed a w (Region.free_spec hi hf) (by simpa using hr) hy hS h

theorem wpAnyK_one {i:Nat} {o:Oper} {fuel:Nat} {listed:Array Bool} {a:Act} {w:World} (ho:ops[i]?=some o) (hr:Region.ready md ops listed=[i]) (hk:i≠k)
 (h:∀ K':Act→World→Prop,Shut (∀ a w,S w→(S w→wpAnyK P md ops Q S k fuel (listed.setIfInBounds i true) a w)→K' a w)→if Region.wanted o (yielded ops a.tmps)=true then Oper.wp P o a w K' Q else K' (a.put o.dst undef) w) :
 wpAnyK P md ops Q S k (fuel+1) listed a w:=by
 refine ⟨fun h0=>absurd (hr.symm.trans h0) (List.cons_ne_nil _ _),fun j hj=>?_⟩
 rw [hr] at hj
 obtain rfl:=List.mem_singleton.1 hj
 exact wpOp_step ho (fun K' hK=>h K' (fun a w hS hW=>hK a w ⟨fun _=>⟨hS,hW hS⟩,fun e=>absurd e hk⟩))

theorem wpAnyK_two {i j:Nat} {o1 o2:Oper} {fuel:Nat} {listed:Array Bool} {a:Act} {w:World} (h1:ops[i]?=some o1) (h2:ops[j]?=some o2) (hr:Region.ready md ops listed=[i,j]) (hi:i≠k) (hj:j≠k)
 (hA:∀ K':Act→World→Prop,Shut (∀ a w,S w→(S w→wpAnyK P md ops Q S k fuel (listed.setIfInBounds i true) a w)→K' a w)→if Region.wanted o1 (yielded ops a.tmps)=true then Oper.wp P o1 a w K' Q else K' (a.put o1.dst undef) w)
 (hB:∀ K':Act→World→Prop,Shut (∀ a w,S w→(S w→wpAnyK P md ops Q S k fuel (listed.setIfInBounds j true) a w)→K' a w)→if Region.wanted o2 (yielded ops a.tmps)=true then Oper.wp P o2 a w K' Q else K' (a.put o2.dst undef) w) :
 wpAnyK P md ops Q S k (fuel+1) listed a w:=by
 refine ⟨fun h0=>absurd (hr.symm.trans h0) (List.cons_ne_nil _ _),fun x hx=>?_⟩
 rw [hr] at hx
 rcases List.mem_cons.1 hx with rfl | hx
 ·exact wpOp_step h1 (fun K' hK=>hA K' (fun a w hS hW=>hK a w ⟨fun _=>⟨hS,hW hS⟩,fun e=>absurd e hi⟩))
 ·obtain rfl:=List.mem_singleton.1 hx
  exact wpOp_step h2 (fun K' hK=>hB K' (fun a w hS hW=>hK a w ⟨fun _=>⟨hS,hW hS⟩,fun e=>absurd e hj⟩))

theorem wpAnyK_end {o:Oper} {fuel:Nat} {listed:Array Bool} {a:Act} {w:World} (ho:ops[k]?=some o) (hr:Region.ready md ops listed=[k])
 (h:∀ K':Act→World→Prop,Shut (∀ a w,wpAny P md ops Q fuel (listed.setIfInBounds k true) a w→K' a w)→if Region.wanted o (yielded ops a.tmps)=true then Oper.wp P o a w K' Q else K' (a.put o.dst undef) w) :
 wpAnyK P md ops Q S k (fuel+1) listed a w:=by
 refine ⟨fun h0=>absurd (hr.symm.trans h0) (List.cons_ne_nil _ _),fun j hj=>?_⟩
 rw [hr] at hj
 obtain rfl:=List.mem_singleton.1 hj
 exact wpOp_step ho (fun K' hK=>h K' (fun a w hW=>hK a w ⟨fun e=>absurd rfl e,fun _=>hW⟩))

theorem wpAny_one {i:Nat} {o:Oper} {fuel:Nat} {listed:Array Bool} {a:Act} {w:World} (ho:ops[i]?=some o) (hr:Region.ready md ops listed=[i])
 (h:∀ K':Act→World→Prop,Shut (∀ a w,wpAny P md ops Q fuel (listed.setIfInBounds i true) a w→K' a w)→if Region.wanted o (yielded ops a.tmps)=true then Oper.wp P o a w K' Q else K' (a.put o.dst undef) w) :
 wpAny P md ops Q (fuel+1) listed a w:=by
 refine ⟨fun h0=>absurd (hr.symm.trans h0) (List.cons_ne_nil _ _),fun j hj=>?_⟩
 rw [hr] at hj
 obtain rfl:=List.mem_singleton.1 hj
 exact wpOp_step ho h

theorem wp_region_K (k:Nat) (S:World→Prop) {id:Nat} {a:Act} {w:World} (hm:P.follows .mixedOrders=true) (hS:S w.drew)
 (h:S w.drew→wpAnyK P .any ops Q S k ops.size (Array.replicate ops.size false) a w.drew):(Code.region id ops true).wp P Q a w :=
 wp_region_any hm (wpAny_of_K _ _ _ _ (h hS))

end

end Go.Proofs.YtbajeckeeekhnaaGreat
