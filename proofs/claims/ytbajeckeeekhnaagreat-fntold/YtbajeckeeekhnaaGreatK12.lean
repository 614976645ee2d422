/- Own lemmas. -/
import Derived.WalkKit
namespace Go.Proofs.YtbajeckeeekhnaaGreat
open Go.RowKit
set_option linter.unusedVariables false

section
variable {P : Program} {md : Region.Mode} {ops : Array Oper} {Q : Exit → Act → World → Prop}

def toCome (l:Array Bool):Nat:=l.toList.countP (fun b=>!b)

theorem toCome_set {l:Array Bool} {i:Nat} (h:l.getD i true=false):toCome (l.setIfInBounds i true)+1=toCome l:=by
 have hi:i < l.size:=by
  by_cases hc:i < l.size
  ·exact hc
  ·simp [Array.getD,hc] at h
 have hv:l.toList[i]=false:=by simpa [Array.getD,hi] using h
 have hl:i < l.toList.length:=by simpa using hi
 unfold toCome
 rw [Array.toList_setIfInBounds,List.set_eq_take_append_cons_drop,if_pos hl]
 conv=>rhs;rw [← List.take_append_drop i l.toList,← List.getElem_cons_drop hl]
 simp [List.countP_append,hv]
 omega

theorem act_lit {a:Act} {l:List Value} {d:List Deferred} (hs:a.tmps.size=l.length) (hv:∀ i,i < l.length→a.tmps[i]?=l[i]?) (hd:a.defers=d):a=⟨l.toArray,d⟩:=by
 cases a with
 | mk tm df =>
   dsimp only at hs hv hd
   subst hd
   congr
   apply Array.ext'
   apply List.ext_getElem?
   intro i
   by_cases hi:i < l.length
   ·have:=hv i hi
    simpa using this
   ·rw [List.getElem?_eq_none (by rw [Array.length_toList];omega),List.getElem?_eq_none (by rw [List.toList_toArray];omega)]

theorem slot_some {a:Act} {n:Nat} (h:a.tmps.size=n) (t:Nat) (ht:Nat.blt t n=true):∃ u,a.tmps[t]?=some u:=by
 have:t < n:=Nat.lt_of_succ_le (by simpa [Nat.blt] using ht)
 exact ⟨_,Array.getElem?_eq_getElem (by omega)⟩

theorem wp_val {o:Oper} {a:Act} {w:World} {K:Act→World→Prop} {v:Value} (h:(execOp a.eval o).run P w=.ok (.value v) w) (hK:K (a.put o.dst v) w):o.wp P a w K Q:=by
 unfold Oper.wp
 rw [h]
 exact hK

theorem wpAny_inv (I:Array Bool→Act→World→Prop) (hs:∀ listed a w i,I listed a w→i ∈ Region.ready md ops listed→wpOp P ops Q i (I (listed.setIfInBounds i true)) a w) (he:∀ listed a w,I listed a w→Region.ready md ops listed=[]→Q .normal a w) :
 ∀ fuel listed a w,toCome listed≤fuel→I listed a w→wpAny P md ops Q fuel listed a w:=by
 intro fuel
 induction fuel with
 | zero =>
   intro listed a w hc hI
   have hr:Region.ready md ops listed=[]:=by
    cases hr:Region.ready md ops listed with
    | nil=>rfl
    | cons x xs =>
      have hx:x ∈ Region.ready md ops listed:=by rw [hr];exact List.mem_cons_self
      have:=toCome_set (mem_ready.1 hx).1
      omega
   exact ⟨hr,he _ _ _ hI hr⟩
 | succ fuel ih =>
   intro listed a w hc hI
   refine ⟨he _ _ _ hI,fun i hi=>?_⟩
   have:=toCome_set (mem_ready.1 hi).1
   exact wpOp_mono (fun a' w' h=>ih _ _ _ (by omega) h) (hs _ _ _ _ hI hi)

def valOf (ops:Array Oper) (a:Act) (j:Nat):Value:=match ops[j]? with
 | some o=>match o.dst with
   | some d=>a.tmps.getD d undef
   | none=>undef
 | none=>undef

def waitsOn (o:Oper) (j:Nat):Bool:=o.after.any (fun e=>Region.binds .any e&&e.on==j)

structure Li (ops:Array Oper) (D:Nat→List Nat) (V:Nat→List Value→World→Prop) (G:World→Prop) (a0:Act) (listed:Array Bool) (a:Act) (w:World):Prop where
 sz:listed.size=ops.size
 df:a.defers=a0.defers
 size:a.tmps.size=a0.tmps.size
 g:G w
 off:∀ t,ops.toList.all (fun o=>o.dst != some t)=true→a.tmps[t]?=a0.tmps[t]?
 dn:∀ i o,ops[i]?=some o→listed.getD i true=true→∀ j,waitsOn o j=true→listed.getD j false=true
 vs:∀ i,i < ops.size→listed.getD i true=true→V i ((D i).map (valOf ops a)) w

def LiStep (P:Program) (ops:Array Oper) (Q:Exit→Act→World→Prop) (D:Nat→List Nat) (V:Nat→List Value→World→Prop) (G:World→Prop) (a0:Act) (i:Nat) (o:Oper):Prop :=
 ∀ a w,G w→(∀ t,ops.toList.all (fun o=>o.dst != some t)=true→a.tmps[t]?=a0.tmps[t]?)→a.tmps.size=a0.tmps.size →
  (∀ j,j < ops.size→waitsOn o j=true→V j ((D j).map (valOf ops a)) w) →
  o.wp P a w (fun a' w'=>∃ v,a'=a.put o.dst v∧V i ((D i).map (fun j=>if j=i then v else valOf ops a j)) w'∧G w'∧∀ j l,V j l w→V j l w') Q

def linOk (ops:Array Oper) (D:Nat→List Nat) (n:Nat):Bool :=
 (List.range ops.size).all fun i=>match ops[i]? with
  | none=>false
  | some o=>(D i).all (fun j=>(o.dst.isSome&&Nat.beq j i)||(!(Nat.beq j i)&&waitsOn o j))&&o.guard.isNone&&o.after.all (fun e=>!Region.binds .any e||Nat.blt e.on i)&&(match o.dst with
    | none=>true
    | some d=>Nat.blt d n&&(List.range ops.size).all fun j=>Nat.beq i j||(match ops[j]? with
      | none=>false
      | some oj=>match oj.dst with
        | none=>true
        | some y=>!(Nat.beq d y)))

structure LinOk (ops:Array Oper) (D:Nat→List Nat) (n:Nat):Prop where
 dd:∀ (i:Nat) (o:Oper),ops[i]?=some o→∀ j ∈ D i,(o.dst.isSome=true∧j=i)∨(j≠i∧waitsOn o j=true)
 gd:∀ (i:Nat) (o:Oper),ops[i]?=some o→o.guard=none
 down:∀ (i:Nat) (o:Oper),ops[i]?=some o→∀ e ∈ o.after,Region.binds .any e=true→e.on < i
 lt:∀ (i:Nat) (o:Oper) (d:Nat),ops[i]?=some o→o.dst=some d→d < n
 ne:∀ (i:Nat) (o:Oper) (d j:Nat) (oj:Oper),ops[i]?=some o→o.dst=some d→ops[j]?=some oj→i≠j→oj.dst≠some d

theorem linOk_spec {D:Nat→List Nat} {n:Nat} (h:linOk ops D n=true):LinOk ops D n:=by
 have h1:∀ i o,ops[i]?=some o→(∀ j ∈ D i,(o.dst.isSome=true∧j=i)∨(j≠i∧waitsOn o j=true))∧o.guard=none∧(∀ e ∈ o.after,Region.binds .any e=true→e.on < i)∧∀ d,o.dst=some d→d < n∧∀ j oj,ops[j]?=some oj→i≠j→oj.dst≠some d:=by
  intro i o ho
  have hlt:i < ops.size:=(Array.getElem?_eq_some_iff.1 ho).1
  have h2:=List.all_eq_true.1 h i (List.mem_range.2 hlt)
  rw [ho] at h2
  simp only [Bool.and_eq_true] at h2
  obtain ⟨⟨⟨h7,h3⟩,h4⟩,h5⟩:=h2
  refine ⟨fun j hj=>by
   have h8:=List.all_eq_true.1 h7 j hj
   by_cases e:j=i
   ·subst e
    exact .inl ⟨by simpa using h8,rfl⟩
   ·have e2:Nat.beq j i=false:=by
     cases hb:Nat.beq j i with
     | false=>rfl
     | true=>exact absurd (Nat.eq_of_beq_eq_true hb) e
    rw [e2] at h8
    exact .inr ⟨e,by simpa using h8⟩,by simpa using h3,fun e he hb=>?_,fun d hd=>?_⟩
  ·have:=Array.all_eq_true_iff_forall_mem.1 h4 e he
   rw [hb] at this
   have h8:Nat.blt e.on i=true:=by simpa using this
   exact Nat.lt_of_succ_le (by simpa [Nat.blt] using h8)
  ·rw [hd] at h5
   simp only [Bool.and_eq_true] at h5
   refine ⟨Nat.lt_of_succ_le (by simpa [Nat.blt] using h5.1),fun j oj hj hij e=>?_⟩
   have h6:=List.all_eq_true.1 h5.2 j (List.mem_range.2 (Array.getElem?_eq_some_iff.1 hj).1)
   rw [hj] at h6
   simp only [e,Bool.or_eq_true,Nat.beq_eq,Nat.beq_refl,Bool.not_true,Bool.false_eq_true,or_false] at h6
   exact hij h6
 exact ⟨fun i o ho=>(h1 i o ho).1,fun i o ho=>(h1 i o ho).2.1,fun i o ho=>(h1 i o ho).2.2.1,fun i o d ho hd=>((h1 i o ho).2.2.2 d hd).1,fun i o d j oj ho hd=>((h1 i o ho).2.2.2 d hd).2 j oj⟩

theorem valOf_put {D:Nat→List Nat} {n:Nat} (L:LinOk ops D n) {i:Nat} {o:Oper} (ho:ops[i]?=some o) {j:Nat} (hj:j≠i) (a:Act) (v:Value):valOf ops (a.put o.dst v) j=valOf ops a j:=by
 unfold valOf
 cases hoj:ops[j]? with
 | none=>rfl
 | some oj =>
   dsimp only
   cases hd:oj.dst with
   | none=>rfl
   | some d =>
     dsimp only
     cases hdo:o.dst with
     | none=>rfl
     | some x =>
       have:x≠d:=fun e=>L.ne j oj d i o hoj hd ho hj (by rw [hdo,e])
       simp [Act.put,Array.getD_eq_getD_getElem?,Array.getElem?_setIfInBounds_ne this]

theorem wp_region_lin {id:Nat} {a0:Act} {w:World} (hm:P.follows .mixedOrders=true) (D:Nat→List Nat) (V:Nat→List Value→World→Prop) (G:World→Prop) (hok:linOk ops D a0.tmps.size=true) (h0:G { w with drawn:=w.drawn+1 })
 (hs:∀ i o,ops[i]?=some o→LiStep P ops Q D V G a0 i o)
 (he:∀ a w',G w'→(∀ t,ops.toList.all (fun o=>o.dst != some t)=true→a.tmps[t]?=a0.tmps[t]?)→a.tmps.size=a0.tmps.size→a.defers=a0.defers→(∀ i,i < ops.size→V i ((D i).map (valOf ops a)) w')→Q .normal a w'):(Go.Code.region id ops true).wp P Q a0 w:=by
 have L:=linOk_spec hok
 refine wp_region_any hm (wpAny_inv (fun listed a w=>Li ops D V G a0 listed a w) ?_ ?_ _ _ _ _ ?_ ?_)
 ·intro listed a w i hI hr
  obtain ⟨hun,o,ho,hall⟩:=mem_ready.1 hr
  have hls:=hI.sz
  have hi:i < ops.size:=(Array.getElem?_eq_some_iff.1 ho).1
  have hwt:∀ j,waitsOn o j=true→listed.getD j false=true:=by
   intro j hj
   unfold waitsOn at hj
   rw [← Array.any_toList] at hj
   obtain ⟨e,he1,he2⟩:=List.any_eq_true.1 hj
   rw [Array.mem_toList_iff] at he1
   rw [Bool.and_eq_true,beq_iff_eq] at he2
   have h9:=hall e he1 he2.1
   rw [he2.2] at h9
   exact h9
  have htf:∀ j,listed.getD j false=true→listed.getD j true=true:=by
   intro j hj
   by_cases hjl:j < listed.size
   ·simpa [Array.getD,hjl] using hj
   ·simp [Array.getD,hjl] at hj
  unfold wpOp
  simp only [ho,Region.wanted,L.gd i o ho,if_true]
  refine .inl (Oper.wp_mono ?_ (hs i o ho a w hI.g hI.off hI.size (fun j hj hw=>hI.vs j hj (htf j (hwt j hw)))))
  rintro a' w' ⟨v,rfl,hv,hg,hmono⟩
  refine ⟨by simp [hls],?_,?_,hg,?_,?_,?_⟩
  ·cases o.dst<;>exact hI.df
  ·rw [← hI.size];cases o.dst<;>simp [Act.put]
  ·intro t ht
   have hne:o.dst≠some t:=by
    have:=List.all_eq_true.1 ht o (by rw [Array.mem_toList_iff];exact Array.mem_of_getElem? ho)
    simpa using this
   rw [← hI.off t ht]
   cases hd:o.dst with
   | none=>rfl
   | some d =>
     have:d≠t:=fun e=>hne (by rw [hd,e])
     simp [Act.put,Array.getElem?_setIfInBounds_ne this]
  ·intro j oj hoj hl k hk
   have hjk:∀ k,listed.getD k false=true→(listed.setIfInBounds i true).getD k false=true:=by
    intro k h
    by_cases e:i=k
    ·subst e
     simp [Array.getD_eq_getD_getElem?,hls,hi]
    ·simp only [Array.getD_eq_getD_getElem?,Array.getElem?_setIfInBounds_ne e] at h ⊢
     exact h
   by_cases hji:j=i
   ·subst hji
    rw [ho] at hoj
    cases hoj
    exact hjk k (hwt k hk)
   ·refine hjk k (hI.dn j oj hoj ?_ k hk)
    simp only [Array.getD_eq_getD_getElem?,Array.getElem?_setIfInBounds_ne (Ne.symm hji)] at hl ⊢
    exact hl
  ·intro j hj hl
   by_cases hji:j=i
   ·subst hji
    rwa [List.map_congr_left (g:=fun k=>if k=j then v else valOf ops a k) (fun k hk=>?_)]
    rcases L.dd j o ho k hk with ⟨h1,h2⟩ | ⟨h1,_⟩
    ·subst h2
     rw [if_pos rfl]
     obtain ⟨d,hd⟩:=Option.isSome_iff_exists.1 h1
     have hlt:=L.lt k o d ho hd
     rw [← hI.size] at hlt
     unfold valOf
     rw [ho]
     simp [hd,Act.put,Array.getD_eq_getD_getElem?,hlt]
    ·rw [if_neg h1]
     exact valOf_put L ho h1 a v
   ·have hl2:listed.getD j true=true:=by
     simp only [Array.getD_eq_getD_getElem?,Array.getElem?_setIfInBounds_ne (Ne.symm hji)] at hl ⊢
     exact hl
    have h1:=hmono j _ (hI.vs j hj hl2)
    have hoj:ops[j]?=some ops[j]:=Array.getElem?_eq_getElem hj
    rwa [List.map_congr_left (g:=valOf ops a) (fun k hk=>valOf_put L ho (fun e=>?_) a v)]
    rcases L.dd j _ hoj k hk with ⟨_,h⟩ | ⟨_,h⟩
    ·exact hji (h.symm.trans e)
    ·have h2:=hI.dn j _ hoj hl2 k h
     rw [e] at h2
     rw [htf i h2] at hun
     cases hun
 ·intro listed a w hI hr
  have hls:=hI.sz
  have hall:∀ i,i < ops.size→listed.getD i true=true:=by
   intro i
   induction i using Nat.strongRecOn with
   | _ i ih =>
     intro hi
     cases hc:listed.getD i true with
     | true=>rfl
     | false =>
       have ho:ops[i]?=some ops[i]:=Array.getElem?_eq_getElem hi
       have:i ∈ Region.ready .any ops listed:=mem_ready.2 ⟨hc,_,ho,fun e he hb=>by
        have hlt:=L.down i _ ho e he hb
        have h1:=ih e.on hlt (by omega)
        have h2:e.on < listed.size:=by omega
        simpa [Array.getD,h2] using h1⟩
       rw [hr] at this
       cases this
  exact he a w hI.g hI.off hI.size hI.df fun i hi=>hI.vs i hi (hall i hi)
 ·unfold toCome
  rw [Array.toList_replicate]
  exact Nat.le_trans List.countP_le_length (by simp)
 ·have hno:∀ i,i < ops.size→¬ (Array.replicate ops.size false).getD i true=true:=fun i hi h=>by simp [Array.getD,hi] at h
  exact ⟨by simp,rfl,rfl,h0,fun t _=>rfl,fun i o ho hl=>absurd hl (hno i (Array.getElem?_eq_some_iff.1 ho).1),fun i hi hl=>absurd hl (hno i hi)⟩

end

end Go.Proofs.YtbajeckeeekhnaaGreat
