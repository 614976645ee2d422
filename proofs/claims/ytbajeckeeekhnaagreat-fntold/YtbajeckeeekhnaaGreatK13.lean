/- Own lemmas. -/
import Derived.Test.YtbajeckeeekhnaaGreatK08
import Derived.Test.YtbajeckeeekhnaaGreatK10
import Derived.Test.YtbajeckeeekhnaaGreatK11
import Derived.Test.YtbajeckeeekhnaaGreatK12
namespace Go.Proofs.YtbajeckeeekhnaaGreat
open Go.RowKit
set_option linter.unusedVariables false

def tailOk (ops:Array Oper):Bool :=
 Nat.blt 0 ops.size&&(List.range (ops.size - 1)).all (fun i=>match ops[i]? with
  | none=>false
  | some o=>o.after.all (fun e=>!Region.binds .any e||Nat.blt e.on i)&&(match o.guard with | none=>true | some g=>Nat.blt g.1 i)&&(match ops[ops.size - 1]? with | none=>false | some l=>waitsOn l i))&&(match ops[ops.size - 1]? with | none=>false | some l=>l.after.all (fun e=>!Region.binds .any e||Nat.blt e.on (ops.size - 1)))

section
variable {P : Program} {ops : Array Oper} {Q : Exit → Act → World → Prop} {S : World → Prop}

structure TailOk (ops:Array Oper) (L:Nat) (l:Oper):Prop where
 size:ops.size=L+1
 last:ops[L]?=some l
 down:∀ (i:Nat) (o:Oper),i < L→ops[i]?=some o→∀ e ∈ o.after,Region.binds .any e=true→e.on < i
 gd:∀ (i:Nat) (o:Oper),i < L→ops[i]?=some o→∀ g,o.guard=some g→g.1 < i
 all:∀ i,i < L→waitsOn l i=true
 ldn:∀ e ∈ l.after,Region.binds .any e=true→e.on < L

theorem blt_lt {a b:Nat} (h:Nat.blt a b=true):a < b:=Nat.lt_of_succ_le (by simpa [Nat.blt] using h)

theorem tailOk_spec (h:tailOk ops=true):∃ L l,TailOk ops L l:=by
 unfold tailOk at h
 simp only [Bool.and_eq_true] at h
 obtain ⟨⟨h0,h1⟩,h2⟩:=h
 have hp:=blt_lt h0
 have hl:ops[ops.size - 1]?=some ops[ops.size - 1]:=Array.getElem?_eq_getElem (by omega)
 refine ⟨ops.size - 1,ops[ops.size - 1],by omega,hl,?_,?_,?_,?_⟩
 ·intro i o hi ho e he hb
  have:=List.all_eq_true.1 h1 i (List.mem_range.2 hi)
  rw [ho] at this
  simp only [Bool.and_eq_true] at this
  have h3:=Array.all_eq_true_iff_forall_mem.1 this.1.1 e he
  rw [hb] at h3
  exact blt_lt (by simpa using h3)
 ·intro i o hi ho g hg
  have:=List.all_eq_true.1 h1 i (List.mem_range.2 hi)
  rw [ho] at this
  simp only [Bool.and_eq_true,hg] at this
  exact blt_lt this.1.2
 ·intro i hi
  have:=List.all_eq_true.1 h1 i (List.mem_range.2 hi)
  rw [Array.getElem?_eq_getElem (show i < ops.size by omega),hl] at this
  simp only [Bool.and_eq_true] at this
  exact this.2
 ·intro e he hb
  rw [hl] at h2
  have h3:=Array.all_eq_true_iff_forall_mem.1 h2 e he
  rw [hb] at h3
  exact blt_lt (by simpa using h3)

variable {L : Nat} {l : Oper}

theorem push_getD {listed:Array Bool} (hs:listed.size=L) {j:Nat} (hj:j < L) (d:Bool):(listed.push false).getD j d=listed.getD j d:=by
 simp [Array.getD,Array.getElem_push,hs,hj,show j < L+1 by omega]

theorem push_set {listed:Array Bool} (hs:listed.size=L) {i:Nat} (hi:i < L):(listed.push false).setIfInBounds i true=(listed.setIfInBounds i true).push false:=by
 apply Array.ext_getElem?
 intro j
 by_cases hji:i=j
 ·subst hji
  rw [Array.getElem?_setIfInBounds_self_of_lt (by simp;omega),Array.getElem?_push_lt (by simp;omega)]
  simp
 ·rw [Array.getElem?_setIfInBounds_ne hji]
  simp only [Array.getElem?_push,Array.size_setIfInBounds,Array.getElem?_setIfInBounds_ne hji]

theorem pop_get (T:TailOk ops L l) {i:Nat} (hi:i < L):ops.pop[i]?=ops[i]?:=by
 have:=T.size
 simp [show i < ops.size - 1 by omega]

theorem ready_pop (T:TailOk ops L l) {listed:Array Bool} (hs:listed.size=L) {i:Nat} (hi:i < L):i ∈ Region.ready .any ops (listed.push false)↔i ∈ Region.ready .any ops.pop listed:=by
 rw [mem_ready,mem_ready,push_getD hs hi,pop_get T hi]
 refine and_congr_right fun _=>exists_congr fun o=>and_congr_right fun ho=>?_
 refine forall_congr' fun e=>forall_congr' fun he=>forall_congr' fun hb=>?_
 rw [push_getD hs (by have:=T.down i o hi ho e he hb;omega)]

theorem all_listed (T:TailOk ops L l) {listed:Array Bool} (hs:listed.size=L) (hr:Region.ready .any ops.pop listed=[]):∀ i,i < L→listed.getD i false=true:=by
 intro i
 induction i using Nat.strongRecOn with
 | _ i ih =>
   intro hi
   cases hc:listed.getD i true with
   | true=>simpa [Array.getD,hs,hi] using hc
   | false =>
     have ho:ops[i]?=some (ops[i]'(by have:=T.size;omega)):=Array.getElem?_eq_getElem _
     have:i ∈ Region.ready .any ops.pop listed:=mem_ready.2 ⟨hc,_,(pop_get T hi).trans ho,fun e he hb=>ih e.on (T.down i _ hi ho e he hb) (by have:=T.down i _ hi ho e he hb;omega)⟩
     rw [hr] at this
     cases this

theorem wpOp_pop (T:TailOk ops L l) {R:Act→World→Prop} {i:Nat} (hi:i < L) {K K':Act→World→Prop} {a:Act} {w:World} (hK:∀ a w,K a w→K' a w) (h:wpOp P ops.pop (Exit.then R Q) i K a w):wpOp P ops Q i K' a w:=by
 refine wpOp_mono hK ?_
 have ho:ops[i]?=some (ops[i]'(by have:=T.size;omega)):=Array.getElem?_eq_getElem _
 unfold wpOp at h ⊢
 rw [pop_get T hi] at h
 rw [ho] at h ⊢
 dsimp only at h ⊢
 have hw:Region.wanted (ops[i]'(by have:=T.size;omega)) (yielded ops.pop a.tmps)=Region.wanted (ops[i]'(by have:=T.size;omega)) (yielded ops a.tmps):=by
  unfold Region.wanted
  cases hg:(ops[i]'(by have:=T.size;omega)).guard with
  | none=>rfl
  | some g =>
    have h1:=T.gd i _ hi ho g hg
    dsimp only
    unfold yielded
    rw [pop_get T (by omega)]
 rw [hw] at h
 split
 ·rename_i hc
  rw [if_pos hc] at h
  rcases h with h | ⟨h1,a',w',h2⟩
  ·refine .inl ?_
   unfold Oper.wp at h ⊢
   generalize (execOp a.eval (ops[i]'(by have:=T.size;omega))).run P w=r at *
   cases r with
   | ok n w' =>
     cases n<;>simp only [Oper.upon] at h ⊢
     all_goals first
      | exact h
      | exact Calls.mono h (fun e w'' he=>by cases e<;>exact he)
      | exact Rows.mono h (fun _ _ he=>he)
   | halt x w'=>cases x<;>simp only [Oper.upon] at h ⊢ <;> exact h
  ·exact .inr ⟨h1,a',w',h2⟩
 ·rename_i hc
  rw [if_neg hc] at h
  exact h

theorem wpAny_tail (T:TailOk ops L l):∀ (fuel:Nat) (listed:Array Bool) (a:Act) (w:World),listed.size=L→wpAny P .any ops.pop (Exit.then (fun a w=>wpOp P ops Q L (fun a w=>Q .normal a w) a w) Q) fuel listed a w→wpAny P .any ops Q (fuel+1) (listed.push false) a w:=by
 have hend:∀ (m:Nat) (listed:Array Bool) (a:Act) (w:World),listed.size=L→Region.ready .any ops.pop listed=[]→wpOp P ops Q L (fun a w=>Q .normal a w) a w→wpAny P .any ops Q (m+1) (listed.push false) a w:=by
  intro m listed a w hs hr h
  have hall:=all_listed T hs hr
  have hsz:=T.size
  have hL:L ∈ Region.ready .any ops (listed.push false):=mem_ready.2 ⟨by simp [Array.getD,Array.getElem_push,hs],l,T.last,fun e he hb=>by
   have h1:=T.ldn e he hb
   rw [push_getD hs h1]
   exact hall _ h1⟩
  refine ⟨fun h0=>(by rw [h0] at hL;cases hL),fun i hi=>?_⟩
  by_cases hiL:i=L
  ·subst hiL
   refine wpOp_mono (fun a' w' h'=>?_) h
   have hn:Region.ready .any ops ((listed.push false).setIfInBounds i true)=[]:=by
    rw [List.eq_nil_iff_forall_not_mem]
    intro j hj
    obtain ⟨h1,o,h2,_⟩:=mem_ready.1 hj
    have h3:j < ops.size:=(Array.getElem?_eq_some_iff.1 h2).1
    by_cases hji:j=i
    ·subst hji
     simp [Array.getD,hs] at h1
    ·have h4:=hall j (by omega)
     have h5:((listed.push false).setIfInBounds i true).getD j true=listed.getD j true:=by
      rw [← push_getD hs (show j < i by omega)]
      simp only [Array.getD_eq_getD_getElem?,Array.getElem?_setIfInBounds_ne (Ne.symm hji)]
     rw [h5] at h1
     have h6:j < listed.size:=by omega
     simp [Array.getD,h6] at h1 h4
     rw [h1] at h4
     cases h4
   cases m with
   | zero=>exact ⟨hn,h'⟩
   | succ m=>exact ⟨fun _=>h',fun j hj=>by rw [hn] at hj;cases hj⟩
  ·have hlt:i < L:=by
    obtain ⟨_,o,h2,_⟩:=mem_ready.1 hi
    have:=(Array.getElem?_eq_some_iff.1 h2).1
    omega
   have:=(ready_pop T hs hlt).1 hi
   rw [hr] at this
   cases this
 intro fuel
 induction fuel with
 | zero=>intro listed a w hs h;exact hend 0 listed a w hs h.1 h.2
 | succ fuel ih =>
   intro listed a w hs h
   by_cases hr:Region.ready .any ops.pop listed=[]
   ·exact hend _ listed a w hs hr (h.1 hr)
   ·obtain ⟨x,hx⟩:=List.exists_mem_of_ne_nil _ hr
    have hxL:x < L:=by
     obtain ⟨_,o,h2,_⟩:=mem_ready.1 hx
     have h3:=(Array.getElem?_eq_some_iff.1 h2).1
     rw [Array.size_pop] at h3
     have:=T.size
     omega
    refine ⟨fun h0=>(by have:=(ready_pop T hs hxL).2 hx;rw [h0] at this;cases this),fun i hi=>?_⟩
    have hiL:i < L:=by
     obtain ⟨_,o,h2,h3⟩:=mem_ready.1 hi
     have h4:=(Array.getElem?_eq_some_iff.1 h2).1
     have h5:=T.size
     by_cases e:i=L
     ·subst e
      rw [T.last] at h2
      cases h2
      have h6:=T.all x hxL
      unfold waitsOn at h6
      rw [← Array.any_toList] at h6
      obtain ⟨e,he1,he2⟩:=List.any_eq_true.1 h6
      rw [Array.mem_toList_iff] at he1
      rw [Bool.and_eq_true,beq_iff_eq] at he2
      have h7:=h3 e he1 he2.1
      rw [he2.2,push_getD hs hxL] at h7
      have h8:=(mem_ready.1 hx).1
      have h9:x < listed.size:=by omega
      simp [Array.getD,h9] at h7 h8
      rw [h7] at h8
      cases h8
     ·omega
    refine wpOp_pop T hiL (fun a' w' h'=>?_) (h.2 i ((ready_pop T hs hiL).1 hi))
    rw [push_set hs hiL]
    exact ih _ a' w' (by simp [hs]) h'

def tailR:Nat→Array Oper→List KI→Option (List KI)
 | 0,ops,k=>some (.sq ops ops.size (Array.replicate ops.size false) :: k)
 | j+1,ops,k=>match tailOk ops,ops[ops.size - 1]? with
   | true,some l=>tailR j ops.pop (.ops ops [l] :: k)
   | _,_=>none

theorem tailR_ok:∀ (j:Nat) (ops:Array Oper) (k k':List KI) (a:Act) (w:World),tailR j ops k=some k'→den P S Q k' .normal a w→wpAny P .any ops (den P S Q k) ops.size (Array.replicate ops.size false) a w:=by
 intro j
 induction j with
 | zero =>
   intro ops k k' a w h hd
   cases h
   exact wpAny_of_held (S:=S) _ _ _ _ hd
 | succ j ih =>
   intro ops k k' a w h hd
   unfold tailR at h
   split at h
   ·rename_i l hok hl
    obtain ⟨L,l0,T⟩:=tailOk_spec hok
    have hsz:=T.size
    have hL:ops.size - 1=L:=by omega
    rw [hL,T.last] at hl
    cases hl
    have h1:=ih ops.pop _ k' a w h hd
    rw [Array.size_pop,hL] at h1
    have e:(fun a w=>wpOp P ops (den P S Q k) L (fun a w=>den P S Q k .normal a w) a w)=wpList P ops (den P S Q k) [l]:=by
     funext a w
     unfold wpOp wpList
     rw [T.last]
     rfl
    have h2:wpAny P .any ops (den P S Q k) (L+1) ((Array.replicate L false).push false) a w:=by
     refine wpAny_tail T L _ a w (by simp) ?_
     rw [e]
     exact h1
    have e2:(Array.replicate L false).push false=Array.replicate (L+1) false:=by rw [Array.replicate_succ]
    rw [e2] at h2
    rw [hsz]
    exact h2
   ·cases h

def tailK (j:Nat) (k:List KI):Option (List KI):=match k with
 | .code (.region _ ops true) :: k'=>tailR j ops k'
 | _=>none

theorem wk_tails (j:Nat) {n:Nat} {F:Fr} {w:World} {k:List KI} (hm:P.follows .mixedOrders=true) (hk:(tailK j k).isSome=true) (h:Wg P S Q n ((tailK j k).getD []) F w.drew):Wg P S Q n k F w:=fun a hkn=>by
 obtain ⟨k',hk2⟩:=Option.isSome_iff_exists.1 hk
 clear hk
 rw [hk2,Option.getD_some] at h
 unfold tailK at hk2
 split at hk2
 ·rename_i id ops k2
  show (Go.Code.region id ops true).wp P (den P S Q k2) a w
  exact wp_region_any hm (tailR_ok j ops k2 k' a w.drew hk2 (h a hkn))
 ·cases hk2

theorem wk_tail {n:Nat} {F:Fr} {w:World} {k:List KI} (hm:P.follows .mixedOrders=true) (hk:(tailK 1 k).isSome=true) (h:Wg P S Q n ((tailK 1 k).getD []) F w.drew):Wg P S Q n k F w:=wk_tails 1 hm hk h

def regK (kk:Nat) (k:List KI):Option (List KI):=match k with
 | .code (.region _ ops true) :: k'=>some (.sk ops kk ops.size (Array.replicate ops.size false) :: k')
 | _=>none

theorem wk_K (kk:Nat) {n:Nat} {F:Fr} {w:World} {k:List KI} (hm:P.follows .mixedOrders=true) (hk:(regK kk k).isSome=true) (h:Wg P S Q n ((regK kk k).getD []) F w.drew):Wg P S Q n k F w:=fun a hkn=>by
 unfold regK at hk h
 split at hk
 ·rename_i id ops k2
  show (Go.Code.region id ops true).wp P (den P S Q k2) a w
  exact wp_region_any hm (wpAny_of_K _ _ _ _ (h a hkn))
 ·cases hk

def dropC:Nat→Go.Code→Go.Code
 | 0,c=>c
 | n+1,.seq _ y=>dropC n y
 | _+1,c=>c

def headC:Go.Code→Go.Code
 | .seq x _=>x
 | c=>c

def thenC:Go.Code→Go.Code
 | .cond _ x _=>x
 | c=>c

def bodyOf (fn:Func):Go.Code:=fn.body.getD .skip

theorem wk_join {n:Nat} {F:Fr} {w:World} {k:List KI} (k1:List KI) (F1:Fr) (hk:k=k1) (hF:F1.map (fun y=>some y.2.1)=F1.map fun y=>(lk F y.1).map Prod.fst) (h:Wg P S Q n k1 F1 w):Wg P S Q n k F w:=by
 subst hk
 exact fun a ha=>h a (ha.less hF)

end

def inC:Go.Code→Go.Code
 | .block _ c | .loop c | .cond _ _ c=>c
 | c=>c

def opsOf:Go.Code→Array Oper
 | .region _ o _=>o
 | _=>#[]

theorem end_c {P:Program} {n:Nat} {fn:Func} {Rs:Ending→World→Prop} {k:List KI} {F:Fr} {w W:World} {bs:List (Array Value × TypeId)} (hS:Bs w bs W) (H:Hn P (Bs w bs) (Bs w bs)) (m:Nat) {i:Nat} {old:Array Value} {t T:TypeId} {d:TypeDesc} {cs:Array Value} {p:Nat} (hb:bs[i]?=some (old,t)) (ho:old.size=cs.size) (hT:(P.info? T).map (·.size)=some cs.size) (hone:cs.all (·.oneCell')=true) (hu:P.underlying T=some d) (hd:(match d with | .struct _ | .array _ _=>true | _=>false)=true) (hres:fn.results=#[.cell p T])
 (hx:(fun (y:Bool × List KI × Fr)=>(y.1,nxS n y.2.2 y.2.1,nxB y.2.2 y.2.1,noSq (nxK y.2.2 y.2.1))) (adv P (rwsOf w.heap.size bs) H n true m k F).1=(false,some (do Instr.storeAt T (.pointer (some ⟨w.heap.size+i,0,none⟩)) (.agg cs);pure Next.skip),false,true))
 (he:(adv P (rwsOf w.heap.size bs) H n true m k F).2.map Prod.fst=(adv P (rwsOf w.heap.size bs) H n true m k F).2.map Prod.snd)
 (hy:∀ X,(fun (z:(Bool × List KI × Fr) × List (Oe × Oe))=>(z.1.1,(lk z.1.2.2 p).map Prod.fst,z.2.map Prod.fst)) (adv P [] ({}:Hn P (fun x=>x=X) (fun x=>x=X)) n false m (nxK (adv P (rwsOf w.heap.size bs) H n true m k F).1.2.2 (adv P (rwsOf w.heap.size bs) H n true m k F).1.2.1) (nxF (adv P (rwsOf w.heap.size bs) H n true m k F).1.2.2 (adv P (rwsOf w.heap.size bs) H n true m k F).1.2.1 undef 0))=(true,some (.pointer (some ⟨w.heap.size+i,0,none⟩)),(adv P [] ({}:Hn P (fun x=>x=X) (fun x=>x=X)) n false m (nxK (adv P (rwsOf w.heap.size bs) H n true m k F).1.2.2 (adv P (rwsOf w.heap.size bs) H n true m k F).1.2.1) (nxF (adv P (rwsOf w.heap.size bs) H n true m k F).1.2.2 (adv P (rwsOf w.heap.size bs) H n true m k F).1.2.1 undef 0)).2.map Prod.snd))
 (h:∀ V,Below w.heap.size w V→Rs (.returned (.agg cs)) V):Wg P (Bs w bs) (bodyPost P fn Rs) n k F W:=by
 simp only [Prod.mk.injEq] at hx hy
 refine wk_adv Bs.eng H m hS hx.1 he fun W1 h1=>?_
 have hrow:=h1.1 i _ hb
 refine wk_sk hx.2.1 (run_stRow hrow hT ho hone) (nob hx.2.2.1) ?_
 refine wx_ret (R:=[]) trivial {} m (by rw [hx.2.2.2,(hy _).1]) (hy _).2.2 fun a hk=>⟨_,results_cell_row hres _ _ _ _ _ _ _ (hk.slot (hy _).2.1) (setRow_heap _ _ _ _ _ _ hrow) hu hd hT,h _ (below_setRow h1.2 (by omega) _)⟩

theorem ag_below {bs:List Nat} {a b c:World} (h:Below a.heap.size a b) (k:Ag bs b c) (hb:∀ x ∈ bs,a.heap.size≤x):Below a.heap.size a c :=
 ⟨k.os.trans h.os,k.tape.trans h.tape,k.output.trans h.output,Nat.le_trans h.size k.size,fun i hi=>(k.block i (Nat.lt_of_lt_of_le hi h.size) fun hm=>by have:=hb i hm;omega).trans (h.block i hi)⟩

theorem shr_d (x:Int) (n:Nat) (m:Int) (h:(2:Int) ^ n=m):x.fdiv (2 ^ n)=x / m:=by subst h;exact Int.fdiv_eq_ediv_of_nonneg _ (Int.le_of_lt (Int.pow_pos (by omega)))

theorem or_if {α:Type} (a b:Bool) (x y:α):(if (a||b)=true then x else y)=if a=true then x else if b=true then x else y:=by cases a<;>rfl

noncomputable abbrev wD:Go.Code:=inC (headC (inC (inC (dropC 5 (bodyOf Tryz.f94)))))

noncomputable abbrev wT (R:Act→World→Prop):List KI:=[.blk 1,.code (dropC 1 (inC (inC (dropC 5 (bodyOf Tryz.f94))))),.fin R,.blk 0]

abbrev wR (V:Fd) (w:World):Ending→World→Prop:=fun e w'=>e=.returned (.agg V.cells)∧Below w.heap.size w w'

abbrev wB:List (Array Value × TypeId):=[(zeroF,143)]

noncomputable abbrev wW (V:Fd) (w:World) (k:List KI) (F:Fr) (W:World):Prop:=Wg Tryz.prog (Bs w wB) (bodyPost Tryz.prog Tryz.f94 (wR V w)) Tryz.f94.ntmps k F W

abbrev wF (ra:Option Addr) (n rcap b off cap:Nat) (p va kind:Int) (w:World) (L:Fr):Fr:=(0,.slice ra n rcap,0) :: (1,.slice (some ⟨b,off,none⟩) 22 cap,0) :: (2,.int .i64 p,0) :: (3,.int .u64 va,0) :: (4,.int .i64 kind,0) :: (10,.pointer (some ⟨w.heap.size,0,none⟩),1) :: L

abbrev wL (lv:Nat) (X e:Int) (L:Fr):Fr:=(12,.int .u64 lv,0) :: (13,.int .u64 X,0) :: (14,.int .u64 e,0) :: (15,.int .u64 (bitAt e 1),0) :: (16,.int .u64 (bitAt e 2),0) :: (17,.int .u64 (bitAt e 3),0) :: (18,.int .u64 (frameV e),0) :: L

section
variable {ra : Option Addr} {n rcap : Nat} {zs : List Int} {b off cap : Nat} {l : List Int} {p va kind : Int} {w : World} {V : Fd} {R : Act → World → Prop} {X e : Int} {lv : Nat}
variable (FT : ∀ W, Calls Tryz.prog 103 #[.int .i64 kind] W fun e w' => e = .returned (.agg (faultF kind).cells) ∧ Below W.heap.size W w')
variable (PG : ∀ W, Calls Tryz.prog 102 #[.int .i64 kind] W fun e w' => e = .returned (.agg (pageF kind).cells) ∧ Below W.heap.size W w')
variable (hlz : l.length = 22) (hl : Sl .u64 w (some ⟨b, off, none⟩) l)

include FT hlz hl in
theorem walk_tail {W:World} (hlv:lv≤2) (hW:Bs w wB W) (hV:V=if (wantV e kind != e)=true then (if permRest l 1 X (lastOf X 8) 3 4 0=true then ⟨leadV e va lv,0,true,X,wantV e kind⟩ else faultF kind) else ⟨leadV e va lv,0,false,0,0⟩):wW V w (.code (dropC 12 wD) :: wT R) (wF ra n rcap b off cap p va kind w [(12,.int .u64 lv,0),(13,.int .u64 X,0),(14,.int .u64 e,0),(18,.int .u64 (frameV e),0)]) W:=by
 obtain ⟨L,hL⟩:∃ L,leadV e va lv=L:=⟨_,rfl⟩
 rw [hL] at hV
 have go:∀ W,Bs w wB W→Wg Tryz.prog (Bs w wB) (bodyPost Tryz.prog Tryz.f94 (wR V w)) Tryz.f94.ntmps (.ops (opsOf (headC (dropC 13 wD))) (((opsOf (headC (dropC 13 wD))).toList).drop 9) :: .code (dropC 14 wD) :: wT R) (wF ra n rcap b off cap p va kind w [(13,.int .u64 X,0),(14,.int .u64 e,0),(216,.agg #[.int .u64 L,.int .i64 0,.bool false,.int .u64 0,.int .u64 0],0)]) W:=by
  intro W hW
  refine wk_op 2 (by kernel_rfl) (run_al (T:=143) (z:=.agg zeroF) (by kernel_rfl) W) (nob (by kernel_rfl)) ?_
  have hg:=hW.1 0 _ rfl
  have hlt:w.heap.size < W.heap.size:=(Array.getElem?_eq_some_iff.1 hg).1
  have hb1:Below w.heap.size w (W.alloc (.cells zeroF 143)):=hW.2.alloc hW.2.size _
  have hI:Iv [w.heap.size,W.heap.size] (W.alloc (.cells zeroF 143)) [⟨w.heap.size,zeroF,[]⟩,⟨W.heap.size,zeroF,[]⟩] (W.alloc (.cells zeroF 143)):=⟨fun r hr=>by
   simp only [List.mem_cons,List.not_mem_nil,or_false] at hr
   rcases hr with rfl | rfl
   ·exact ⟨_,(Below.heap_alloc _ _ _ hlt).trans hg⟩
   ·exact ⟨_,heap_alloc_new _ _⟩,Ag.refl _ _,by simp,by simp;omega⟩
  have hbs:∀ x ∈ [w.heap.size,W.heap.size],w.heap.size≤x:=by simp;omega
  refine wk_S (fun _=>True) (by kernel_rfl) ?_
  show Wg _ _ _ _ _ _ (W.alloc (.cells zeroF 143))
  generalize W.heap.size=h at hI hbs ⊢
  generalize W.alloc (.cells zeroF 143)=w2 at hI hb1 ⊢
  have res:∀ (f:Fd) (W3:World) (a:Act) {w2:World} (hb1:Below w.heap.size w w2) (L:List Rw),V=f→Iv [w.heap.size,h] w2 (⟨w.heap.size,f.cells,[]⟩ :: L) W3→a.tmps.getD 10 undef=.pointer (some ⟨w.heap.size,0,none⟩)→∃ v,(results Tryz.f94 a.tmps).run Tryz.prog W3=.ok v W3∧wR V w (.returned v) W3:=fun f W3 a w2 hb1 L hf h3 hs=>by
   obtain ⟨t,hrow⟩:=h3.rows _ (List.mem_cons_self ..)
   exact ⟨_,results_cell_row Tryz.results94 _ _ _ _ _ _ _ hs hrow Tryz.underlying143 rfl (by kernel_rfl),by rw [hf],ag_below hb1 h3.ag hbs⟩
  obtain ⟨z,hz⟩:∃ z,wantV e kind=z:=⟨_,rfl⟩
  rw [hz] at hV
  obtain ⟨q,hq⟩:∃ q,permRest l 1 X (lastOf X 8) 3 4 0=q:=⟨_,rfl⟩
  rw [hq] at hV
  cases h3:(kind==3)<;>(
   unfold wantV at hz
   rw [h3] at hz
   first | rw [if_pos rfl] at hz | rw [if_neg (by decide)] at hz)
  all_goals
   cases h4:(z != e) with
   | false =>
     rw [h4,if_neg (by decide)] at hV
     exact ww_ret hI { eq:=[(220,eqB h3),(225,eqB h4)] } 100 (R1:=[⟨w.heap.size,#[.int .u64 L,.int .i64 0,.bool false,.int .u64 0,.int .u64 0],[]⟩,⟨h,#[.int .u64 L,.int .i64 0,.bool false,.int .u64 0,.int .u64 0],[]⟩]) (by subst hz;kernel_rfl) (by subst hz;kernel_rfl) fun W3 a h3 hk=>res _ W3 a hb1 _ hV h3 (hk.slot (by subst hz;kernel_rfl))
   | true =>
     rw [h4,if_pos rfl] at hV
     refine ww_call hI { eq:=[(220,eqB h3),(225,eqB h4)] } 100 (R1:=[⟨w.heap.size,zeroF,[]⟩,⟨h,#[.int .u64 L,.int .i64 0,.bool false,.int .u64 0,.int .u64 0],[]⟩]) (fun W3 h3=>l6Permits_any (some ⟨b,off,none⟩) cap l 1 X 8 3 W3 hlz (hl.below (ag_below hb1 h3.ag hbs))) (by subst hz;kernel_rfl) (by subst hz;kernel_rfl) fun W3 e3 w3 h3 hr=>⟨.bool q,0,by rw [hr.1,hq],?_⟩
     rw [hr.2]
     have hb3:=ag_below hb1 h3.ag hbs
     have hI3:Iv [w.heap.size,h] W3 [⟨w.heap.size,zeroF,[]⟩,⟨h,#[.int .u64 L,.int .i64 0,.bool false,.int .u64 0,.int .u64 0],[]⟩] W3:=⟨h3.rows,Ag.refl _ _,h3.sub,h3.nd⟩
     cases q with
     | true=>exact ww_ret hI3 {} 100 (R1:=[⟨w.heap.size,#[.int .u64 L,.int .i64 0,.bool true,.int .u64 X,.int .u64 z],[]⟩,⟨h,#[.int .u64 L,.int .i64 0,.bool true,.int .u64 X,.int .u64 z],[]⟩]) (by subst hz;kernel_rfl) (by subst hz;kernel_rfl) fun W4 a h4 hk=>res _ W4 a hb3 _ hV h4 (hk.slot (by subst hz;kernel_rfl))
     | false =>
       refine ww_call hI3 {} 100 (R1:=[⟨w.heap.size,zeroF,[]⟩,⟨h,#[.int .u64 L,.int .i64 0,.bool false,.int .u64 0,.int .u64 0],[]⟩]) (fun W3 h3=>FT W3) (by subst hz;kernel_rfl) (by subst hz;kernel_rfl) fun W4 e4 w4 h4 hr=>⟨.agg (faultF kind).cells,0,hr.1,?_⟩
       have h5:=h4.below hr.2
       have hb4:=ag_below hb3 h5.ag hbs
       exact ww_ret (bs:=[w.heap.size,h]) (R:=[⟨w.heap.size,zeroF,[]⟩,⟨h,#[.int .u64 L,.int .i64 0,.bool false,.int .u64 0,.int .u64 0],[]⟩]) ⟨h5.rows,Ag.refl _ _,h5.sub,h5.nd⟩ {} 100 (R1:=[⟨w.heap.size,(faultF kind).cells,[]⟩,⟨h,#[.int .u64 L,.int .i64 0,.bool false,.int .u64 0,.int .u64 0],[]⟩]) (by subst hz;kernel_rfl) (by subst hz;kernel_rfl) fun W4 a h4 hk=>res _ W4 a hb4 _ hV h4 (hk.slot (by subst hz;kernel_rfl))
 obtain rfl | rfl | rfl:lv=0∨lv=1∨lv=2:=by omega
 all_goals exact wk_adv Bs.eng { eq:=[(215,eqI .u64 hL)] } 20 hW (by kernel_rfl) (by kernel_rfl) fun W hW=>wk_join _ _ (by kernel_rfl) (by kernel_rfl) (go W hW)

include FT PG hlz hl in
theorem walk_leaf {W:World} (hlv:lv≤2) (hW:Bs w wB W) (hV:V=leafV l p va kind e X lv):wW V w (.code (dropC 9 wD) :: wT R) (wF ra n rcap b off cap p va kind w (wL lv X e [])) W:=by
 obtain ⟨b',off',eb,hblt,c0⟩:=hl 0 (by omega)
 simp only [Option.some.injEq,Addr.mk.injEq,and_true] at eb
 obtain ⟨rfl,rfl⟩:=eb
 have c0:∀ W,Bs w wB W→W.cell? ⟨b,off,none⟩=some (.int .u64 (l.getD 0 0)):=fun W hW=>(hW.2.cell (by exact hblt)).trans c0
 have HB:∀ (x:Int) (i:Nat),i < 64→∀ W,Below w.heap.size w W→Calls Tryz.prog 73 #[.int .u64 x,.int .u64 i] W fun e' w'=>e'=.returned (.int .u64 (bitAt x i))∧w'=W:=fun x i hi W _=>l5Bit_any x i hi W
 unfold leafV noKind noPriv at hV
 simp only [or_if] at hV
 generalize hT:(if (wantV e kind != e)=true then (if permRest l 1 X (lastOf X 8) 3 4 0=true then ⟨leadV e va lv,0,true,X,wantV e kind⟩ else faultF kind) else ⟨leadV e va lv,0,false,0,0⟩)=Y at hV
 have s5:∀ c W,Bs w wB W→(V=if c=true then pageF kind else Y)→wW V w (.code (dropC 1 (inC (dropC 1 (inC (dropC 1 (inC (dropC 1 (inC (dropC 1 (inC (dropC 1 (inC (headC (dropC 11 wD)))))))))))))) :: .blk 2 :: .code (dropC 12 wD) :: wT R) (wF ra n rcap b off cap p va kind w (wL lv X e [(20,.int .u64 (bitAt e 4),0),(183,.bool c,0)])) W:=by
  intro c W hW hV
  cases c with
  | true=>rw [if_pos rfl] at hV;exact end_c (i:=0) (cs:=(pageF kind:Fd).cells) hW { cv:=[(202,cvW fun W _=>PG W)] } 20 rfl rfl (by kernel_rfl) (fd_one _) Tryz.underlying143 rfl Tryz.results94 (by kernel_rfl) (by kernel_rfl) (fun _=>by kernel_rfl) fun W hb=>⟨by rw [hV],hb⟩
  | false =>
    rw [if_neg (by decide)] at hV
    rw [← hT] at hV
    exact wk_adv Bs.eng {} 3 hW (by kernel_rfl) (by kernel_rfl) fun W hW=>wk_join _ _ (by kernel_rfl) (by kernel_rfl) (walk_tail (ra:=ra) (n:=n) (rcap:=rcap) (cap:=cap) (p:=p) (R:=R) FT hlz hl hlv hW hV)
 have s4:∀ c W,Bs w wB W→(V=if c=true then pageF kind else if ((p==1)&&(bitAt e 4==1)&&((kind==1)||(bitAt (l.getD 0 0) 18==0)))=true then pageF kind else Y)→wW V w (.code (dropC 1 (inC (dropC 1 (inC (dropC 1 (inC (dropC 1 (inC (dropC 1 (inC (headC (dropC 11 wD)))))))))))) :: .blk 2 :: .code (dropC 12 wD) :: wT R) (wF ra n rcap b off cap p va kind w (wL lv X e [(20,.int .u64 (bitAt e 4),0),(174,.bool c,0)])) W:=by
  intro c W hW hV
  cases c with
  | true=>rw [if_pos rfl] at hV;exact end_c (i:=0) (cs:=(pageF kind:Fd).cells) hW { cv:=[(182,cvW fun W _=>PG W)] } 20 rfl rfl (by kernel_rfl) (fd_one _) Tryz.underlying143 rfl Tryz.results94 (by kernel_rfl) (by kernel_rfl) (fun _=>by kernel_rfl) fun W hb=>⟨by rw [hV],hb⟩
  | false =>
    rw [if_neg (by decide)] at hV
    obtain ⟨c,hc⟩:∃ c,c=((p==1)&&(bitAt e 4==1)&&((kind==1)||(bitAt (l.getD 0 0) 18==0))):=⟨_,rfl⟩
    rw [← hc] at hV
    cases t0:(p==1)<;>cases t1:(bitAt e 4==1)<;>cases t2:(kind==1)<;>cases t3:(bitAt (l.getD 0 0) 18==0)<;>(
     rw [t0,t1,t2,t3] at hc
     subst hc
     exact wk_adv Bs.eng { eq:=[(185,eqB t0),(188,eqB t1),(192,eqB t2),(198,eqB t3)],ov:=[(196,ovL ⟨b,off,none⟩ _ Tryz.underlying24 rfl c0)],cv:=[(197,cvE (HB (l.getD 0 0) 18 (by omega)))] } 22 hW (by kernel_rfl) (by kernel_rfl) fun W hW=>wk_join _ _ (by kernel_rfl) (by kernel_rfl) (s5 _ W hW hV))
 have s3:∀ c W,Bs w wB W→(V=if c=true then pageF kind else if ((p==0)&&(bitAt e 4==0))=true then pageF kind else if ((p==1)&&(bitAt e 4==1)&&((kind==1)||(bitAt (l.getD 0 0) 18==0)))=true then pageF kind else Y)→wW V w (.code (dropC 1 (inC (dropC 1 (inC (dropC 1 (inC (dropC 1 (inC (headC (dropC 11 wD)))))))))) :: .blk 2 :: .code (dropC 12 wD) :: wT R) (wF ra n rcap b off cap p va kind w (wL lv X e [(20,.int .u64 (bitAt e 4),0),(165,.bool c,0)])) W:=by
  intro c W hW hV
  cases c with
  | true=>rw [if_pos rfl] at hV;exact end_c (i:=0) (cs:=(pageF kind:Fd).cells) hW { cv:=[(173,cvW fun W _=>PG W)] } 20 rfl rfl (by kernel_rfl) (fd_one _) Tryz.underlying143 rfl Tryz.results94 (by kernel_rfl) (by kernel_rfl) (fun _=>by kernel_rfl) fun W hb=>⟨by rw [hV],hb⟩
  | false =>
    rw [if_neg (by decide)] at hV
    obtain ⟨c,hc⟩:∃ c,c=((p==0)&&(bitAt e 4==0)):=⟨_,rfl⟩
    rw [← hc] at hV
    cases t0:(p==0)<;>cases t1:(bitAt e 4==0)<;>(
     rw [t0,t1] at hc
     subst hc
     exact wk_adv Bs.eng { eq:=[(176,eqB t0),(179,eqB t1)] } 11 hW (by kernel_rfl) (by kernel_rfl) fun W hW=>wk_join _ _ (by kernel_rfl) (by kernel_rfl) (s4 _ W hW hV))
 have s2:∀ c W,Bs w wB W→(V=if c=true then pageF kind else if ((kind==3)&&(bitAt e 2==0))=true then pageF kind else if ((p==0)&&(bitAt e 4==0))=true then pageF kind else if ((p==1)&&(bitAt e 4==1)&&((kind==1)||(bitAt (l.getD 0 0) 18==0)))=true then pageF kind else Y)→wW V w (.code (dropC 1 (inC (dropC 1 (inC (dropC 1 (inC (headC (dropC 11 wD)))))))) :: .blk 2 :: .code (dropC 12 wD) :: wT R) (wF ra n rcap b off cap p va kind w (wL lv X e [(20,.int .u64 (bitAt e 4),0),(145,.bool c,0)])) W:=by
  intro c W hW hV
  cases c with
  | true=>rw [if_pos rfl] at hV;exact end_c (i:=0) (cs:=(pageF kind:Fd).cells) hW { cv:=[(164,cvW fun W _=>PG W)] } 20 rfl rfl (by kernel_rfl) (fd_one _) Tryz.underlying143 rfl Tryz.results94 (by kernel_rfl) (by kernel_rfl) (fun _=>by kernel_rfl) fun W hb=>⟨by rw [hV],hb⟩
  | false =>
    rw [if_neg (by decide)] at hV
    obtain ⟨c,hc⟩:∃ c,c=((kind==3)&&(bitAt e 2==0)):=⟨_,rfl⟩
    rw [← hc] at hV
    cases t0:(kind==3)<;>cases t1:(bitAt e 2==0)<;>(
     rw [t0,t1] at hc
     subst hc
     exact wk_adv Bs.eng { eq:=[(167,eqB t0),(170,eqB t1)] } 11 hW (by kernel_rfl) (by kernel_rfl) fun W hW=>wk_join _ _ (by kernel_rfl) (by kernel_rfl) (s3 _ W hW hV))
 have s1:∀ c W,Bs w wB W→(V=if c=true then pageF kind else if ((kind==2)&&(bitAt e 1==0)&&((bitAt e 3==0)||(bitAt (l.getD 0 0) 19==0)))=true then pageF kind else if ((kind==3)&&(bitAt e 2==0))=true then pageF kind else if ((p==0)&&(bitAt e 4==0))=true then pageF kind else if ((p==1)&&(bitAt e 4==1)&&((kind==1)||(bitAt (l.getD 0 0) 18==0)))=true then pageF kind else Y)→wW V w (.code (dropC 1 (inC (dropC 1 (inC (headC (dropC 11 wD)))))) :: .blk 2 :: .code (dropC 12 wD) :: wT R) (wF ra n rcap b off cap p va kind w (wL lv X e [(20,.int .u64 (bitAt e 4),0),(136,.bool c,0)])) W:=by
  intro c W hW hV
  cases c with
  | true=>rw [if_pos rfl] at hV;exact end_c (i:=0) (cs:=(pageF kind:Fd).cells) hW { cv:=[(144,cvW fun W _=>PG W)] } 20 rfl rfl (by kernel_rfl) (fd_one _) Tryz.underlying143 rfl Tryz.results94 (by kernel_rfl) (by kernel_rfl) (fun _=>by kernel_rfl) fun W hb=>⟨by rw [hV],hb⟩
  | false =>
    rw [if_neg (by decide)] at hV
    obtain ⟨c,hc⟩:∃ c,c=((kind==2)&&(bitAt e 1==0)&&((bitAt e 3==0)||(bitAt (l.getD 0 0) 19==0))):=⟨_,rfl⟩
    rw [← hc] at hV
    cases t0:(kind==2)<;>cases t1:(bitAt e 1==0)<;>cases t2:(bitAt e 3==0)<;>cases t3:(bitAt (l.getD 0 0) 19==0)<;>(
     rw [t0,t1,t2,t3] at hc
     subst hc
     exact wk_adv Bs.eng { eq:=[(147,eqB t0),(150,eqB t1),(154,eqB t2),(160,eqB t3)],ov:=[(158,ovL ⟨b,off,none⟩ _ Tryz.underlying24 rfl c0)],cv:=[(159,cvE (HB (l.getD 0 0) 19 (by omega)))] } 22 hW (by kernel_rfl) (by kernel_rfl) fun W hW=>wk_join _ _ (by kernel_rfl) (by kernel_rfl) (s2 _ W hW hV))
 have s0:∀ c W,Bs w wB W→(V=if c=true then pageF kind else if ((kind==1)&&(bitAt e 3==0))=true then pageF kind else if ((kind==2)&&(bitAt e 1==0)&&((bitAt e 3==0)||(bitAt (l.getD 0 0) 19==0)))=true then pageF kind else if ((kind==3)&&(bitAt e 2==0))=true then pageF kind else if ((p==0)&&(bitAt e 4==0))=true then pageF kind else if ((p==1)&&(bitAt e 4==1)&&((kind==1)||(bitAt (l.getD 0 0) 18==0)))=true then pageF kind else Y)→wW V w (.code (dropC 1 (inC (headC (dropC 11 wD)))) :: .blk 2 :: .code (dropC 12 wD) :: wT R) (wF ra n rcap b off cap p va kind w (wL lv X e [(20,.int .u64 (bitAt e 4),0),(129,.bool c,0)])) W:=by
  intro c W hW hV
  cases c with
  | true=>rw [if_pos rfl] at hV;exact end_c (i:=0) (cs:=(pageF kind:Fd).cells) hW { cv:=[(135,cvW fun W _=>PG W)] } 20 rfl rfl (by kernel_rfl) (fd_one _) Tryz.underlying143 rfl Tryz.results94 (by kernel_rfl) (by kernel_rfl) (fun _=>by kernel_rfl) fun W hb=>⟨by rw [hV],hb⟩
  | false =>
    rw [if_neg (by decide)] at hV
    obtain ⟨c,hc⟩:∃ c,c=((kind==1)&&(bitAt e 3==0)):=⟨_,rfl⟩
    rw [← hc] at hV
    cases t0:(kind==1)<;>cases t1:(bitAt e 3==0)<;>(
     rw [t0,t1] at hc
     subst hc
     exact wk_adv Bs.eng { eq:=[(138,eqB t0),(141,eqB t1)] } 11 hW (by kernel_rfl) (by kernel_rfl) fun W hW=>wk_join _ _ (by kernel_rfl) (by kernel_rfl) (s1 _ W hW hV))
 obtain ⟨c,hc⟩:∃ c,offB e lv=c:=⟨_,rfl⟩
 rw [hc] at hV
 obtain rfl | rfl | rfl:lv=0∨lv=1∨lv=2:=by omega
 all_goals exact wk_adv Bs.eng { eq:=[(133,eqB hc)],cv:=[(128,cvE (HB e 4 (by omega)))] } 24 hW (by kernel_rfl) (by kernel_rfl) fun W hW=>wk_join _ _ (by kernel_rfl) (by kernel_rfl) (s0 c W hW hV)

include FT PG hlz hl in
theorem walk_round {T:Int} {W:World} (hr:ramOkB n=true) (hz:zs.length=n) (hs:Sl .u8 w ra zs) (hw8:∀ y ∈ zs,(Lit.int .u8 y).wf=true) (hlv:lv≤2) (hW:Bs w wB W) (hV:V=walkL zs n l p va kind lv T)
 (hR:∀ a w' T',0 < lv→V=walkL zs n l p va kind (lv - 1) T'→Knows (wF ra n rcap b off cap p va kind w [(11,.int .u64 T',0),(12,.int .u64 ((lv - 1:Nat):Int),0)]) Tryz.f94.ntmps a→Bs w wB w'→R a w') :
 wW V w [.code (inC (inC (dropC 5 (bodyOf Tryz.f94)))),.fin R,.blk 0] (wF ra n rcap b off cap p va kind w [(11,.int .u64 T,0),(12,.int .u64 lv,0)]) W:=by
 rw [walkL_step] at hV
 obtain ⟨X,hX⟩:∃ X,pteAt T va lv=X:=⟨_,rfl⟩
 have hS:=shr_d va (12+9*lv) _ rfl
 have hXu:0≤X∧X < 18446744073709551616:=by rw [← hX];exact wrapU _
 obtain ⟨e,he⟩:∃ e,pteV zs X=e:=⟨_,rfl⟩
 rw [hX,he] at hV
 have HB:∀ (x:Int) (i:Nat),i < 64→∀ W,Below w.heap.size w W→Calls Tryz.prog 73 #[.int .u64 x,.int .u64 i] W fun e' w'=>e'=.returned (.int .u64 (bitAt x i))∧w'=W:=fun x i hi W _=>l5Bit_any x i hi W
 have HI:∀ W,Below w.heap.size w W→Calls Tryz.prog 79 #[.slice ra n rcap,.int .u64 X,.int .i64 8] W fun e w'=>e=.returned (.bool (okB n X 8))∧w'=W:=fun W _=>inside_any ra n rcap X 8 W hr rfl hXu.1 (by omega)
 have HP:∀ W,Below w.heap.size w W→Calls Tryz.prog 77 #[.slice (some ⟨b,off,none⟩) 22 cap,.int .i64 1,.int .u64 X,.int .i64 8,.int .i64 2] W fun e w'=>e=.returned (.bool (permRest l 1 X (lastOf X 8) 2 4 0))∧w'=W:=fun W hb=>l6Permits_any (some ⟨b,off,none⟩) cap l 1 X 8 2 W hlz (hl.below hb)
 have s18:∀ c W,Bs w wB W→(V=if c=true then if stopB e lv=true then pageF kind else walkL zs n l p va kind (lv - 1) (IntKind.u64.wrap (frameV e*4096)) else leafV l p va kind e X lv)→wW V w (.code (dropC 1 (headC (dropC 8 wD))) :: .code (dropC 9 wD) :: wT R) (wF ra n rcap b off cap p va kind w (wL lv X e [(104,.bool c,0)])) W:=by
  intro c W hW hV
  cases c with
  | false =>
    rw [if_neg (by decide)] at hV
    exact wk_adv Bs.eng {} 2 hW (by kernel_rfl) (by kernel_rfl) fun W hW=>wk_join _ _ (by kernel_rfl) (by kernel_rfl) (walk_leaf (ra:=ra) (n:=n) (rcap:=rcap) (cap:=cap) (R:=R) FT PG hlz hl hlv hW hV)
  | true =>
    rw [if_pos rfl] at hV
    unfold stopB at hV
    cases t0:(bits .and .u64 (e / 16) 1==1)<;>cases t1:(bits .and .u64 (e / 64) 3 != 0)<;>rw [t0,t1] at hV<;>obtain rfl | rfl | rfl:lv=0∨lv=1∨lv=2:=by omega
    all_goals first
     | (rw [if_pos (by rfl)] at hV
        exact end_c (i:=0) (cs:=(pageF kind:Fd).cells) hW { eq:=[(109,eqI .u64 (shr_d e 4 16 (by decide))),(115,eqI .u64 (shr_d e 6 64 (by decide))),(111,eqB t0),(117,eqB t1)],cv:=[(120,cvW fun W _=>PG W)] } 60 rfl rfl (by kernel_rfl) (fd_one _) Tryz.underlying143 rfl Tryz.results94 (by kernel_rfl) (by kernel_rfl) (fun _=>by kernel_rfl) fun W hb=>⟨by rw [hV],hb⟩)
     | (rw [if_neg (by decide)] at hV
        exact wk_fin Bs.eng { eq:=[(109,eqI .u64 (shr_d e 4 16 (by decide))),(115,eqI .u64 (shr_d e 6 64 (by decide))),(111,eqB t0),(117,eqB t1)] } 60 hW (by kernel_rfl) (by kernel_rfl) fun a w' hw hk=>hR a w' _ (by omega) hV (hk.less (by kernel_rfl)) hw)
 have s15:∀ c W,Bs w wB W→(V=if c=true then pageF kind else if ptrB e=true then if stopB e lv=true then pageF kind else walkL zs n l p va kind (lv - 1) (IntKind.u64.wrap (frameV e*4096)) else leafV l p va kind e X lv)→wW V w (.code (dropC 1 (headC (dropC 6 wD))) :: .code (dropC 7 wD) :: wT R) (wF ra n rcap b off cap p va kind w [(12,.int .u64 lv,0),(13,.int .u64 X,0),(14,.int .u64 e,0),(15,.int .u64 (bitAt e 1),0),(16,.int .u64 (bitAt e 2),0),(17,.int .u64 (bitAt e 3),0),(93,.bool c,0)]) W:=by
  intro c W hW hV
  cases c with
  | true=>rw [if_pos rfl] at hV;exact end_c (i:=0) (cs:=(pageF kind:Fd).cells) hW { cv:=[(95,cvW fun W _=>PG W)] } 20 rfl rfl (by kernel_rfl) (fd_one _) Tryz.underlying143 rfl Tryz.results94 (by kernel_rfl) (by kernel_rfl) (fun _=>by kernel_rfl) fun W hb=>⟨by rw [hV],hb⟩
  | false =>
    rw [if_neg (by decide)] at hV
    obtain ⟨c,hc⟩:∃ c,c=ptrB e:=⟨_,rfl⟩
    rw [← hc] at hV
    unfold ptrB at hc
    cases t0:(bitAt e 1==0)<;>cases t1:(bitAt e 3==0)<;>(
     rw [t0,t1] at hc
     subst hc
     exact wk_adv Bs.eng { eq:=[(97,eqI .u64 (shr_d e 10 1024 (by decide))),(100,eqB t0),(103,eqB t1)] } 19 hW (by kernel_rfl) (by kernel_rfl) fun W hW=>wk_join _ _ (by kernel_rfl) (by kernel_rfl) (s18 _ W hW hV))
 have s11:okB n X 8=true→∀ W,Bs w wB W→(V=if badB e=true then pageF kind else if ptrB e=true then if stopB e lv=true then pageF kind else walkL zs n l p va kind (lv - 1) (IntKind.u64.wrap (frameV e*4096)) else leafV l p va kind e X lv)→wW V w (.code (dropC 2 wD) :: wT R) (wF ra n rcap b off cap p va kind w [(12,.int .u64 lv,0),(13,.int .u64 X,0)]) W:=by
  intro hok W hW hV
  have HL:∀ W,Below w.heap.size w W→Calls Tryz.prog 80 #[.slice ra n rcap,.int .u64 X,.int .i64 8] W fun e' w'=>e'=.returned (.int .u64 e)∧w'=W:=fun W hb=>by
   have hfn:=okB_at hok
   obtain ⟨f,hfX⟩:∃ f:Nat,X=2147483648+(f:Int):=⟨(X - 2147483648).toNat,by omega⟩
   have hb65:=ramOkB_bd hr
   have h:=l1Load_any ra n rcap f 8 zs W hz (by omega) (hs.below hb) hw8 (by omega) (by omega) (by omega)
   have e2:le zs f 8=e:=by rw [← he];unfold pteV;rw [hfX,show (2147483648+(f:Int) - 2147483648).toNat=f from by omega]
   rw [e2,← hfX] at h
   exact h
  obtain ⟨c,hc⟩:∃ c,c=badB e:=⟨_,rfl⟩
  rw [← hc] at hV
  unfold badB at hc
  cases t0:(bits .and .u64 e 1==0)<;>cases t1:(bitAt e 1==0)<;>cases t2:(bitAt e 2==1)<;>cases t3:(e / 18014398509481984 != 0)<;>(
   rw [t0,t1,t2,t3] at hc
   subst hc
   exact wk_adv Bs.eng { eq:=[(91,eqI .u64 (shr_d e 54 18014398509481984 (by decide))),(80,eqB t0),(83,eqB t1),(86,eqB t2),(92,eqB t3)],cv:=[(71,cvE HL),(73,cvE (HB e 1 (by omega))),(75,cvE (HB e 2 (by omega))),(77,cvE (HB e 3 (by omega)))] } 45 hW (by kernel_rfl) (by kernel_rfl) fun W hW=>wk_join _ _ (by kernel_rfl) (by kernel_rfl) (s15 _ W hW hV))
 cases t0:okB n X 8<;>cases t1:permRest l 1 X (lastOf X 8) 2 4 0<;>rw [t0] at HI<;>rw [t1] at HP<;>rw [t0] at hV<;>(try rw [t1] at hV)<;>obtain rfl | rfl | rfl:lv=0∨lv=1∨lv=2:=by omega
 all_goals first
  | (rw [if_pos rfl,if_pos rfl] at hV
     exact wk_adv Bs.eng { eq:=[(53,eqI .u64 hS),(13,eqI .u64 hX)],cv:=[(59,cvE HI),(64,cvE HP)] } 31 hW (by kernel_rfl) (by kernel_rfl) fun W hW=>wk_join _ _ (by kernel_rfl) (by kernel_rfl) (s11 t0 W hW hV))
  | (first | rw [if_pos rfl,if_neg (by decide)] at hV | rw [if_neg (by decide)] at hV
     exact end_c (i:=0) (cs:=(faultF kind:Fd).cells) hW { eq:=[(53,eqI .u64 hS),(13,eqI .u64 hX)],cv:=[(68,cvW fun W _=>FT W),(59,cvE HI),(64,cvE HP)] } 60 rfl rfl (by kernel_rfl) (fd_one _) Tryz.underlying143 rfl Tryz.results94 (by kernel_rfl) (by kernel_rfl) (fun _=>by kernel_rfl) fun W hb=>⟨by rw [hV],hb⟩)
end

set_option maxRecDepth 100000 in
theorem l7Walk_any (ra:Option Addr) (n rcap:Nat) (zs:List Int) (b off cap:Nat) (l:List Int) (p va kind:Int) (w:World)
 (hr:ramOkB n=true) (hz:zs.length=n) (hs:Sl .u8 w ra zs) (hw8:∀ y ∈ zs,(Lit.int .u8 y).wf=true) (hlz:l.length=22) (hl:Sl .u64 w (some ⟨b,off,none⟩) l) (hp:privB p=true) (hk1:1≤kind) (hk3:kind≤3) (hva:0≤va∧va < 18446744073709551616) :
 Calls Tryz.prog 94 #[.slice ra n rcap,.slice (some ⟨b,off,none⟩) 22 cap,.int .i64 p,.int .u64 va,.int .i64 kind] w fun e w'=>e=.returned (.agg (walkV zs n l p va kind).cells)∧Below w.heap.size w w':=by
 have FT:=l7Fault_any kind hk1 hk3
 have PG:=l7Page_any kind hk1 hk3
 obtain ⟨b',off',eb,hblt,c15⟩:=hl 15 (by omega)
 simp only [Option.some.injEq,Addr.mk.injEq,and_true] at eb
 obtain ⟨rfl,rfl⟩:=eb
 have c15:∀ W,Bs w wB W→W.cell? ⟨b,off+15,none⟩=some (.int .u64 (l.getD 15 0)):=fun W hW=>(hW.2.cell (by exact hblt)).trans c15
 have HW:∀ W,Below w.heap.size w W→Calls Tryz.prog 84 #[.int .u64 va,.int .u64 39] W fun e w'=>e=.returned (.int .u64 (widen 39 va))∧w'=W:=fun W _=>l1Widen_any va 39 (by omega) (by omega) W
 obtain ⟨V,hV⟩:∃ V,V=walkV zs n l p va kind:=⟨_,rfl⟩
 rw [← hV]
 unfold walkV at hV
 refine wk_go (S:=Bs w wB) (args:=[.slice ra n rcap,.slice (some ⟨b,off,none⟩) 22 cap,.int .i64 p,.int .u64 va,.int .i64 kind]) wB Tryz.func94 rfl (by kernel_rfl) (by kernel_rfl) ?_
 have hW:=Bs.start w wB
 have h60:=shr_d (l.getD 15 0) 60 1152921504606846976 (by decide)
 generalize allocs w wB=W at hW ⊢
 cases t0:(p==3)<;>cases t1:(l.getD 15 0 / 1152921504606846976==0)<;>rw [t0,t1] at hV
 all_goals try (rw [if_pos (by rfl)] at hV;exact end_c (i:=0) (cs:=(⟨va,0,false,0,0⟩:Fd).cells) hW { eq:=[(30,eqI .u64 h60),(25,eqB t0),(31,eqB t1)],ov:=[(29,ovL ⟨b,off+15,none⟩ _ Tryz.underlying24 rfl c15)] } 60 rfl rfl (by kernel_rfl) (fd_one _) Tryz.underlying143 rfl Tryz.results94 (by kernel_rfl) (by kernel_rfl) (fun _=>by kernel_rfl) fun W hb=>⟨by rw [hV],hb⟩)
 rw [if_neg (by decide)] at hV
 cases t2:(widen 39 va != va)
 case true=>rw [t2,if_pos rfl] at hV;exact end_c (i:=0) (cs:=(pageF kind:Fd).cells) hW { eq:=[(30,eqI .u64 h60),(25,eqB t0),(31,eqB t1),(38,eqB t2)],ov:=[(29,ovL ⟨b,off+15,none⟩ _ Tryz.underlying24 rfl c15)],cv:=[(40,cvW fun W _=>PG W),(36,cvE HW)] } 60 rfl rfl (by kernel_rfl) (fd_one _) Tryz.underlying143 rfl Tryz.results94 (by kernel_rfl) (by kernel_rfl) (fun _=>by kernel_rfl) fun W hb=>⟨by rw [hV],hb⟩
 rw [t2,if_neg (by decide)] at hV
 refine wk_adv Bs.eng { eq:=[(30,eqI .u64 h60),(25,eqB t0),(31,eqB t1),(38,eqB t2)],ov:=[(29,ovL ⟨b,off+15,none⟩ _ Tryz.underlying24 rfl c15),(43,ovL ⟨b,off+15,none⟩ _ Tryz.underlying24 rfl c15)],cv:=[(36,cvE HW)] } 100 hW (by kernel_rfl) (by kernel_rfl) fun W hW=>wk_join [.code (inC (dropC 5 (bodyOf Tryz.f94))),.blk 0] (wF ra n rcap b off cap p va kind w [(11,.int .u64 (topT l),0),(12,.int .u64 ((2:Nat):Int),0)]) (by kernel_rfl) (by kernel_rfl) ?_
 refine wk_loop (α:=Nat × Int) (fun x=>wF ra n rcap b off cap p va kind w [(11,.int .u64 x.2,0),(12,.int .u64 (x.1:Int),0)]) (fun j x W=>j=x.1∧x.1≤2∧V=walkL zs n l p va kind x.1 x.2∧Bs w wB W) 2 (2,topT l) (by kernel_rfl) (by kernel_rfl) ⟨rfl,Nat.le_refl _,hV,hW⟩ fun j x W hI R hR=>?_
 obtain ⟨rfl,h2,hV,hW⟩:=hI
 exact walk_round FT PG hlz hl hr hz hs hw8 h2 hW hV fun a w' T' h0 h1 hk hw=>hR a w' (x.1 - 1) (x.1 - 1,T') (by omega) hk ⟨rfl,by show x.1 - 1≤2;omega,h1,hw⟩

end Go.Proofs.YtbajeckeeekhnaaGreat
