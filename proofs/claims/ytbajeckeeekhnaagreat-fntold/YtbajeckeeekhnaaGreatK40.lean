/- Own lemmas. -/
import Derived.Test.YtbajeckeeekhnaaGreatK34
import Derived.Test.YtbajeckeeekhnaaGreatK38
import Derived.Test.YtbajeckeeekhnaaGreatK39
import Derived.Great.BuildSlice
namespace Go.Proofs.YtbajeckeeekhnaaGreat
open Go.RowKit
set_option linter.unusedVariables false

def stepsM:Nat→MV→MV × List Int
 | 0,M=>(M,[])
 | n+1,M=>if ((stepM M).2==4)=true then ((stepM M).1,[(stepM M).2]) else ((stepsM n (stepM M).1).1,(stepM M).2 :: (stepsM n (stepM M).1).2)

theorem Gw.step {M:MV} (h:Gw M):Gw (stepM M).1:=step_gw h fun l p hp=>pend_16 l p hp

theorem steps_gw:∀ (n:Nat) {M:MV},Gw M→Gw (stepsM n M).1
 | 0,_,h=>h
 | n+1,M,h=>by
   unfold stepsM
   split
   ·exact h.step
   ·exact steps_gw n h.step

theorem apart_t {W:World} {B B' n n':Nat} {t t':TypeId} {v v':Value} {xs xs':List Value} (h:W.ownsRow B t 1 v n xs) (h':W.ownsRow B' t' 1 v' n' xs') (ht:t≠t') {k:Nat} (e:v.ownBlock=some k):v'.ownBlock≠some k:=fun e'=>by
 rcases h.2 with ⟨rfl,_⟩ | ⟨g,c,cur,rfl,_,h3,_⟩
 ·cases e
 ·rcases h'.2 with ⟨rfl,_⟩ | ⟨g',c',cur',rfl,_,h3',_⟩
  ·cases e'
  ·cases e
   cases e'
   rw [h3] at h3'
   injection h3' with h4
   injection h4 with _ h5
   exact ht h5

theorem mvF_t {M:MV} {A:MA} {q:FRow} (h:q ∈ mvF M A):q.t=24∨q.t=5:=by
 simp only [mvF,List.mem_cons,List.not_mem_nil,or_false] at h
 rcases h with rfl | rfl | rfl | rfl | rfl<;>simp [wRow,bRow]

theorem told_apart {W:World} {B B' E n:Nat} {v:Value} {xs:List Value} {M:MV} {A:MA} (h:W.ownsRow B 2 1 v n xs) (f:Fam B' E W (mvF M A)) {k:Nat} (e:v.ownBlock=some k):∀ q ∈ mvF M A,q.v.ownBlock≠some k:=fun q hq=>apart_t h (f.own q hq) (by rcases mvF_t hq with e | e<;>rw [e]<;>decide) e

theorem Ht.far {B hh r:Nat} {M:MV} {A:MA} {W W':World} (h:Ht B hh r M A W) (hs:W.heap.size≤W'.heap.size) (hk:∀ k,k < W.heap.size→(k=hh∨k=r∨∃ q ∈ mvF M A,q.v.ownBlock=some k)→W'.heap[k]?=W.heap[k]?):Ht B hh r M A W':=by
 have f:Fam B W.heap.size W' (mvF M A):=⟨fun q hq=>fown_of (h.mp.fam.own q hq) fun k e=>hk k ((h.mp.fam.own q hq).lt k e).2 (.inr (.inr ⟨q,hq,e⟩)),h.mp.fam.hi,h.mp.fam.ne⟩
 exact ⟨(hk hh h.lt (.inl rfl)).trans h.row,⟨(hk r h.mp.lt (.inr (.inl rfl))).trans h.mp.row,f.low (Nat.le_refl _) hs,h.mp.ne,h.mp.lo⟩,h.ne,h.nq⟩

def app1S (T:TypeId) (v u:Value):Sem Next:=execOp (fun x=>match x with | .tmp 0=>v | _=>u) { dst:=none,op:=.call { callee:=.builtin .append,args:=#[.tmp 0,.tmp 1],argTypes:=#[T,T] },type:=T,pos:= "",after:=#[],guard:=none }

theorem run_app1S {P:Program} {T:TypeId} {v u x:Value} {w w':World} (h:(Builtin.append_ #[T,T] T #[v,u]).run P w=.ok x w'):(app1S T v u).run P w=.ok (.value x) w':=by
 unfold app1S execOp
 simp only [resolve,invoke,builtin,Sem.run_bind,Sem.run_pure,Result.andThen_ok,List.map_toArray,List.map_cons,List.map_nil,h]

theorem i64_info:(Tryz.prog.info? 2).map (fun i=>(i.zero,i.size,i.bytes))=some (some (.int .i64 0),1,8):=by kernel_rfl

theorem run_bs0 (w:World):(do pure (.value (← Instr.buildSlice 38 0 #[])):Sem Next).run Tryz.prog w=.ok (.value (.slice (some ⟨w.heap.size,0,none⟩) 0 0)) (w.alloc (.cells #[] 2)):=by
 obtain ⟨i0,hi,e⟩:=Option.map_eq_some_iff.1 i64_info
 have h0:∀ f:Nat→Value,Array.map f (Array.range 0)=#[]:=fun f=>Array.eq_empty_of_size_eq_zero (by simp)
 simp [Instr.buildSlice,run_underlying Tryz.underlying38,sizeOf,typeInfo,hi,Instr.fill,newRow,h0]

theorem run_bs1 (w:World) (x:Int):(do pure (.value (← Instr.buildSlice 38 1 #[(0,.int .i64 x)])):Sem Next).run Tryz.prog w=.ok (.value (.slice (some ⟨w.heap.size,0,none⟩) 1 1)) (w.alloc (.cells #[.int .i64 x] 2)):=by
 obtain ⟨i0,hi,e⟩:=Option.map_eq_some_iff.1 i64_info
 simp only [Prod.mk.injEq] at e
 obtain ⟨e1,e2,e3⟩:=e
 have:=run_buildSlice (P:=Tryz.prog) w 38 2 1 #[(0,.int .i64 x)] #[.int .i64 x] i0 (.int .i64 0) Tryz.underlying38 hi e1 (by rw [e2];decide) (by rw [e2];decide) (by rw [e2];kernel_rfl)
 simp [this]

structure Hl (B hh r:Nat) (M:MV) (A:MA) (w:World) (M':MV) (A':MA) (xs:List Int) (a:Option Addr) (c:Nat) (W:World):Prop where
 ht:Ht B hh r M' A' W
 kx:Kx r (mvF M A) (mvF M' A') w W
 lo:hh < w.heap.size∧r < w.heap.size
 own:W.ownsRow w.heap.size 2 1 (.slice a xs.length c) xs.length (xs.map (Value.int .i64))

section
variable {B hh r : Nat} {M M' M2 : MV} {A A' A2 : MA} {w W W' : World} {xs : List Int} {a : Option Addr} {c : Nat}

theorem Hl.step (h:Hl B hh r M A w M' A' xs a c W) (p:Ht B hh r M2 A2 W') (k:Kx r (mvF M' A') (mvF M2 A2) W W'):Hl B hh r M A w M2 A2 xs a c W' :=
 ⟨p,h.kx.trans k,h.lo,fown_of h.own fun j e=>by
  obtain ⟨h1,h2⟩:=h.own.lt j e
  have:=h.lo
  exact k.block j h2 (by omega) (told_apart h.own h.ht.mp.fam e)⟩

theorem Hl.push (h:Hl B hh r M A w M' A' xs a c W) (hn:xs.length≤1000000) (x:Int):∃ (a':Option Addr) (c':Nat) (W':World),(app1S 38 (.slice a xs.length c) (.slice (some ⟨W.heap.size,0,none⟩) 1 1)).run Tryz.prog (W.alloc (.cells #[.int .i64 x] 2))=.ok (.value (.slice a' (xs ++ [x]).length c')) W'∧Hl B hh r M A w M' A' (xs ++ [x]) a' c' W':=by
 obtain ⟨i0,hi,e⟩:=Option.map_eq_some_iff.1 i64_info
 simp only [Prod.mk.injEq] at e
 obtain ⟨e1,e2,e3⟩:=e
 have hb:=(Below.refl W.heap.size W).alloc (Nat.le_refl _) (.cells #[.int .i64 x] 2)
 have hz:=h.kx.size
 obtain ⟨v,W',hr,h2,h3,_⟩:=run_append_own (P:=Tryz.prog) (W.alloc (.cells #[.int .i64 x] 2)) w.heap.size 38 38 2 i0 (.int .i64 0) 1 8 Tryz.underlying38 hi e1 e2 e3 rfl (by decide) _ xs.length _ (ownsRow_below h.own hb) ⟨W.heap.size,0,none⟩ 1 1 [.int .i64 x] rfl (fun j u hu=>one_cell W _ _ j u hu) (by simp [Value.oneCell']) (by unfold maxLen;omega) (by omega) (by simp;omega)
 have hsl:∃ a' c',v=.slice a' (xs.length+1) c':=by
  rcases h2.2 with ⟨e1,e0⟩ | ⟨g,cap,cur,e1,_⟩
  ·omega
  ·exact ⟨_,_,e1⟩
 obtain ⟨a',c',rfl⟩:=hsl
 have el:(xs ++ [x]).length=xs.length+1:=by simp
 have bl:∀ k,k < W.heap.size→(∀ j,(Value.slice a xs.length c).ownBlock=some j→j≠k)→W'.heap[k]?=W.heap[k]?:=fun k hk hj=>(h3.block k (by simp;omega) (fun e=>hj k e.symm rfl)).trans (hb.block k hk)
 have zz:W.heap.size≤W'.heap.size:=Nat.le_trans hb.size h3.size
 refine ⟨a',c',W',run_app1S (by rw [el];exact hr),h.ht.far zz fun k hk hc=>bl k hk fun j hj e=>?_,⟨h3.os.trans (hb.os.trans h.kx.os),h3.tape.trans (hb.tape.trans h.kx.tape),h3.output.trans (hb.output.trans h.kx.output),Nat.le_trans hz zz,fun k hk h1 h4=>(bl k (by omega) fun j hj e=>?_).trans (h.kx.block k hk h1 h4),h.kx.own⟩,h.lo,?_⟩
 ·have:=(h.own.lt j hj).1
  have:=h.lo
  rcases hc with hc | hc | ⟨q,hq,hc⟩
  ·omega
  ·omega
  ·exact told_apart h.own h.ht.mp.fam hj q hq (by rw [e];exact hc)
 ·have:=(h.own.lt j hj).1
  omega
 ·rw [el,List.map_append]
  exact h2

end

def LR (B hh r:Nat) (M:MV) (A:MA) (w:World) (R:MV × List Int) (e:Ending) (w':World):Prop:=∃ (a:Option Addr) (c:Nat) (A':MA),e=.returned (.slice a R.2.length c)∧Hl B hh r M A w R.1 A' R.2 a c w'

structure Ls (B hh r:Nat) (M:MV) (A:MA) (w:World) (n j:Nat) (x:MV × MA × List Int × Option Addr × Nat × Nat) (W:World):Prop where
 ej:x.2.2.2.2.2=j
 hl:Hl B hh r M A w x.1 x.2.1 x.2.2.1 x.2.2.2.1 x.2.2.2.2.1 W
 gw:Gw x.1
 ln:x.2.2.1.length+j=n
 st:stepsM n M=((stepsM j x.1).1,x.2.2.1 ++ (stepsM j x.1).2)

section
variable {B hh r : Nat} {M : MV} {A : MA} {w : World}

set_option maxRecDepth 100000 in
theorem steps_r (n:Nat) (hn:n≤300) (h:Ht B hh r M A w) (hg:Gw M):Calls Tryz.prog 29 #[.pointer (some ⟨hh,0,none⟩),.int .i64 n] w (LR B hh r M A w (stepsM n M)):=by
 refine wk_go (S:=fun _=>True) (args:=[.pointer (some ⟨hh,0,none⟩),.int .i64 n]) [] Tryz.func29 rfl (by kernel_rfl) (by kernel_rfl) ?_
 refine wx_op (R:=[]) trivial {} 10 0 (run_bs0 w) (by kernel_rfl) (by kernel_rfl) ?_
 have hb:=(Below.refl w.heap.size w).alloc (Nat.le_refl _) (.cells #[] 2)
 have h0:Ls B hh r M A w n n (M,A,[],some ⟨w.heap.size,0,none⟩,0,n) (w.alloc (.cells #[] 2)):=⟨rfl,⟨h.below hb,Kx.of_below hb,⟨h.lt,h.mp.lt⟩,World.ownsRow_lit w #[] 0 (Nat.le_refl _) (by unfold maxLen;omega) rfl⟩,hg,by simp,by simp⟩
 generalize w.alloc (.cells #[] 2)=w1 at h0 ⊢
 refine wx_adv (R:=[]) trivial {} 20 (by kernel_rfl) (by kernel_rfl) ?_
 refine wk_loop (fun x:MV × MA × List Int × Option Addr × Nat × Nat=>[(0,.pointer (some ⟨hh,0,none⟩),0),(1,.int .i64 (x.2.2.2.2.2:Nat),0),(5,.slice x.2.2.2.1 x.2.2.1.length x.2.2.2.2.1,0)]) (Ls B hh r M A w n) n (M,A,[],some ⟨w.heap.size,0,none⟩,0,n) (by kernel_rfl) (by kernel_rfl) h0 ?_
 clear h0 hb
 rintro j ⟨M1,A1,xs,a,c,j'⟩ W ⟨ej,hl,gw,ln,st⟩ T hT
 dsimp only at ej hl gw ln st ⊢
 subst ej
 cases j' with
 | zero =>
   have e:stepsM n M=(M1,xs):=by rw [st];simp [stepsM]
   rw [e]
   exact wx_end (R:=[]) trivial {} 60 (t:=4) (by kernel_rfl) (by kernel_rfl) rfl ⟨a,c,A1,rfl,hl⟩
 | succ j =>
   have q:decide ((0:Int) < ((j+1:Nat):Int))=true:=by rw [decide_eq_true_eq];omega
   have sr:=step_r hl.ht gw.1 gw.2
   have g1:=gw.step
   have e1:stepsM (j+1) M1=if ((stepM M1).2==4)=true then ((stepM M1).1,[(stepM M1).2]) else ((stepsM j (stepM M1).1).1,(stepM M1).2 :: (stepsM j (stepM M1).1).2):=rfl
   rw [e1] at st
   clear e1
   generalize stepM M1=V at sr g1 st
   obtain ⟨M2,k⟩:=V
   dsimp only at sr g1 st
   refine wx_call (R:=[]) trivial { eq:=[(9,eqB q)] } 60 sr (by kernel_rfl) (by kernel_rfl) ?_
   rintro e W1 ⟨rfl,A2,h2,k2⟩
   refine ⟨_,0,rfl,?_⟩
   have l2:=hl.step h2 k2
   refine wx_op (R:=[]) trivial {} 20 0 (run_bs1 W1 k) (by kernel_rfl) (by kernel_rfl) ?_
   obtain ⟨a',c',W3,hr,l3⟩:=l2.push (by omega) k
   refine wk_op 0 (by kernel_rfl) hr (nob (by kernel_rfl)) ?_
   have hlen:(xs ++ [k]).length=xs.length+1:=by simp
   cases hk:(k==4) with
   | true =>
     rw [hk,if_pos rfl] at st
     rw [st]
     exact wx_end (R:=[]) trivial { eq:=[(19,eqB hk)] } 60 (t:=4) (by kernel_rfl) (by kernel_rfl) rfl ⟨a',c',A2,rfl,l3⟩
   | false =>
     rw [hk,if_neg (by decide)] at st
     have hw:IntKind.i64.wrap (((j+1:Nat):Int) - 1)=((j:Nat):Int):=by rw [IntKind.wrap_i64];omega
     exact wx_fin (R:=[]) trivial { eq:=[(19,eqB hk),(11,eqI .i64 hw)] } 60 (by kernel_rfl) (by kernel_rfl) fun b hb=>hT b W3 j (M2,A2,xs ++ [k],a',c',j) (by omega) (hb.less (by kernel_rfl)) ⟨rfl,l3,g1,by rw [hlen];omega,by rw [st];simp⟩

end

def stepsA (M:MV) (n:Int):MV × List Int:=if (machB M&&decide (0≤n∧n≤300))=true then stepsM n.toNat M else (zeroM,[])

def mlQ (w:World) (V:MV × List Int) (e:Ending) (w':World):Prop:=∃ (C:MA) (a:Option Addr) (c:Nat),e=.returned (.tuple #[.agg (mvc V.1 C),.slice a V.2.length c])∧Fam w.heap.size w'.heap.size w' (mvF V.1 C)∧w'.ownsRow w.heap.size 2 1 (.slice a V.2.length c) V.2.length (V.2.map (Value.int .i64))∧Below w.heap.size w w'

set_option maxRecDepth 100000 in
theorem specSteps_any (M:MV) (A:MA) (n:Int) (w:World) (hl:MLen M) (hs:MSl w M A) (hf:Fit M):Calls Tryz.prog 12 #[.agg (mvc M A),.int .i64 n] w (mlQ w (stepsA M n)):=by
 have HM:=fun W (hb:Below w.heap.size w W)=>specMachineOk_any M A W hl (hs.below hb)
 have HI:=fun W (_:Below w.heap.size w W)=>l1In_any n 0 300 W
 unfold stepsA
 refine wk_go (S:=Bs w [(mvc M A,29),(mvc zeroM zeroA,29)]) (args:=[.agg (mvc M A),.int .i64 n]) [(mvc M A,29),(mvc zeroM zeroA,29)] Tryz.func12 rfl (by kernel_rfl) (by kernel_rfl) ?_
 cases hb:(machB M&&decide (0≤n∧n≤300)) with
 | false =>
   rw [if_neg (by decide)]
   have fin:∀ W1,Bs w [(mvc M A,29),(mvc zeroM zeroA,29)] W1→Wg Tryz.prog (Bs w [(mvc M A,29),(mvc zeroM zeroA,29)]) (bodyPost Tryz.prog Tryz.f12 (mlQ w (zeroM,[]))) Tryz.f12.ntmps [.code (thenC (dropC 1 (headC (dropC 1 (bodyOf Tryz.f12))))),.code (dropC 2 (bodyOf Tryz.f12))] [(4,.pointer (some ⟨w.heap.size+1,0,none⟩),2)] W1:=fun W1 h1=>by
    refine wk_adv Bs.eng {} 40 h1 (by kernel_rfl) (by kernel_rfl) fun W1 h1=>?_
    refine wk_op 0 (by kernel_rfl) (run_bs0 W1) (nob (by kernel_rfl)) ?_
    have h2:=h1.below ((Below.refl _ _).alloc (Nat.le_refl W1.heap.size) (.cells #[] 2))
    have z1:=(Array.getElem?_eq_some_iff.1 (h1.1 1 _ rfl)).1
    have o2:(W1.alloc (.cells #[] 2)).ownsRow W1.heap.size 2 1 (.slice (some ⟨W1.heap.size,0,none⟩) 0 0) 0 []:=World.ownsRow_lit W1 #[] 0 (Nat.le_refl _) (by unfold maxLen;omega) rfl
    generalize W1.alloc (.cells #[] 2)=W2 at h2 o2 ⊢
    refine wk_sk (by kernel_rfl) (run_stRow (g:=w.heap.size+1) (old:=mvc zeroM zeroA) (cells:=mvc zeroM zeroA) (t:=29) (ty:=29) (h2.1 1 _ rfl) (by kernel_rfl) rfl (mvc_one _ _)) (nob (by kernel_rfl)) ?_
    refine wx_ret (R:=[]) trivial {} 40 (by kernel_rfl) (by kernel_rfl) fun a hk=>⟨.tuple #[.agg (mvc zeroM zeroA),.slice (some ⟨W1.heap.size,0,none⟩) 0 0],res_ct hk rfl (by kernel_rfl) (by kernel_rfl) (setRow_heap _ _ _ _ _ _ (h2.1 1 _ rfl)) Tryz.underlying29 rfl (by kernel_rfl),zeroA,_,_,rfl,fam_zeroM _ _ _,?_,row_below h2.2 (by omega) _⟩
    exact fown_of (own_low o2 (by omega)) fun k e=>setRow_other _ _ _ _ (by have:=(o2.lt k e).1;omega)
   cases ok:machB M with
   | false =>
     rw [ok] at HM
     refine wk_adv Bs.eng { cv:=[(10,cvW HM)] } 13 (Bs.start _ _) (by kernel_rfl) (by kernel_rfl) fun W1 h1=>?_
     exact wk_join _ _ (by kernel_rfl) (by kernel_rfl) (fin W1 h1)
   | true =>
     rw [ok] at HM hb
     simp only [Bool.true_and] at hb
     rw [hb] at HI
     refine wk_adv Bs.eng { cv:=[(10,cvW HM),(14,cvE HI)] } 13 (Bs.start _ _) (by kernel_rfl) (by kernel_rfl) fun W1 h1=>?_
     exact wk_join _ _ (by kernel_rfl) (by kernel_rfl) (fin W1 h1)
 | true =>
   rw [if_pos rfl]
   obtain ⟨ok,hin⟩:=Bool.and_eq_true_iff.1 hb
   rw [ok] at HM
   rw [hin] at HI
   have hg:Gw M:=⟨hf.gd ok,hf.ud⟩
   obtain ⟨n0,n1⟩:=of_decide_eq_true hin
   obtain ⟨m,rfl⟩:=Int.eq_ofNat_of_zero_le n0
   rw [Int.toNat_natCast]
   have hsr:=fun (B hh r:Nat) (C:MA) (W:World) (h:Ht B hh r M C W)=>steps_r m (by omega) h hg
   generalize stepsM m M=V at hsr ⊢
   refine wk_ac Bs.eng { cv:=[(10,cvW HM),(14,cvE HI)] } 40 (Bs.start _ _) (fun W1 h1=>l9Copy_any M A W1 hl (hs.below h1.2)) (by kernel_rfl) (by kernel_rfl) ?_
   rintro W1 e W2 h1 ⟨C,rfl,F2,k2⟩
   refine ⟨_,0,rfl,nob (by kernel_rfl),?_⟩
   have h2:=h1.below k2
   have s1:w.heap.size+2≤W1.heap.size:=by
    have:=(Array.getElem?_eq_some_iff.1 (h1.1 1 _ rfl)).1
    omega
   refine wk_op 3 (by kernel_rfl) (run_al (T:=29) (z:=.agg (mvc zeroM zeroA)) (by kernel_rfl) W2) (nob (by kernel_rfl)) ?_
   refine wk_sk (by kernel_rfl) (run_stRow (g:=W2.heap.size) (t:=29) (ty:=29) (old:=mvc zeroM zeroA) (cells:=mvc M C) (heap_alloc_new _ _) (by kernel_rfl) rfl (mvc_one _ _)) (nob (by kernel_rfl)) ?_
   have b3:Below W2.heap.size W2 ((W2.alloc (.cells (mvc zeroM zeroA) 29)).setRow W2.heap.size (mvc M C)):=row_below ((Below.refl _ _).alloc (Nat.le_refl _) _) (Nat.le_refl _) _
   have r3:((W2.alloc (.cells (mvc zeroM zeroA) 29)).setRow W2.heap.size (mvc M C)).heap[W2.heap.size]?=some (.cells (mvc M C) 29 (0,0)):=setRow_heap _ _ _ _ _ _ (heap_alloc_new _ _)
   have z3:((W2.alloc (.cells (mvc zeroM zeroA) 29)).setRow W2.heap.size (mvc M C)).heap.size=W2.heap.size+1:=by rw [setRow_size,World.size_alloc]
   have e3:(Value.agg (mvc zeroM zeroA)).cells=mvc zeroM zeroA:=rfl
   rw [e3]
   generalize (W2.alloc (.cells (mvc zeroM zeroA) 29)).setRow W2.heap.size (mvc M C)=W3 at b3 r3 z3 ⊢
   refine wx_op (R:=[]) trivial {} 40 2 (v:=.pointer (some ⟨W3.heap.size,0,none⟩)) (w':=W3.alloc (.cells #[.pointer (some ⟨W2.heap.size,0,none⟩),.slice none 0 0] 57)) (run_bx 57 (.agg #[.pointer (some ⟨W2.heap.size,0,none⟩),.slice none 0 0]) W3) (by kernel_rfl) (by kernel_rfl) ?_
   have b4:Below W3.heap.size W3 (W3.alloc (.cells #[.pointer (some ⟨W2.heap.size,0,none⟩),.slice none 0 0] 57)):=(Below.refl _ _).alloc (Nat.le_refl _) _
   have r4:(W3.alloc (.cells #[.pointer (some ⟨W2.heap.size,0,none⟩),.slice none 0 0] 57)).heap[W3.heap.size]?=some (.cells #[.pointer (some ⟨W2.heap.size,0,none⟩),.slice none 0 0] 57 (0,0)):=heap_alloc_new _ _
   generalize W3.alloc (.cells #[.pointer (some ⟨W2.heap.size,0,none⟩),.slice none 0 0] 57)=W4 at b4 r4 ⊢
   have k4:=below_trans b3 b4
   have s2:=k2.size
   have s4:=b4.size
   have f4:Fam W1.heap.size W4.heap.size W4 (mvF M C):=(F2.below k4).low (Nat.le_refl _) k4.size
   have m4:Mp W1.heap.size W2.heap.size M C W4:=⟨dstays b4 r3,f4,fun q hq e=>by have:=F2.hi q hq _ e;omega,s2⟩
   have t4:Ht W1.heap.size W3.heap.size W2.heap.size M C W4:=⟨r4,m4,by omega,fun q hq e=>by have:=F2.hi q hq _ e;omega⟩
   refine wx_call (R:=[]) trivial {} 40 (hsr _ _ _ C W4 t4) (by kernel_rfl) (by kernel_rfl) ?_
   rintro e W5 ⟨a,c,D,rfl,l5⟩
   refine ⟨_,0,rfl,?_⟩
   have b5:=m4.under l5.kx
   have h5:Bs w [(mvc M A,29),(mvc zeroM zeroA,29)] W5:=by
    have h4:=(h2.below k4)
    refine ⟨fun i x hx=>?_,?_⟩
    ·have hlt:i < 2:=by have:=(List.getElem?_eq_some_iff.1 hx).1;exact this
     rw [b5.block _ (by omega)];exact h4.1 i x hx
    ·exact ⟨b5.os.trans h4.2.os,b5.tape.trans h4.2.tape,b5.output.trans h4.2.output,Nat.le_trans h4.2.size b5.size,fun k hk=>(b5.block k (by omega)).trans (h4.2.block k hk)⟩
   refine wk_tag 6 1 ?_
   refine wx_sk (R:=[⟨W2.heap.size,mvc V.1 D,[]⟩]) ⟨⟨_,_,l5.ht.mp.row⟩,trivial⟩ {} 40 (run_stRow (g:=w.heap.size+1) (t:=29) (ty:=29) (old:=mvc zeroM zeroA) (cells:=mvc V.1 D) (h5.1 1 _ rfl) (by kernel_rfl) rfl (mvc_one _ _)) (by kernel_rfl) (by kernel_rfl) ?_
   refine wx_ret (R:=[]) trivial {} 40 (by kernel_rfl) (by kernel_rfl) fun b hk=>⟨.tuple #[.agg (mvc V.1 D),.slice a V.2.length c],res_ct hk rfl (by kernel_rfl) (by kernel_rfl) (setRow_heap _ _ _ _ _ _ (h5.1 1 _ rfl)) Tryz.underlying29 rfl (by kernel_rfl),D,a,c,rfl,?_,?_,row_below h5.2 (by omega) _⟩
   ·have:=l5.ht.mp.fam
    refine Fam.low (B:=W1.heap.size) ?_ (by omega) (Nat.le_refl _)
    rw [setRow_size]
    exact this.mono fun k h1 h2 h3=>setRow_other _ _ _ _ (by omega)
   ·exact fown_of (own_low l5.own (by omega)) fun k e=>setRow_other _ _ _ _ (by have:=(l5.own.lt k e).1;omega)

end Go.Proofs.YtbajeckeeekhnaaGreat
