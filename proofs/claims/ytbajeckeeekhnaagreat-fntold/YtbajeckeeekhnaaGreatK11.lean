/- Own lemmas. -/
import Derived.Test.YtbajeckeeekhnaaGreatK01
import Derived.Test.YtbajeckeeekhnaaGreatK10
import Derived.Deep.LoopGhost
import Derived.Laws.Tables
namespace Go.Proofs.YtbajeckeeekhnaaGreat
open Go.RowKit
set_option linter.unusedVariables false

def Bs (w:World) (bs:List (Array Value × TypeId)) (W:World):Prop:=(∀ i x,bs[i]?=some x→W.heap[w.heap.size+i]?=some (.cells x.1 x.2 (0,0)))∧Below w.heap.size w W

theorem Bs.below {w W W':World} {bs:List (Array Value × TypeId)} (h:Bs w bs W) (hb:Below W.heap.size W W'):Bs w bs W':=⟨fun i x hx=>dstays hb (h.1 i x hx),below_trans h.2 hb⟩

theorem Bs.start (w:World) (bs:List (Array Value × TypeId)):Bs w bs (allocs w bs):=by
 have key:∀ (l:List (Array Value × TypeId)) (v:World),Below w.heap.size w v→(∀ i x,l[i]?=some x→(allocs v l).heap[v.heap.size+i]?=some (.cells x.1 x.2 (0,0)))∧Below v.heap.size v (allocs v l):=by
  intro l
  induction l with
  | nil=>intro v _;exact ⟨fun i x h=>by simp at h,Below.refl _ _⟩
  | cons y l ih =>
    intro v hv
    have hb:=(Below.refl v.heap.size v).alloc (Nat.le_refl _) (.cells y.1 y.2)
    obtain ⟨h1,h2⟩:=ih (v.alloc (.cells y.1 y.2)) (below_trans hv hb)
    refine ⟨fun i x hx=>?_,below_trans hb h2⟩
    cases i with
    | zero =>
      simp only [List.getElem?_cons_zero,Option.some.injEq] at hx
      subst hx
      exact dstays h2 (heap_alloc_new _ _)
    | succ i =>
      have:=h1 i x (by simpa using hx)
      rw [World.size_alloc] at this
      rw [show v.heap.size+(i+1)=v.heap.size+1+i by omega]
      exact this
 exact ⟨(key bs w (Below.refl _ _)).1,(key bs w (Below.refl _ _)).2⟩

def rwsOf (N:Nat):List (Array Value × TypeId)→List Rw
 | []=>[]
 | x :: l=>⟨N,x.1,[]⟩ :: rwsOf (N+1) l

theorem rwsOf_mem {r:Rw}:∀ {l:List (Array Value × TypeId)} {N:Nat},r ∈ rwsOf N l→∃ i x,l[i]?=some x∧r.b=N+i∧r.cs=x.1
 | [],_,h=>by cases h
 | y :: l,N,h=>by
   rcases List.mem_cons.1 h with rfl | h
   ·exact ⟨0,y,rfl,rfl,rfl⟩
   ·obtain ⟨i,x,h1,h2,h3⟩:=rwsOf_mem h
    exact ⟨i+1,x,by simpa using h1,by omega,h3⟩

theorem Bs.eng {P:Program} {fn:Func} {Rs:Ending→World→Prop} {w:World} {bs:List (Array Value × TypeId)}:Eng P (Bs w bs) (Bs w bs) (rwsOf w.heap.size bs) true (bodyPost P fn Rs) :=
 ⟨fun _ h=>h,fun W h r hr=>by
  obtain ⟨i,x,h1,h2,h3⟩:=rwsOf_mem hr
  exact ⟨_,_,by rw [h2,h3];exact h.1 i x h1⟩,fun _ W h=>h.below (Below.refl _ _).drew,pan_body⟩

def cvW {P:Program} {w:World} {bs:List (Array Value × TypeId)} {f:Nat} {args:Array Value} {v:Value} (h:∀ W,Below w.heap.size w W→Calls P f args W fun e w'=>e=.returned v∧Below W.heap.size W w'):Cv P (Bs w bs):=⟨f,args,v,0,fun W hS=>(h W hS.2).mono fun e w' k=>⟨k.1,hS.below k.2⟩⟩

def cvE {P:Program} {w:World} {bs:List (Array Value × TypeId)} {f:Nat} {args:Array Value} {v:Value} (h:∀ W,Below w.heap.size w W→Calls P f args W fun e w'=>e=.returned v∧w'=W):Cv P (Bs w bs):=⟨f,args,v,0,fun W hS=>(h W hS.2).mono fun e w' k=>⟨k.1,by rw [k.2];exact hS⟩⟩

def ovL {P:Program} {S:World→Prop} {T:TypeId} {d:TypeDesc} (p:Addr) (v:Value) (hu:P.underlying T=some d) (hd:(match d with | .struct _ | .array _ _=>true | _=>false)=false) (h:∀ W,S W→W.cell? p=some v):Ov P S :=
 ⟨do pure (.value (← Instr.loadAt T (.pointer (some p)))),v,0,fun W hS=>by
  have hc:=h W hS
  cases d<;>simp_all [Instr.loadAt,Instr.sureAddr,loadVar,isAgg,underlying,program,load,Sem.run,Bind.bind,Sem.bind,Pure.pure]⟩

def ovX {P:Program} {S:World→Prop} {T E:TypeId} {a:Option Addr} {b o:Nat} (n c:Nat) (k:IntKind) (i:Int) (ha:a=some ⟨b,o,none⟩) (hi:0≤i∧i < n) (hu:P.underlying T=some (.slice E)) (hz:(P.info? E).map (·.size)=some 1):Ov P S :=
 ⟨do pure (.value (← Instr.indexAt T (.slice a n c) (.int k i))),.pointer (some ⟨b,o+i.toNat,none⟩),0,fun W hS=>by
  subst ha
  obtain ⟨info,h1,h2⟩:=Option.map_eq_some_iff.1 hz
  simp [Instr.indexAt,asIntOf,underlying,program,sizeOf,typeInfo,hu,h1,h2,hi,Addr.add,Sem.run,Bind.bind,Sem.bind,Pure.pure]⟩

def cvC {P:Program} {S:World→Prop} (hcl:∀ {W W'},S W→Below W.heap.size W W'→S W') {f:Nat} {args:Array Value} {v:Value} (h:∀ W,S W→Calls P f args W fun e w'=>e=.returned v∧Below W.heap.size W w'):Cv P S:=⟨f,args,v,0,fun W hS=>(h W hS).mono fun e w' k=>⟨k.1,hcl hS k.2⟩⟩

def cvS {P:Program} {S:World→Prop} {f:Nat} {args:Array Value} {v:Value} (h:∀ W,S W→Calls P f args W fun e w'=>e=.returned v∧w'=W):Cv P S:=⟨f,args,v,0,fun W hS=>(h W hS).mono fun e w' k=>⟨k.1,by rw [k.2];exact hS⟩⟩

def eqI (k:IntKind) {x y:Int} (h:x=y):Vq:=⟨.int k x,.int k y,0,by rw [h]⟩

def ovR {P:Program} {S:World→Prop} (k:IntKind) (x y:Int) (hy:y≠0):Ov P S:=⟨do pure (.value (← Op.intDiv .rem k x y)),.int k (x.tmod y),0,fun W _=>by
 simp [Op.intDiv,hy]⟩

def rowsIn (w:World):List Rw→Prop
 | []=>True
 | r :: R=>rowIn r w∧rowsIn w R

theorem rowsIn_mem {w:World} {r:Rw}:∀ {R:List Rw},rowsIn w R→r ∈ R→rowIn r w
 | [],_,h=>by cases h
 | _ :: R,h,hm=>by
   rcases List.mem_cons.1 hm with rfl | hm
   ·exact h.1
   ·exact rowsIn_mem h.2 hm

section
variable {P : Program} {S : World → Prop} {n : Nat} {fn : Func} {Rs : Ending → World → Prop} {k : List KI} {F : Fr} {w : World}

theorem eng_x {R:List Rw} (hR:rowsIn w R):Eng P (fun x=>x=w) (fun x=>x=w) R false (bodyPost P fn Rs):=⟨fun _ h=>h,fun W h r hr=>by subst h;exact rowsIn_mem hR hr,(fun h=>by cases h),pan_body⟩

theorem nxo_sw {F:Fr} {all:Array Oper} {m:Nat} {listed:Array Bool} {k:List KI} {x:Oper × List KI × Bool} (h:nxo F (.sw all m listed :: k)=some x):x.2.2=false:=by
 cases m with
 | zero=>cases h
 | succ m =>
   simp only [nxo] at h
   repeat (split at h<;>try cases h)
   all_goals rfl

theorem wx_call {R:List Rw} (hR:rowsIn w R) (H:Hn P (fun x=>x=w) (fun x=>x=w)) (m:Nat) {f:Nat} {args:Array Value} {Rc:Ending→World→Prop} (hc:Calls P f args w Rc)
 (hx:(noSq k,(adv P R H n false m k F).1.1,noSq (adv P R H n false m k F).1.2.1,nxC P n (adv P R H n false m k F).1.2.2 (adv P R H n false m k F).1.2.1)=(true,false,true,some (f,args)))
 (he:(adv P R H n false m k F).2.map Prod.fst=(adv P R H n false m k F).2.map Prod.snd)
 (h:∀ e w',Rc e w'→∃ v t,e=.returned v∧Wg P S (bodyPost P fn Rs) n (nxK (adv P R H n false m k F).1.2.2 (adv P R H n false m k F).1.2.1) (nxF (adv P R H n false m k F).1.2.2 (adv P R H n false m k F).1.2.1 v t) w'):Wg P S (bodyPost P fn Rs) n k F w:=by
 simp only [Prod.mk.injEq] at hx
 obtain ⟨h1,h2,h3,h4⟩:=hx
 refine wk_S (fun x=>x=w) h1 (wk_adv (eng_x hR) H m rfl h2 he fun w' hw=>?_)
 subst hw
 refine wk_S S h3 (wk_call hc h4 fun e w' hr=>?_)
 obtain ⟨v,t,h5,h6⟩:=h e w' hr
 refine ⟨v,t,h5,fun hb=>?_,h6⟩
 exact absurd hb (by
  have:∀ (k:List KI) (F:Fr),noSq k=true→nxB F k=false:=by
   intro k F hk
   unfold nxB nxo
   cases k with
   | nil=>rfl
   | cons x k=>cases x with
     | sq=>cases hk
     | sk=>cases hk
     | sw all m listed =>
       cases hx:nxo F (.sw all m listed :: k) with
       | none=>unfold nxo at hx;simp only [hx]
       | some x =>
         have hb:=nxo_sw hx
         unfold nxo at hx
         simp only [hx]
         exact hb
     | ops all l=>cases l with
       | nil=>rfl
       | cons o l=>cases hw:wn all F o with
         | none=>simp only [hw]
         | some b=>cases b<;>simp only [hw]
     | _=>rfl
  rw [this _ _ h3];decide)

theorem wx_op {R:List Rw} (hR:rowsIn w R) (H:Hn P (fun x=>x=w) (fun x=>x=w)) (m:Nat) {s:Sem Next} {v:Value} {w':World} (t:Nat) (hr:s.run P w=.ok (.value v) w')
 (hx:(noSq k,(adv P R H n false m k F).1.1,noSq (adv P R H n false m k F).1.2.1,nxB (adv P R H n false m k F).1.2.2 (adv P R H n false m k F).1.2.1,nxS n (adv P R H n false m k F).1.2.2 (adv P R H n false m k F).1.2.1)=(true,false,true,false,some s))
 (he:(adv P R H n false m k F).2.map Prod.fst=(adv P R H n false m k F).2.map Prod.snd)
 (h:Wg P S (bodyPost P fn Rs) n (nxK (adv P R H n false m k F).1.2.2 (adv P R H n false m k F).1.2.1) (nxF (adv P R H n false m k F).1.2.2 (adv P R H n false m k F).1.2.1 v t) w'):Wg P S (bodyPost P fn Rs) n k F w:=by
 simp only [Prod.mk.injEq] at hx
 obtain ⟨h1,h2,h3,h4,h5⟩:=hx
 refine wk_S (fun x=>x=w) h1 (wk_adv (eng_x hR) H m rfl h2 he fun w2 hw=>?_)
 subst hw
 exact wk_S S h3 (wk_op t h5 hr (fun hb=>by rw [h4] at hb;cases hb) h)

theorem wx_sk {R:List Rw} (hR:rowsIn w R) (H:Hn P (fun x=>x=w) (fun x=>x=w)) (m:Nat) {s:Sem Next} {w':World} (hr:s.run P w=.ok .skip w')
 (hx:(noSq k,(adv P R H n false m k F).1.1,noSq (adv P R H n false m k F).1.2.1,nxB (adv P R H n false m k F).1.2.2 (adv P R H n false m k F).1.2.1,nxS n (adv P R H n false m k F).1.2.2 (adv P R H n false m k F).1.2.1)=(true,false,true,false,some s))
 (he:(adv P R H n false m k F).2.map Prod.fst=(adv P R H n false m k F).2.map Prod.snd)
 (h:Wg P S (bodyPost P fn Rs) n (nxK (adv P R H n false m k F).1.2.2 (adv P R H n false m k F).1.2.1) (nxF (adv P R H n false m k F).1.2.2 (adv P R H n false m k F).1.2.1 undef 0) w'):Wg P S (bodyPost P fn Rs) n k F w:=by
 simp only [Prod.mk.injEq] at hx
 obtain ⟨h1,h2,h3,h4,h5⟩:=hx
 refine wk_S (fun x=>x=w) h1 (wk_adv (eng_x hR) H m rfl h2 he fun w2 hw=>?_)
 subst hw
 exact wk_S S h3 (wk_sk h5 hr (fun hb=>by rw [h4] at hb;cases hb) h)

theorem wx_ret {R:List Rw} (hR:rowsIn w R) (H:Hn P (fun x=>x=w) (fun x=>x=w)) (m:Nat)
 (hx:(noSq k,(adv P R H n false m k F).1.1)=(true,true)) (he:(adv P R H n false m k F).2.map Prod.fst=(adv P R H n false m k F).2.map Prod.snd)
 (h:∀ a,Knows (adv P R H n false m k F).1.2.2 n a→∃ v,(results fn a.tmps).run P w=.ok v w∧Rs (.returned v) w):Wg P S (bodyPost P fn Rs) n k F w:=by
 simp only [Prod.mk.injEq] at hx
 exact wk_S (fun x=>x=w) hx.1 (wk_ret (eng_x hR) H m rfl hx.2 he fun w' a hw hk=>by subst hw;exact h a hk)

theorem wx_end {R:List Rw} (hR:rowsIn w R) (H:Hn P (fun x=>x=w) (fun x=>x=w)) (m:Nat) {t:Nat} {v:Value}
 (hx:(noSq k,(adv P R H n false m k F).1.1,(lk (adv P R H n false m k F).1.2.2 t).map Prod.fst)=(true,true,some v)) (he:(adv P R H n false m k F).2.map Prod.fst=(adv P R H n false m k F).2.map Prod.snd) (hr:fn.results=#[.tmp t])
 (h:Rs (.returned v) w):Wg P S (bodyPost P fn Rs) n k F w:=by
 simp only [Prod.mk.injEq] at hx
 exact wx_ret hR H m (by rw [hx.1,hx.2.1]) he fun a hk=>⟨v,by rw [results_tmp hr,hk.slot hx.2.2],h⟩

end

theorem lk_mem {α:Type} {t:Nat} {x:α}:∀ {F:List (Nat × α)},lk F t=some x→(t,x) ∈ F
 | [],h=>by cases h
 | (s,y) :: F,h=>by
   unfold lk at h
   cases hb:Nat.beq s t with
   | true =>
     rw [hb] at h
     cases h
     have:s=t:=Nat.eq_of_beq_eq_true hb
     simp [this]
   | false=>rw [hb] at h;exact List.mem_cons_of_mem _ (lk_mem h)

theorem Knows.less {F G:Fr} {n:Nat} {a:Act} (h:Knows F n a) (hs:G.map (fun y=>some y.2.1)=G.map fun y=>(lk F y.1).map Prod.fst):Knows G n a :=
 ⟨h.size,h.nod,fun t x hx=>by
  have hm:=lk_mem hx
  have:=List.map_inj_left.1 hs (t,x) hm
  obtain ⟨y,h1,h2⟩:=Option.map_eq_some_iff.1 this.symm
  have:=h.at_ t y h1
  rw [this,h2]⟩

def isLp:List KI→Bool
 | .code (.loop _) :: _=>true
 | _=>false

def lpB:List KI→Go.Code
 | .code (.loop c) :: _=>c
 | _=>.skip

def finOf:List KI→Act→World→Prop
 | .fin R :: _=>R
 | _=>fun _ _=>False

section
variable {P : Program} {S : World → Prop} {n : Nat} {Q : Exit → Act → World → Prop} {k : List KI} {F : Fr} {w : World}

theorem wk_loop {α:Type} (F0:α→Fr) (I:Nat→α→World→Prop) (j0:Nat) (x0:α) (hl:isLp k=true) (hF:(F0 x0).map (fun y=>some y.2.1)=(F0 x0).map fun y=>(lk F y.1).map Prod.fst) (hI:I j0 x0 w)
 (round:∀ j x w,I j x w→∀ R:Act→World→Prop,(∀ a w' j' x',j' < j→Knows (F0 x') n a→I j' x' w'→R a w')→Wg P S Q n (.code (lpB k) :: .fin R :: k.tail) (F0 x) w):Wg P S Q n k F w:=fun a hk=>by
 match k,hl with
 | .code (.loop c) :: k',_ =>
   show (Go.Code.loop c).wp P (den P S Q k') a w
   refine wp_loop_ghost (fun j a w=>∃ x,Knows (F0 x) n a∧I j x w) j0 ⟨x0,hk.less hF,hI⟩ fun j a w hj=>?_
   obtain ⟨x,h1,h2⟩:=hj
   exact round j x w h2 (fun a' w'=>∃ j',j' < j∧∃ x,Knows (F0 x) n a'∧I j' x w') (fun a' w' j' x' g1 g2 g3=>⟨j',g1,x',g2,g3⟩) a h1

theorem wk_fin {R:List Rw} {dr:Bool} {J:World→Prop} (E:Eng P S J R dr Q) (H:Hn P S J) (m:Nat) (hS:J w) {T:Act→World→Prop} (hx:((adv P R H n dr m k F).1.1,finOf (adv P R H n dr m k F).1.2.1)=(false,T)) (he:(adv P R H n dr m k F).2.map Prod.fst=(adv P R H n dr m k F).2.map Prod.snd)
 (h:∀ a w',J w'→Knows (adv P R H n dr m k F).1.2.2 n a→T a w'):Wg P S Q n k F w:=by
 simp only [Prod.mk.injEq] at hx
 refine wk_adv E H m hS hx.1 he fun w' hw a hk=>?_
 have hT:=h a w' hw hk
 rw [← hx.2] at hT
 generalize (adv P R H n dr m k F).1.2.1=k' at hT
 cases k' with
 | nil=>cases hT
 | cons y k'=>cases y with
   | fin R'=>exact hT
   | _=>cases hT

end

section
variable {P : Program} {S : World → Prop} {n : Nat} {fn : Func} {Rs : Ending → World → Prop} {k : List KI} {F : Fr} {w : World}

theorem wx_fin {R:List Rw} (hR:rowsIn w R) (H:Hn P (fun x=>x=w) (fun x=>x=w)) (m:Nat) {T:Act→World→Prop} (hx:(noSq k,(adv P R H n false m k F).1.1,finOf (adv P R H n false m k F).1.2.1)=(true,false,T)) (he:(adv P R H n false m k F).2.map Prod.fst=(adv P R H n false m k F).2.map Prod.snd)
 (h:∀ a,Knows (adv P R H n false m k F).1.2.2 n a→T a w):Wg P S (bodyPost P fn Rs) n k F w:=by
 simp only [Prod.mk.injEq] at hx
 exact wk_S (fun x=>x=w) hx.1 (wk_fin (eng_x hR) H m rfl (by rw [hx.2.1,hx.2.2]) he fun a w' hw hk=>by subst hw;exact h a hk)

theorem wx_adv {R:List Rw} (hR:rowsIn w R) (H:Hn P (fun x=>x=w) (fun x=>x=w)) (m:Nat) (hx:(noSq k,(adv P R H n false m k F).1.1,noSq (adv P R H n false m k F).1.2.1)=(true,false,true)) (he:(adv P R H n false m k F).2.map Prod.fst=(adv P R H n false m k F).2.map Prod.snd)
 (h:Wg P S (bodyPost P fn Rs) n (adv P R H n false m k F).1.2.1 (adv P R H n false m k F).1.2.2 w):Wg P S (bodyPost P fn Rs) n k F w:=by
 simp only [Prod.mk.injEq] at hx
 exact wk_S (fun x=>x=w) hx.1 (wk_adv (eng_x hR) H m rfl hx.2.1 he fun w' hw=>by subst hw;exact wk_S S hx.2.2 h)

end

section
variable {P : Program} {S : World → Prop} {n : Nat} {fn : Func} {Rs : Ending → World → Prop} {k : List KI} {F : Fr} {w : World} {R : List Rw}

end

theorem run_stRow {P:Program} {w:World} {g:Nat} {t ty:TypeId} {old cells:Array Value} (hg:w.heap[g]?=some (.cells old t (0,0))) (hi:(P.info? ty).map (·.size)=some cells.size) (ho:old.size=cells.size) (h1:cells.all (·.oneCell')=true) :
 (do Instr.storeAt ty (.pointer (some ⟨g,0,none⟩)) (.agg cells);pure Next.skip:Sem Next).run P w=.ok .skip (w.setRow g cells):=by
 have:=run_storeVar_row (P:=P) w g t ty old cells hg hi ho h1
 simp [Instr.storeAt,Instr.sureAddr,this,Result.andThen]

theorem run_al {P:Program} {T:TypeId} {z:Value} (h:(P.info? T).bind (·.zero)=some z) (w:World):(do pure (.value (← Instr.alloc T true (.tuple #[]))):Sem Next).run P w=.ok (.value (.pointer (some ⟨w.heap.size,0,none⟩))) (w.alloc (.cells z.cells T)):=by
 obtain ⟨i,hi,hz⟩:=Option.bind_eq_some_iff.1 h
 simp [Instr.alloc,zeroValue,typeInfo,hi,hz,newVar,newRow]

theorem nob {x:Bool} {p:Prop} (h:x=false) (hb:x=true):p:=by rw [h] at hb;cases hb

def rowS (r:Rw) (w:World):Prop:=∃ t,w.heap[r.b]?=some (.cells r.cs t (0,0))

structure Ag (bs:List Nat) (w W:World):Prop where
 os:W.os=w.os
 tape:W.tape=w.tape
 output:W.output=w.output
 size:w.heap.size≤W.heap.size
 block:∀ k,k < w.heap.size→k ∉ bs→W.heap[k]?=w.heap[k]?

theorem Ag.refl (bs:List Nat) (w:World):Ag bs w w:=⟨rfl,rfl,rfl,Nat.le_refl _,fun _ _ _=>rfl⟩

theorem Ag.trans {bs:List Nat} {a b c:World} (h:Ag bs a b) (k:Ag bs b c):Ag bs a c:=⟨k.os.trans h.os,k.tape.trans h.tape,k.output.trans h.output,Nat.le_trans h.size k.size,fun i hl hi=>(k.block i (Nat.lt_of_lt_of_le hl h.size) hi).trans (h.block i hl hi)⟩

theorem Ag.below {bs:List Nat} {a b c:World} (h:Ag bs a b) (k:Below b.heap.size b c):Ag bs a c:=h.trans ⟨k.os,k.tape,k.output,k.size,fun i hl _=>k.block i hl⟩

theorem Ag.drew {bs:List Nat} {a b:World} (h:Ag bs a b):Ag bs a b.drew:=⟨h.os,h.tape,h.output,h.size,h.block⟩

theorem ag_set {bs:List Nat} {g:Nat} (hg:g ∈ bs) (w:World) (i:Nat) (v:Value):Ag bs w (w.setCell ⟨g,i,none⟩ v):=⟨rfl,rfl,rfl,by simp,fun k _ hk=>Below.heap_setCell w _ v k (fun e=>hk (by rw [e];exact hg))⟩

def wrun {α:Type} (P:Program):Sem α→Rw→Option (α × Rw × List (Addr × Addr))
 | .pure a,r=>some (a,r,[])
 | .load _ a k,r=>match r.cs[a.off]? with
   | none=>none
   | some v=>match wrun P (k v) r with
     | none=>none
     | some x=>some (x.1,x.2.1,(a,⟨r.b,a.off,none⟩) :: x.2.2)
 | .store _ a v k,r=>match v.oneCell' with
   | false=>none
   | true=>match r.cs[a.off]? with
     | none=>none
     | some _=>match wrun P k { r with cs:=r.cs.setIfInBounds a.off v } with
       | none=>none
       | some x=>some (x.1,x.2.1,(a,⟨r.b,a.off,none⟩) :: x.2.2)
 | .program k,r=>wrun P (k P) r
 | .mark _ k,r=>wrun P k r
 | _,_=>none

theorem wrun_ok {α:Type} {P:Program} {bs:List Nat}:∀ (s:Sem α) (r r':Rw) (x:α) (es:List (Addr × Addr)) (w:World),wrun P s r=some (x,r',es)→(∀ e ∈ es,e.1=e.2)→r.b ∈ bs→rowS r w→∃ w',s.run P w=.ok x w'∧rowS r' w'∧r'.b=r.b∧r'.tg=r.tg∧Ag [r.b] w w':=by
 intro s
 induction s with
 | pure a =>
   intro r r' x es w h _ _ hr
   simp only [wrun,Option.some.injEq,Prod.mk.injEq] at h
   obtain ⟨rfl,rfl,_⟩:=h
   exact ⟨w,rfl,hr,rfl,rfl,Ag.refl _ _⟩
 | load m a k ih =>
   intro r r' x es w h he hb hr
   unfold wrun at h
   cases hv:r.cs[a.off]? with
   | none=>rw [hv] at h;cases h
   | some v =>
     rw [hv] at h
     dsimp only at h
     cases hq:wrun P (k v) r with
     | none=>rw [hq] at h;cases h
     | some y =>
       rw [hq] at h
       simp only [Option.some.injEq,Prod.mk.injEq] at h
       obtain ⟨h1,h2,h3⟩:=h
       subst h3
       have ha:a=⟨r.b,a.off,none⟩:=he (a,⟨r.b,a.off,none⟩) (by simp)
       obtain ⟨t,hrow⟩:=hr
       have hc:w.cell? a=some v:=by
        rw [ha]
        simp only [World.cell?,hrow]
        simpa using hv
       simp only [Sem.run,hc]
       exact ih v r r' x y.2.2 w (by rw [hq,← h1,← h2]) (fun e h=>he e (by simp [h])) hb ⟨t,hrow⟩
 | store m a v k ih =>
   intro r r' x es w h he hb hr
   unfold wrun at h
   cases h1c:v.oneCell' with
   | false=>rw [h1c] at h;cases h
   | true =>
     rw [h1c] at h
     dsimp only at h
     cases hv:r.cs[a.off]? with
     | none=>rw [hv] at h;cases h
     | some u =>
       rw [hv] at h
       dsimp only at h
       cases hq:wrun P k { r with cs:=r.cs.setIfInBounds a.off v } with
       | none=>rw [hq] at h;cases h
       | some y =>
         rw [hq] at h
         simp only [Option.some.injEq,Prod.mk.injEq] at h
         obtain ⟨h1,h2,h3⟩:=h
         subst h3
         have ha:a=⟨r.b,a.off,none⟩:=he (a,⟨r.b,a.off,none⟩) (by simp)
         obtain ⟨t,hrow⟩:=hr
         have hc:w.cell? a=some u:=by
          rw [ha]
          simp only [World.cell?,hrow]
          simpa using hv
         have hf:w.frozen? a=false:=by
          rw [ha]
          simp [World.frozen?,hrow]
         have hrow':(w.setCell a v).heap[r.b]?=some (.cells (r.cs.setIfInBounds a.off v) t (0,0)):=by
          rw [ha]
          exact row_set hrow a.off v
         obtain ⟨w',g1,g2,g3,g4,g5⟩:=ih { r with cs:=r.cs.setIfInBounds a.off v } r' x y.2.2 (w.setCell a v) (by rw [hq,← h1,← h2]) (fun e h=>he e (by simp [h])) hb ⟨t,hrow'⟩
         refine ⟨w',?_,g2,g3,g4,?_⟩
         ·have hst:(Sem.store m a v k).run P w=k.run P (w.setCell a v):=by
           clear ha he ih g1 g2 g5 hrow' hq
           cases v<;>first | (simp only [Sem.run,hc,hf,Bool.false_eq_true,if_false];done) | (cases h1c;done)
          rw [hst]
          exact g1
         ·have h0:Ag [r.b] w (w.setCell a v):=by rw [ha];exact ag_set (by simp) w _ v
          exact h0.trans g5
 | program k ih=>intro r r' x es w h he hb hr;exact ih P r r' x es w h he hb hr
 | mark m k ih=>intro r r' x es w h he hb hr;exact ih r r' x es w h he hb hr
 | new=>intro r r' x es w h;cases h
 | shape=>intro r r' x es w h;cases h
 | freeze=>intro r r' x es w h;cases h
 | frozen=>intro r r' x es w h;cases h
 | getObj=>intro r r' x es w h;cases h
 | setObj=>intro r r' x es w h;cases h
 | choose=>intro r r' x es w h;cases h
 | sys=>intro r r' x es w h;cases h
 | halt=>intro r r' x es w h;cases h

structure Hw (P:Program) (T:World→Prop) where
 eq:List (Nat × Vq):=[]
 ov:List (Nat × Ov P T):=[]

def rowsS (R:List Rw) (w:World):Prop:=∀ r ∈ R,rowS r w

theorem rowS.in_ {r:Rw} {w:World} (h:rowS r w):rowIn r w:=let ⟨t,h⟩:=h;⟨t,_,h⟩

theorem lk_map {α β:Type} (f:α→β):∀ (l:List (Nat × α)) (d:Nat),lk (l.map fun x=>(x.1,f x.2)) d=(lk l d).map f
 | [],_=>rfl
 | (q,y) :: l,d=>by
   simp only [List.map_cons,lk]
   cases Nat.beq q d
   ·exact lk_map f l d
   ·rfl

theorem opv_at {P:Program} {T:World→Prop} {R:List Rw} {ov:List (Nat × Ov P T)} {eq:List (Nat × Vq)} {F:Fr} {n:Nat} {a:Act} {o:Oper} {v:Value} {t:Nat} {es:List (Oe × Oe)} (hk:Knows F n a) (h:opv P R ov eq F o=some (v,t,es)) (he:∀ e ∈ es,e.1=e.2) {w:World} (hT:T w) (hR:∀ r ∈ R,rowIn r w) :
 (execOp a.eval o).run P w=.ok (.value v) w:=by
 have h':opv P R (ov.map fun x=>(x.1,(⟨x.2.s,x.2.v,x.2.t,fun W hW=>by subst hW;exact x.2.h _ hT⟩:Ov P fun W=>W=w))) eq F o=some (v,t,es):=by
  rw [← h]
  unfold opv
  split
  ·rfl
  ·have hl:=fun d=>lk_map (fun y:Ov P T=>(⟨y.s,y.v,y.t,fun W hW=>by subst hW;exact y.h _ hT⟩:Ov P fun W=>W=w)) ov d
   cases hd:o.dst with
   | none=>rfl
   | some d =>
     simp only [Option.bind_some,hl]
     cases lk ov d<;>rfl
 exact (opv_ok hk h' he fun W hW=>by subst hW;exact hR).1 w rfl

def sqAll (P:Program) {T:World→Prop} (R:List Rw) (H:Hw P T) (n:Nat) (all:Array Oper):Nat→Array Bool→Fr→Option (Fr × List (Oe × Oe))
 | m,listed,F=>match Region.ready .any all listed with
   | []=>some (F,[])
   | i :: is=>match m with
     | 0=>none
     | m+1=>match pickQ all listed (i :: is) with
       | none=>none
       | some j=>match all[j]? with
         | none=>none
         | some o=>match (match wn all F o with | none=>none | some false=>some (undef,0,[]) | some true=>opv P R H.ov H.eq F o) with
           | none=>none
           | some (v,t,es)=>match putF n F v t o.dst with
             | none=>none
             | some F'=>match sqAll P R H n all m (listed.setIfInBounds j true) F' with
               | none=>none
               | some (F2,es2)=>some (F2,es ++ es2)

theorem sqAll_ok {P:Program} {T:World→Prop} {R:List Rw} {H:Hw P T} {n:Nat} {all:Array Oper} {Q:Exit→Act→World→Prop} {w:World} (hT:T w) (hR:rowsS R w) (hns:Region.noSelect all=true) (hQ:∀ c a d v w,Q (.panic c) (Act.put a d v) w→Q (.panic c) a w):∀ (m:Nat) (listed:Array Bool) (F F':Fr) (es:List (Oe × Oe)) (a:Act),sqAll P R H n all m listed F=some (F',es)→(∀ e ∈ es,e.1=e.2)→Knows F n a→(∀ a',Knows F' n a'→Q .normal a' w)→wpAnyH P .any all Q (fun W=>W=w) m listed a w:=by
 intro m
 induction m with
 | zero =>
   intro listed F F' es a h he hk hq
   unfold sqAll at h
   cases hr:Region.ready .any all listed with
   | nil=>rw [hr] at h;cases h;exact wpAnyH_done hr (hq a hk) 0
   | cons i is=>rw [hr] at h;cases h
 | succ m ih =>
   intro listed F F' es a h he hk hq
   unfold sqAll at h
   cases hr:Region.ready .any all listed with
   | nil=>rw [hr] at h;cases h;exact wpAnyH_done hr (hq a hk) _
   | cons i is =>
     rw [hr] at h
     dsimp only at h
     cases hp:pickQ all listed (i :: is) with
     | none=>rw [hp] at h;cases h
     | some j =>
       rw [hp] at h
       dsimp only at h
       cases hj:all[j]? with
       | none=>rw [hj] at h;cases h
       | some o =>
         rw [hj] at h
         dsimp only at h
         split at h
         ·cases h
         ·rename_i v t es1 hval
          cases hf:putF n F v t o.dst with
          | none=>rw [hf] at h;cases h
          | some F2 =>
            rw [hf] at h
            dsimp only at h
            cases hs:sqAll P R H n all m (listed.setIfInBounds j true) F2 with
            | none=>rw [hs] at h;cases h
            | some y =>
              obtain ⟨F3,es2⟩:=y
              rw [hs] at h
              simp only [Option.some.injEq,Prod.mk.injEq] at h
              obtain ⟨rfl,rfl⟩:=h
              have hpk:=pickQ_ok hp
              have hy:YieldsIf P all (fun W=>W=w) o v a:=by
               cases hw:wn all F o with
               | none=>rw [hw] at hval;cases hval
               | some b =>
                 rw [hw] at hval
                 cases b with
                 | false=>simp only [Option.some.injEq,Prod.mk.injEq] at hval;exact .inr ⟨wn_ok hk hw,hval.1.symm⟩
                 | true=>exact .inl ⟨wn_ok hk hw,fun W hW=>by subst hW;exact opv_at hk hval (fun e hm=>he e (by simp [hm])) hT fun r hr=>(hR r hr).in_⟩
              exact wpAnyH_take hj hns hpk.2 (by rw [hr];simpa using hpk.1) (fun c a w hh=>hQ c a _ _ w hh) hy rfl (ih _ _ _ _ _ hs (fun e hm=>he e (by simp [hm])) (putF_ok hf hk) hq)

inductive Sv where
 | go (k:List KI) (F:Fr) (R:List Rw) (es:List (Oe × Oe))
 | ret
 | stop

def stW (P:Program) (R:List Rw) (F:Fr) (o:Oper):Option (List Rw × List (Oe × Oe)):=match o.op with
 | .store _ x _=>match o.op.operands.all (kn F) with
   | false=>none
   | true=>match tgo F x with
     | 0=>none
     | j+1=>match R[j]? with
       | none=>none
       | some r=>match wrun P (execOp (ev F) o) r with
         | some (.skip,r',es)=>some (R.set j r',es.map fun e=>(.a e.1,.a e.2))
         | _=>none
 | _=>none

def stepW (P:Program) {T:World→Prop} (H:Hw P T) (n:Nat) (k:List KI) (F:Fr) (R:List Rw):Sv :=
 match k with
 | .ops _ [] :: k=>.go k F R []
 | .ops all (o :: rest) :: k=>match (match wn all F o with | none=>none | some false=>some (undef,0,[]) | some true=>opv P R H.ov H.eq F o) with
   | some (v,t,es)=>match putF n F v t o.dst with
     | some F'=>.go (.ops all rest :: k) F' R es
     | none=>.stop
   | none=>match wn all F o,o.dst with
     | some true,none=>match stW P R F o with
       | some (R',es)=>.go (.ops all rest :: k) F R' es
       | none=>.stop
     | _,_=>.stop
 | .blk _ :: k=>.go k F R []
 | .code (.region _ ops true) :: k=>match Region.noSelect ops&&P.follows .mixedOrders with
   | true=>match sqAll P R H n ops ops.size (Array.replicate ops.size false) F with
     | some (F',es)=>.go k F' R es
     | none=>.stop
   | false=>.stop
 | .code c :: k=>match stepCode P false k F c with
   | .go k' F' es=>.go k' F' R es
   | .ret=>.ret
   | .stop=>.stop
 | _=>.stop

theorem set_back {α:Type}:∀ {l:List α} {j:Nat} {x:α},l[j]?=some x→l.set j x=l
 | [],_,_,h=>by cases h
 | y :: l,0,x,h=>by simp at h;simp [h]
 | y :: l,j+1,x,h=>by simp only [List.set_cons_succ];rw [set_back (l:=l) (by simpa using h)]

structure Iv (bs:List Nat) (w:World) (R:List Rw) (W:World):Prop where
 rows:rowsS R W
 ag:Ag bs w W
 sub:∀ r ∈ R,r.b ∈ bs
 nd:(R.map Rw.b).Nodup

theorem Iv.below {bs:List Nat} {w W W':World} {R:List Rw} (h:Iv bs w R W) (k:Below W.heap.size W W'):Iv bs w R W' :=
 ⟨fun r hr=>let ⟨t,hrow⟩:=h.rows r hr;⟨t,(k.block r.b (Array.getElem?_eq_some_iff.1 hrow).1).trans hrow⟩,h.ag.below k,h.sub,h.nd⟩

theorem stW_ok {P:Program} {R R':List Rw} {F:Fr} {n:Nat} {a:Act} {o:Oper} {es:List (Oe × Oe)} {bs:List Nat} {w W:World} (hk:Knows F n a) (h:stW P R F o=some (R',es)) (he:∀ e ∈ es,e.1=e.2) (hI:Iv bs w R W):∃ W',(execOp a.eval o).run P W=.ok .skip W'∧Iv bs w R' W':=by
 unfold stW at h
 split at h
 ·rename_i t x y hop
  cases hc:o.op.operands.all (kn F) with
  | false=>rw [hc] at h;cases h
  | true =>
    rw [hc] at h
    dsimp only at h
    have hcg:execOp a.eval o=execOp (ev F) o:=execOp_congr o (fun cs b e=>by rw [hop] at e;cases e) fun x hx=>hk.eval (Array.all_eq_true_iff_forall_mem.1 hc x hx)
    rw [hcg]
    cases ht:tgo F x with
    | zero=>rw [ht] at h;cases h
    | succ j =>
      rw [ht] at h
      dsimp only at h
      cases hj:R[j]? with
      | none=>rw [hj] at h;cases h
      | some r =>
        rw [hj] at h
        dsimp only at h
        cases hw:wrun P (execOp (ev F) o) r with
        | none=>rw [hw] at h;cases h
        | some z =>
          obtain ⟨nx,r',es'⟩:=z
          rw [hw] at h
          cases nx with
          | skip =>
            simp only [Option.some.injEq,Prod.mk.injEq] at h
            obtain ⟨rfl,rfl⟩:=h
            have hm:=List.mem_of_getElem? hj
            obtain ⟨W',g1,g2,g3,g4,g5⟩:=wrun_ok (bs:=bs) _ r r' _ es' W hw (fun e hm=>by have:=he (.a e.1,.a e.2) (List.mem_map.2 ⟨e,hm,rfl⟩);simpa using this) (hI.sub r hm) (hI.rows r hm)
            have hjl:j < R.length:=(List.getElem?_eq_some_iff.1 hj).1
            have hmap:(R.set j r').map Rw.b=R.map Rw.b:=by
             rw [List.map_set,g3]
             have:(R.map Rw.b)[j]?=some r.b:=by simp [hj]
             exact set_back this
            refine ⟨W',g1,⟨fun q hq=>?_,hI.ag.trans ⟨g5.os,g5.tape,g5.output,g5.size,fun k hl hk=>g5.block k hl (by simp only [List.mem_singleton];exact fun e=>hk (by rw [e];exact hI.sub r hm))⟩,fun q hq=>?_,by rw [hmap];exact hI.nd⟩⟩
            ·obtain ⟨i,hi⟩:=List.mem_iff_getElem?.1 hq
             by_cases hij:i=j
             ·subst hij
              rw [List.getElem?_set_self hjl] at hi
              cases hi
              exact g2
             ·rw [List.getElem?_set_ne (Ne.symm hij)] at hi
              obtain ⟨t,hrow⟩:=hI.rows q (List.mem_of_getElem? hi)
              have hne:q.b≠r.b:=fun e=>hij (by
               have h1:(R.map Rw.b)[i]?=some q.b:=by simp [hi]
               have h2:(R.map Rw.b)[j]?=some r.b:=by simp [hj]
               rw [← e] at h2
               exact (List.getElem?_inj (by simpa using (List.getElem?_eq_some_iff.1 hi).1) hI.nd).1 (h1.trans h2.symm))
              exact ⟨t,(g5.block q.b (Array.getElem?_eq_some_iff.1 hrow).1 (by simpa using hne)).trans hrow⟩
            ·have:q.b ∈ (R.set j r').map Rw.b:=List.mem_map.2 ⟨q,hq,rfl⟩
             rw [hmap] at this
             obtain ⟨q',h1,h2⟩:=List.mem_map.1 this
             rw [← h2]
             exact hI.sub q' h1
          | _=>cases h
 ·cases h

section
variable {P : Program} {T : World → Prop} {H : Hw P T} {n : Nat} {bs : List Nat} {w : World} {Q : Exit → Act → World → Prop}

theorem stepW_ok (hT:∀ W,Ag bs w W→T W) (hQ:∀ c a d v w,Q (.panic c) (Act.put a d v) w→Q (.panic c) a w) {k k':List KI} {F F':Fr} {R R':List Rw} {es:List (Oe × Oe)} (h:stepW P H n k F R=.go k' F' R' es) (he:∀ e ∈ es,e.1=e.2) (hnext:∀ a W,Knows F' n a→Iv bs w R' W→den P (fun _=>True) Q k' .normal a W) (a:Act) (W:World) (hk:Knows F n a) (hI:Iv bs w R W):den P (fun _=>True) Q k .normal a W:=by
 unfold stepW at h
 split at h
 ·cases h;exact hnext a W hk hI
 ·rename_i all o rest k2
  show wpList P all _ (o :: rest) a W
  split at h
  ·rename_i v t es1 hval
   split at h
   ·rename_i F2 hp
    simp only [Sv.go.injEq] at h
    obtain ⟨rfl,rfl,rfl,rfl⟩:=h
    refine wpList_step fun K hK=>?_
    cases hw:wn all F o with
    | none=>rw [hw] at hval;cases hval
    | some b =>
      rw [hw] at hval
      cases b with
      | false =>
        simp only [Option.some.injEq,Prod.mk.injEq] at hval
        obtain ⟨rfl,rfl,rfl⟩:=hval
        rw [wn_ok hk hw,if_neg (by decide)]
        exact hK _ _ (hnext _ _ (putF_ok hp hk) hI)
      | true =>
        rw [if_pos (wn_ok hk hw)]
        show o.upon P a K _ _
        rw [opv_at hk hval he (hT W hI.ag) fun r hr=>(hI.rows r hr).in_]
        exact hK _ _ (hnext _ _ (putF_ok hp hk) hI)
   ·cases h
  ·split at h
   ·rename_i hw hd
    split at h
    ·rename_i R2 es1 hst
     simp only [Sv.go.injEq] at h
     obtain ⟨rfl,rfl,rfl,rfl⟩:=h
     obtain ⟨W',g1,g2⟩:=stW_ok hk hst he hI
     refine wpList_step fun K hK=>?_
     rw [if_pos (wn_ok hk hw)]
     show o.upon P a K _ _
     rw [g1]
     show K (a.put o.dst undef) W'
     rw [hd]
     exact hK _ _ (hnext _ _ hk g2)
    ·cases h
   ·cases h
 ·cases h;exact hnext a W hk hI
 ·rename_i ops k2
  split at h
  ·rename_i hb
   rw [Bool.and_eq_true] at hb
   split at h
   ·rename_i F2 es1 hs
    simp only [Sv.go.injEq] at h
    obtain ⟨rfl,rfl,rfl,rfl⟩:=h
    have hI':Iv bs w R W.drew:=⟨fun r hr=>hI.rows r hr,hI.ag.drew,hI.sub,hI.nd⟩
    refine wp_region_held (S:=fun V=>V=W.drew) hb.2 ?_
    exact sqAll_ok (hT _ hI'.ag) hI'.rows hb.1 (fun c a d v w hh=>by rw [den_panic] at hh ⊢;exact hQ c a d v w hh) _ _ _ _ _ a hs he hk fun a' hk'=>hnext a' _ hk' hI'
   ·cases h
  ·cases h
 ·rename_i c k2 _
  split at h
  ·rename_i k3 F3 es3 hs
   simp only [Sv.go.injEq] at h
   obtain ⟨rfl,rfl,rfl,rfl⟩:=h
   exact stepCode_ok (J:=fun V=>Iv bs w R V) (R:=[]) ⟨fun _ _=>trivial,fun _ _ r hr=>(nomatch hr),(fun hh=>by cases hh),hQ⟩ hs hnext a W hk hI
  ·cases h
  ·cases h
 ·cases h

def advW (P:Program) {T:World→Prop} (H:Hw P T) (n:Nat):Nat→List KI→Fr→List Rw→(Bool × List KI × Fr × List Rw) × List (Oe × Oe)
 | 0,k,F,R=>((false,k,F,R),[])
 | m+1,k,F,R=>match stepW P H n k F R with
   | .stop=>((false,k,F,R),[])
   | .ret=>((true,k,F,R),[])
   | .go k' F' R' es=>match advW P H n m k' F' R' with
     | (r,es')=>(r,es ++ es')

theorem advW_ok (hT:∀ W,Ag bs w W→T W) (hQ:∀ c a d v w,Q (.panic c) (Act.put a d v) w→Q (.panic c) a w):∀ (m:Nat) (k:List KI) (F:Fr) (R:List Rw),(∀ e ∈ (advW P H n m k F R).2,e.1=e.2) →
 (∀ a W,Knows (advW P H n m k F R).1.2.2.1 n a→Iv bs w (advW P H n m k F R).1.2.2.2 W→if (advW P H n m k F R).1.1=true then Q .ret a W else den P (fun _=>True) Q (advW P H n m k F R).1.2.1 .normal a W)→∀ a W,Knows F n a→Iv bs w R W→den P (fun _=>True) Q k .normal a W
 | 0,k,F,R,_,hf,a,W,hk,hI=>by simpa [advW] using hf a W hk hI
 | m+1,k,F,R,he,hf,a,W,hk,hI=>by
   cases hs:stepW P H n k F R with
   | stop =>
     have e:advW P H n (m+1) k F R=((false,k,F,R),[]):=by simp only [advW,hs]
     rw [e] at hf
     simpa using hf a W hk hI
   | ret =>
     have e:advW P H n (m+1) k F R=((true,k,F,R),[]):=by simp only [advW,hs]
     rw [e] at hf
     have hq:Q .ret a W:=by simpa using hf a W hk hI
     unfold stepW at hs
     split at hs
     ·cases hs
     ·repeat (split at hs<;>try cases hs)
     ·cases hs
     ·repeat (split at hs<;>try cases hs)
     ·rename_i c k2 hn
      split at hs
      ·cases hs
      ·rename_i hc
       cases c with
       | ret=>exact wp_ret (by rw [den_ret];exact hq)
       | region i ops b=>cases b<;>simp only [stepCode] at hc<;>(try split at hc)<;>cases hc
       | cond=>simp only [stepCode] at hc;repeat (split at hc<;>try cases hc)
       | exit=>simp only [stepCode] at hc;split at hc<;>cases hc
       | _=>cases hc
      ·cases hs
     ·cases hs
   | go k' F' R' es =>
     have e:advW P H n (m+1) k F R=((advW P H n m k' F' R').1,es ++ (advW P H n m k' F' R').2):=by simp only [advW,hs]
     rw [e] at he hf
     exact stepW_ok hT hQ hs (fun x hx=>he x (by simp [hx])) (advW_ok hT hQ m k' F' R' (fun x hx=>he x (by simp [hx])) hf) a W hk hI

end

section
variable {P : Program} {n : Nat} {bs : List Nat} {w : World} {fn : Func} {Rs : Ending → World → Prop} {k : List KI} {F : Fr} {R : List Rw}

theorem ww_adv (hI:Iv bs w R w) (H:Hw P (Ag bs w)) (m:Nat) {R1:List Rw} (hx:((advW P H n m k F R).1.1,(advW P H n m k F R).1.2.2.2)=(false,R1)) (he:(advW P H n m k F R).2.map Prod.fst=(advW P H n m k F R).2.map Prod.snd)
 (h:∀ W,Iv bs w R1 W→Wg P (fun _=>True) (bodyPost P fn Rs) n (advW P H n m k F R).1.2.1 (advW P H n m k F R).1.2.2.1 W):Wg P (fun _=>True) (bodyPost P fn Rs) n k F w:=fun a hk=>by
 simp only [Prod.mk.injEq] at hx
 refine advW_ok (fun _ h=>h) pan_body m k F R (fun e hm=>List.map_inj_left.1 he e hm) (fun a W h1 h2=>?_) a w hk hI
 rw [hx.2] at h2
 rw [hx.1,if_neg (by decide)]
 exact h W h2 a h1

theorem ww_call (hI:Iv bs w R w) (H:Hw P (Ag bs w)) (m:Nat) {R1:List Rw} {f:Nat} {args:Array Value} {Rc:World→Ending→World→Prop} (hc:∀ W,Iv bs w R1 W→Calls P f args W (Rc W)) (hx:((advW P H n m k F R).1.1,(advW P H n m k F R).1.2.2.2,nxC P n (advW P H n m k F R).1.2.2.1 (advW P H n m k F R).1.2.1)=(false,R1,some (f,args))) (he:(advW P H n m k F R).2.map Prod.fst=(advW P H n m k F R).2.map Prod.snd)
 (h:∀ W e w',Iv bs w R1 W→Rc W e w'→∃ v t,e=.returned v∧Wg P (fun _=>True) (bodyPost P fn Rs) n (nxK (advW P H n m k F R).1.2.2.1 (advW P H n m k F R).1.2.1) (nxF (advW P H n m k F R).1.2.2.1 (advW P H n m k F R).1.2.1 v t) w'):Wg P (fun _=>True) (bodyPost P fn Rs) n k F w:=by
 simp only [Prod.mk.injEq] at hx
 refine ww_adv hI H m (by rw [hx.1,hx.2.1]) he fun W hW=>wk_call (hc W hW) hx.2.2 fun e w' hr=>?_
 obtain ⟨v,t,h1,h2⟩:=h W e w' hW hr
 exact ⟨v,t,h1,fun _=>trivial,h2⟩

theorem ww_ret (hI:Iv bs w R w) (H:Hw P (Ag bs w)) (m:Nat) {R1:List Rw} (hx:((advW P H n m k F R).1.1,(advW P H n m k F R).1.2.2.2)=(true,R1)) (he:(advW P H n m k F R).2.map Prod.fst=(advW P H n m k F R).2.map Prod.snd)
 (h:∀ W a,Iv bs w R1 W→Knows (advW P H n m k F R).1.2.2.1 n a→∃ v,(results fn a.tmps).run P W=.ok v W∧Rs (.returned v) W):Wg P (fun _=>True) (bodyPost P fn Rs) n k F w:=fun a hk=>by
 simp only [Prod.mk.injEq] at hx
 refine advW_ok (fun _ h=>h) pan_body m k F R (fun e hm=>List.map_inj_left.1 he e hm) (fun a W h1 h2=>?_) a w hk hI
 rw [hx.2] at h2
 rw [hx.1,if_pos rfl]
 obtain ⟨v,g1,g2⟩:=h W a h2 h1
 exact bodyPost_ret g1 h1.nod g2

end

def tagF (s j:Nat):Fr→Fr
 | []=>[]
 | x :: F=>(match Nat.beq x.1 s with | true=>(x.1,x.2.1,j) | false=>x) :: tagF s j F

theorem lk_tagF (s j t:Nat):∀ (F:Fr) (x:Value × Nat),lk (tagF s j F) t=some x→∃ y,lk F t=some y∧y.1=x.1
 | [],_,h=>by cases h
 | (d,v,g) :: F,x,h=>by
   unfold tagF at h
   cases hs:Nat.beq d s with
   | true =>
     simp only [hs,lk] at h ⊢
     cases ht:Nat.beq d t with
     | true=>rw [ht] at h;cases h;exact ⟨_,rfl,rfl⟩
     | false=>rw [ht] at h;exact lk_tagF s j t F x h
   | false =>
     simp only [hs,lk] at h ⊢
     cases ht:Nat.beq d t with
     | true=>rw [ht] at h;cases h;exact ⟨_,rfl,rfl⟩
     | false=>rw [ht] at h;exact lk_tagF s j t F x h

theorem Knows.tag {F:Fr} {n:Nat} {a:Act} (h:Knows F n a) (s j:Nat):Knows (tagF s j F) n a:=⟨h.size,h.nod,fun t x hx=>by
 obtain ⟨y,h1,h2⟩:=lk_tagF s j t F x hx
 rw [← h2]
 exact h.at_ t y h1⟩

theorem wk_tag {P:Program} {S:World→Prop} {Q:Exit→Act→World→Prop} {n:Nat} {k:List KI} {F:Fr} {w:World} (s j:Nat) (h:Wg P S Q n k (tagF s j F) w):Wg P S Q n k F w:=fun a hk=>h a (hk.tag s j)

end Go.Proofs.YtbajeckeeekhnaaGreat
