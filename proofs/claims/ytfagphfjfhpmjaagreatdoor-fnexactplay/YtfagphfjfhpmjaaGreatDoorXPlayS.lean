/- At every machine and list of events Play answers as its model: every field and what it counts; it writes into no argument; its answer owns its memory. -/
import Derived.Test.YtfagphfjfhpmjaaGreatDoorJ22
import Derived.Test.YtfagphfjfhpmjaaGreatDoorLawExactPlayS
import Derived.Test.YtfagphfjfhpmjaaGreatDoorCards
import Derived.Test.YtfagphfjfhpmjaaGreatDoorTie
import Derived.WalkKit
import Derived.ProofKit
import Derived.OpenShut
import Derived.ShutString
import Derived.ChangeOld
import Derived.Below
import Derived.Deep.DeepHandedRow
import Derived.Lib.LaidTab
set_option maxRecDepth 100000
set_option maxHeartbeats 40000000
namespace Go.Proofs.YtfagphfjfhpmjaaGreatDoor.fnExactPlay
open Go.ChangeShapes Go.WideShapes Go.ChangeAt Go.RowKit
open Go.ChangeMaps (open_string shut_string)
set_option linter.unusedVariables false
theorem own:ownKnob Tryz.prog.godebug=none:=by kernel_rfl
theorem laidOut:laidOutB Tryz.prog=true:=by kernel_rfl
theorem openS {k:IntKind} {H:Type} {enc:TypeId × Value→H} {P:Program} {w:World} {held:Bool} {t e:TypeId} {fuel:Nat} {l:List Value} {x:DataW H × List MemPlace} (ht:P.underlying t=some (.slice e)) (he:P.underlying e=some (.int k)) (hc:P.cellsOf e=1) (h:DataW.trod enc P w 0 (fun _=>true) held fuel t l=some x):∃ a n c zs,l=[.slice a n c]∧Ak k w a n c zs:=by
 rcases open_ints ht he hc h with ⟨hcs,_⟩ | ⟨x,n,c,zs,hcs,_,hl,hm,hz,_,hcell,hwz⟩
 ·exact ⟨none,0,0,[],hcs,.inl ⟨rfl,rfl,rfl,rfl⟩⟩
 ·exact ⟨_,n,c,zs,hcs,.inr ⟨_,rfl,hl,hm,by simpa using hz,hcell,hwz⟩⟩
theorem open6 {H:Type} {enc:TypeId × Value→H} {P:Program} {w:World} {held:Bool} {t u b s e i:TypeId} {f0 f1 f2 f3 f4 f5:Field} {fuel:Nat} {l:List Value} {x:DataW H × List MemPlace} (ht:P.underlying t=some (.struct #[f0,f1,f2,f3,f4,f5])) (hu:P.underlying u=some (.int .u64)) (hb:P.underlying b=some .bool) (hs:P.underlying s=some (.slice e)) (he:P.underlying e=some (.int .u8)) (hi:P.underlying i=some (.int .i64))
 (cu:P.cellsOf u=1) (cb:P.cellsOf b=1) (cs:P.cellsOf s=1) (ce:P.cellsOf e=1) (ci:P.cellsOf i=1) (t0:f0.type=u) (t1:f1.type=u) (t2:f2.type=b) (t3:f3.type=s) (t4:f4.type=s) (t5:f5.type=i) (o0:f0.offset=0) (o1:f1.offset=1) (o2:f2.offset=2) (o3:f3.offset=3) (o4:f4.offset=4) (o5:f5.offset=5) (hl:l.length=6)
 (h:DataW.trod enc P w 0 (fun _=>true) held fuel t l=some x):∃ (a c:Int) (d:Bool) (a1:Option Addr) (n1 c1:Nat) (z1:List Int) (a2:Option Addr) (n2 c2:Nat) (z2:List Int) (k:Int),l=[.int .u64 a,.int .u64 c,.bool d,.slice a1 n1 c1,.slice a2 n2 c2,.int .i64 k]∧Ak .u8 w a1 n1 c1 z1∧Ak .u8 w a2 n2 c2 z2∧(Lit.int .u64 a).wf=true∧(Lit.int .u64 c).wf=true∧(Lit.int .i64 k).wf=true:=by
 obtain ⟨xs,m,_,rfl,_,hlen,hf⟩:=DataW.trod_struct ht h
 match xs,hlen with
 | [y0,y1,y2,y3,y4,y5],_ =>
   have g0:=hf 0 f0 rfl
   have g1:=hf 1 f1 rfl
   have g2:=hf 2 f2 rfl
   have g3:=hf 3 f3 rfl
   have g4:=hf 4 f4 rfl
   have g5:=hf 5 f5 rfl
   rw [t0,o0,cu] at g0
   rw [t1,o1,cu] at g1
   rw [t2,o2,cb] at g2
   rw [t3,o3,cs] at g3
   rw [t4,o4,cs] at g4
   rw [t5,o5,ci] at g5
   obtain ⟨a,e0,_,k0⟩:=DataW.trod_int hu g0
   obtain ⟨c,e1,_,k1⟩:=DataW.trod_int hu g1
   obtain ⟨d,e2,_⟩:=DataW.trod_bool hb g2
   obtain ⟨a1,n1,c1,z1,e3,r1⟩:=openS hs he ce g3
   obtain ⟨a2,n2,c2,z2,e4,r2⟩:=openS hs he ce g4
   obtain ⟨k,e5,_,k5⟩:=DataW.trod_int hi g5
   match l,hl with
   | [l0,l1,l2,l3,l4,l5],_ =>
     simp at e0 e1 e2 e3 e4 e5
     exact ⟨a,c,d,a1,n1,c1,z1,a2,n2,c2,z2,k,by rw [e0,e1,e2,e3,e4,e5],r1,r2,k0,k1,k5⟩
theorem open9 {H:Type} {enc:TypeId × Value→H} {P:Program} {w:World} {held:Bool} {t u b s e i v dv:TypeId} {f0 f1 f2 f3 f4 f5 f6 f7 f8 d0 d1 d2 d3 d4 d5:Field} {fuel:Nat} {l:List Value} {x:DataW H × List MemPlace} (ht:P.underlying t=some (.struct #[f0,f1,f2,f3,f4,f5,f6,f7,f8])) (hu:P.underlying u=some (.int .u64)) (hb:P.underlying b=some .bool) (hs:P.underlying s=some (.slice e)) (he:P.underlying e=some (.int .u8)) (hi:P.underlying i=some (.int .i64)) (hv:P.underlying v=some (.slice u)) (hdv:P.underlying dv=some (.struct #[d0,d1,d2,d3,d4,d5]))
 (cu:P.cellsOf u=1) (cb:P.cellsOf b=1) (cs:P.cellsOf s=1) (ce:P.cellsOf e=1) (ci:P.cellsOf i=1) (cv:P.cellsOf v=1) (cdv:P.cellsOf dv=6)
 (t0:f0.type=u) (t1:f1.type=v) (t2:f2.type=i) (t3:f3.type=v) (t4:f4.type=s) (t5:f5.type=dv) (t6:f6.type=u) (t7:f7.type=b) (t8:f8.type=b) (o0:f0.offset=0) (o1:f1.offset=1) (o2:f2.offset=2) (o3:f3.offset=3) (o4:f4.offset=4) (o5:f5.offset=5) (o6:f6.offset=11) (o7:f7.offset=12) (o8:f8.offset=13)
 (dt0:d0.type=u) (dt1:d1.type=u) (dt2:d2.type=b) (dt3:d3.type=s) (dt4:d4.type=s) (dt5:d5.type=i) (do0:d0.offset=0) (do1:d1.offset=1) (do2:d2.offset=2) (do3:d3.offset=3) (do4:d4.offset=4) (do5:d5.offset=5) (hl:l.length=14)
 (h:DataW.trod enc P w 0 (fun _=>true) held fuel t l=some x):∃ (M:MV) (A:MA),l=[.int .u64 M.pc,.slice A.ax M.x.length A.cx,.int .i64 M.pr,.slice A.ac M.cs.length A.cc,.slice A.ar M.ram.length A.cr,.int .u64 M.d.t,.int .u64 M.d.cm,.bool M.d.so,.slice A.ai M.d.xs.length A.ci,.slice A.ao M.d.ys.length A.co,.int .i64 M.d.ir,.int .u64 M.hd,.bool M.hl,.bool M.wt]∧Rb w M A:=by
 obtain ⟨xs,m,_,rfl,_,hlen,hf⟩:=DataW.trod_struct ht h
 match xs,hlen with
 | [y0,y1,y2,y3,y4,y5,y6,y7,y8],_ =>
   have g0:=hf 0 f0 rfl
   have g1:=hf 1 f1 rfl
   have g2:=hf 2 f2 rfl
   have g3:=hf 3 f3 rfl
   have g4:=hf 4 f4 rfl
   have g5:=hf 5 f5 rfl
   have g6:=hf 6 f6 rfl
   have g7:=hf 7 f7 rfl
   have g8:=hf 8 f8 rfl
   rw [t0,o0,cu] at g0
   rw [t1,o1,cv] at g1
   rw [t2,o2,ci] at g2
   rw [t3,o3,cv] at g3
   rw [t4,o4,cs] at g4
   rw [t5,o5,cdv] at g5
   rw [t6,o6,cu] at g6
   rw [t7,o7,cb] at g7
   rw [t8,o8,cb] at g8
   obtain ⟨pc,e0,_,k0⟩:=DataW.trod_int hu g0
   obtain ⟨ax,nx,cx,zx,e1,rx⟩:=openS hv hu cu g1
   obtain ⟨pr,e2,_,k2⟩:=DataW.trod_int hi g2
   obtain ⟨ac,nc,cc,zc,e3,rc⟩:=openS hv hu cu g3
   obtain ⟨ar,nr,cr,zr,e4,rr⟩:=openS hs he ce g4
   obtain ⟨ct,ccm,cso,ai,ni,ci2,zi,ao,no,co,zo,cir,e5,ri,ro,q0,q1,q5⟩:=open6 hdv hu hb hs he hi cu cb cs ce ci dt0 dt1 dt2 dt3 dt4 dt5 do0 do1 do2 do3 do4 do5 (by simp [hl]) g5
   obtain ⟨hd,e6,_,k6⟩:=DataW.trod_int hu g6
   obtain ⟨hl2,e7,_⟩:=DataW.trod_bool hb g7
   obtain ⟨wt,e8,_⟩:=DataW.trod_bool hb g8
   obtain ⟨lx,hx1,hx2,hx3,hx4⟩:=rx.sl
   obtain ⟨lc,hc1,hc2,hc3,hc4⟩:=rc.sl
   obtain ⟨lr,hr1,hr2,hr3,hr4⟩:=rr.sl
   obtain ⟨li,hi1,hi2,hi3,hi4⟩:=ri.sl
   obtain ⟨lo,ho1,ho2,ho3,ho4⟩:=ro.sl
   unfold maxLen at hx4 hc4 hr4 hi4 ho4
   match l,hl with
   | [l0,l1,l2,l3,l4,l5,l6,l7,l8,l9,l10,l11,l12,l13],_ =>
     simp at e0 e1 e2 e3 e4 e5 e6 e7 e8
     obtain ⟨j0,j1,j2,j3,j4,j5⟩:=e5
     refine ⟨⟨pc,lx,pr,lc,lr,⟨ct,ccm,cso,li,lo,cir⟩,hd,hl2,wt⟩,⟨ax,cx,ac,cc,ar,cr,ai,ci2,ao,co⟩,?_,⟨⟨hx2,hc2,hr2,hi2,ho2⟩,hx3,hc3,hr3,hi3,ho3,by dsimp only;omega,by dsimp only;omega,by dsimp only;omega,by dsimp only;omega,by dsimp only;omega,k0,k2,q0,q1,q5,k6⟩⟩
     dsimp only
     rw [hx1,hc1,hr1,hi1,ho1,e0,e1,e2,e3,e4,j0,j1,j2,j3,j4,j5,e6,e7,e8]
theorem cellsM:Tryz.prog.cellsOf 28=14:=by kernel_rfl
theorem cellsD:Tryz.prog.cellsOf 26=6:=by kernel_rfl
theorem cellsU:Tryz.prog.cellsOf 22=1:=by kernel_rfl
theorem cellsB:Tryz.prog.cellsOf 4=1:=by kernel_rfl
theorem cellsS:Tryz.prog.cellsOf 24=1:=by kernel_rfl
theorem cellsE:Tryz.prog.cellsOf 5=1:=by kernel_rfl
theorem ix:Tryz.prog.cellsOf 2=1:=by kernel_rfl
theorem cellsV:Tryz.prog.cellsOf 23=1:=by kernel_rfl
theorem cellsEv:Tryz.prog.cellsOf 113=2:=by kernel_rfl
theorem gTab:Tryz.prog.globalNamed "math/bits.deBruijn64tab" = some 0:=by kernel_rfl
theorem gTabType:(Tryz.prog.globals[0]?).map (·.type)=some 314:=by kernel_rfl
theorem cellsT:Tryz.prog.cellsOf 314=64:=by kernel_rfl
def tabZ:List Int:=[0,1,56,2,57,49,28,3,61,58,42,50,38,29,17,4,62,47,59,36,45,43,51,22,53,39,33,30,24,18,12,5,63,55,48,27,60,41,37,16,46,35,44,21,52,32,23,11,54,26,40,15,34,20,31,10,25,14,19,9,13,8,7,6]
theorem tabZ_eq:∀ j,j < 64→tabZ.getD j 0=((Lib.deBruijn64tab.getD j 0:Nat):Int):=by decide +kernel
theorem table {W:World} (h:laidMetH Tryz.prog Rows.fnExactPlayRow.laid W):Lib.TabIs Tryz.prog W "math/bits.deBruijn64tab" .u8 tabZ :=
 Lib.tabIs_of_head (rest:=[]) gTab gTabType Tryz.underlying314 Tryz.underlying5 cellsE cellsT h
theorem tab {W:World} (h:laidMetH Tryz.prog Rows.fnExactPlayRow.laid W):ou W:=fun j hj=>by
 rw [← tabZ_eq j hj]
 exact (table h).cell gTab j hj
theorem contract (H:Type) (enc:TypeId × Value→H) (W:World) (base:Nat) (args:Array Value) (ds gs:List (DataW H)) (before:List MemPlace)
 (hval0:∀ (j:Nat) t v,Tryz.f9.params[j]?=some t→args[j]?=some v→Value.okWide Tryz.prog W .any base t v)
 (hW:DataW.Whole enc Tryz.prog Tryz.f9.params.toList Rows.fnExactPlaySpec.vars false W args.toList ds gs before) (hL:laidMetH Tryz.prog Rows.fnExactPlayRow.laid W) :
 Calls Tryz.prog 9 args W fun e W'=>∃ v,e=.returned v∧Rows.fnExactPlaySpec.post enc Tryz.prog Tryz.f9 false true false false W args v W':=by
 have hval:∀ (j:Nat) t v,Tryz.f9.params[j]?=some t→args[j]?=some v→Value.okWide Tryz.prog W .any base t v:=hval0
 have hW':=hW
 obtain ⟨p,q,hA0,hV,rfl,hfz,hnd⟩:=hW
 have hA:DataW.TrodAll enc Tryz.prog W 0 (fun _=>true) true Tryz.f9.params.toList args.toList ds p:=hA0
 rw [Tryz.params9] at hA hval
 obtain ⟨v0,vs0,d0,ds0,p0,q0,hargs,rfl,rfl,h0,r0⟩:=trodAll_cons hA
 obtain ⟨v1,vs1,d1,ds1,p1,q1,rfl,rfl,rfl,h1,r1⟩:=trodAll_cons r0
 obtain ⟨rfl,rfl,rfl⟩:=trodAll_nil r1
 obtain rfl:args=#[v0,v1]:=by cases args;simp_all
 obtain ⟨rfl,rfl⟩:=trodVars_none hV
 obtain ⟨cs,rfl,hsz⟩:=okWide_struct Tryz.underlying28 (hval 0 28 v0 rfl rfl)
 rw [cellsM] at hsz
 have k0:=h0
 have lt0:∀ x ∈ p0,x.block < W.heap.size:=by obtain ⟨m,hm⟩:=k0;exact DataW.trod_lt m _ _ _ hm
 obtain ⟨l⟩:=cs
 obtain ⟨fuel,hf⟩:=h0
 obtain ⟨M,A,hl,hin⟩:=open9 Tryz.underlying28 Tryz.underlying22 Tryz.underlying4 Tryz.underlying24 Tryz.underlying5 Tryz.underlying2 Tryz.underlying23 Tryz.underlying26 cellsU cellsB cellsS cellsE ix cellsV cellsD rfl rfl rfl rfl rfl rfl rfl rfl rfl rfl rfl rfl rfl rfl rfl rfl rfl rfl rfl rfl rfl rfl rfl rfl rfl rfl rfl rfl rfl rfl hsz hf
 subst hl
 obtain ⟨a1,n1,c1,rfl⟩:=okWide_slice Tryz.underlying58 (hval 1 58 v1 rfl rfl)
 have k1:=h1
 have lt1:∀ x ∈ p1,x.block < W.heap.size:=by obtain ⟨m,hm⟩:=k1;exact DataW.trod_lt m _ _ _ hm
 obtain ⟨fuel1,hf1⟩:=h1
 obtain ⟨l1,hev⟩:=Se (a:=a1) (n:=n1) (c:=c1) Tryz.underlying58 Tryz.underlying113 Tryz.underlying2 cellsEv ix rfl rfl rfl rfl (by simpa [Value.cells] using hf1)
 clear hA0 hval0
 have hT:ou W:=tab hL
 simp only [List.append_nil] at hW'
 refine (walk M A a1 n1 c1 l1 W hin hev hT).mono fun e W' ⟨he,hg⟩=>?_
 subst he
 exact ⟨_,rfl,_,_,_,[],_,[],hW',(trodAll_cons_mk (shut_bool Tryz.underlying4 _) trodAll_mk0),(trodAll_cons_mk (Below.trod laidOut (by kernel_rfl) (of_decide_eq_true (by kernel_rfl)) k0 hg lt0) (trodAll_cons_mk (Below.trod laidOut (by kernel_rfl) (of_decide_eq_true (by kernel_rfl)) k1 hg lt1) trodAll_mk0)),rfl,hg.frame _,fun h=>by cases h⟩
noncomputable def laidWorld (os:Os):World :=
 { World.holding Tryz.prog os ⟨#[],#[],[]⟩ with heap:=(World.holding Tryz.prog os ⟨#[],#[],[]⟩).heap.modify 0 fun
  | .cells _ t frozen=>.cells #[.int .u8 0,.int .u8 1,.int .u8 56,.int .u8 2,.int .u8 57,.int .u8 49,.int .u8 28,.int .u8 3,.int .u8 61,.int .u8 58,.int .u8 42,.int .u8 50,.int .u8 38,.int .u8 29,.int .u8 17,.int .u8 4,.int .u8 62,.int .u8 47,.int .u8 59,.int .u8 36,.int .u8 45,.int .u8 43,.int .u8 51,.int .u8 22,.int .u8 53,.int .u8 39,.int .u8 33,.int .u8 30,.int .u8 24,.int .u8 18,.int .u8 12,.int .u8 5,.int .u8 63,.int .u8 55,.int .u8 48,.int .u8 27,.int .u8 60,.int .u8 41,.int .u8 37,.int .u8 16,.int .u8 46,.int .u8 35,.int .u8 44,.int .u8 21,.int .u8 52,.int .u8 32,.int .u8 23,.int .u8 11,.int .u8 54,.int .u8 26,.int .u8 40,.int .u8 15,.int .u8 34,.int .u8 20,.int .u8 31,.int .u8 10,.int .u8 25,.int .u8 14,.int .u8 19,.int .u8 9,.int .u8 13,.int .u8 8,.int .u8 7,.int .u8 6] t frozen
  | o=>o }
theorem laid_met (os:Os):laidMet Tryz.prog Rows.fnExactPlayRow.laid ((laidWorld os).forCall (fun _ _=>0) ⟨#[],#[.agg #[.int .u64 0,.slice none 0 0,.int .i64 0,.slice none 0 0,.slice none 0 0,.int .u64 0,.int .u64 0,.bool false,.slice none 0 0,.slice none 0 0,.int .i64 0,.int .u64 0,.bool false,.bool false],.slice none 0 0],[]⟩).memory :=
 laidMet_of_run' 8 (by kernel_rfl) (by kernel_rfl)
theorem reads (os:Os) {H:Type} (enc:TypeId × Value→H):∃ places,DataW.whole enc Tryz.prog ((laidWorld os).forCall (fun _ _=>0) ⟨#[],#[.agg #[.int .u64 0,.slice none 0 0,.int .i64 0,.slice none 0 0,.slice none 0 0,.int .u64 0,.int .u64 0,.bool false,.slice none 0 0,.slice none 0 0,.int .i64 0,.int .u64 0,.bool false,.bool false],.slice none 0 0],[]⟩).memory Tryz.f9.params.toList Rows.fnExactPlaySpec.vars false (#[.agg #[.int .u64 0,.slice none 0 0,.int .i64 0,.slice none 0 0,.slice none 0 0,.int .u64 0,.int .u64 0,.bool false,.slice none 0 0,.slice none 0 0,.int .i64 0,.int .u64 0,.bool false,.bool false],.slice none 0 0]:Array Value).toList 8=some ([.agg [.lit (.int .u64 0),.nil,.lit (.int .i64 0),.nil,.nil,.agg [.lit (.int .u64 0),.lit (.int .u64 0),.lit (.bool false),.nil,.nil,.lit (.int .i64 0)],.lit (.int .u64 0),.lit (.bool false),.lit (.bool false)],.nil],[],places) :=
 ⟨[],by kernel_rfl⟩
theorem lifted (os:Os) (started:os.Started) (H:Type) (enc:TypeId × Value→H) (F:Stop.Interp) :
 ReturnsInHanded {} Tryz.checked os 9 .any ((OpenSpec.ofChange Rows.fnExactPlaySpec).preRow enc Tryz.prog Tryz.f9 Rows.fnExactPlayRow.domain false Rows.fnExactPlayRow.laid) (((OpenSpec.ofChange Rows.fnExactPlaySpec).at F).post enc Tryz.prog Tryz.f9 false true false false):=by
 obtain ⟨places,hx⟩:=reads os enc
 refine returnsInHanded_of_row (C:=Tryz.checked) (s:=OpenSpec.ofChange Rows.fnExactPlaySpec) own started (by kernel_rfl) Tryz.func9
  (witness_row_at (enc:=enc) (C:=Tryz.checked) false (laidWorld os) #[.agg #[.int .u64 0,.slice none 0 0,.int .i64 0,.slice none 0 0,.slice none 0 0,.int .u64 0,.int .u64 0,.bool false,.slice none 0 0,.slice none 0 0,.int .i64 0,.int .u64 0,.bool false,.bool false],.slice none 0 0] rfl (by kernel_rfl) (by kernel_rfl) (by kernel_rfl)
   (OpenSpec.preRow_of_cond 8 hx (by kernel_rfl) (fun k hk=>by cases hk) (by kernel_rfl) (laid_met os))) ?_
 intro W base args ds gs before hval hW _ _ _ hL _ _
 exact contract H enc W base args ds gs before hval hW hL
theorem closedF:joinedFacts Tryz.pinned.checked.prog 9 Tryz.f9 (OpenSpec.ofChange Rows.fnExactPlaySpec).bare Rows.fnExactPlayRow=true:=by
 unfold joinedFacts
 simp only [Bool.and_eq_true]
 repeat' apply And.intro
 all_goals as_aux_lemma=>kernel_rfl
theorem said:Rows.FnExactPlaySaid :=
 OpenClaim.holds_of_cond 9 Tryz.f9 rfl rfl rfl rfl rfl rfl rfl ⟨rfl,rfl,rfl,rfl,rfl⟩ rfl rfl rfl rfl rfl (by kernel_rfl) Tryz.func9 closedF
  (of_decide_eq_true (by kernel_rfl)) (by unfold Func.isWrapper;first | (rw [if_pos (by decide +kernel)];kernel_rfl) | (rw [if_neg (by decide +kernel)];exact ⟨rfl,rfl⟩))
  (fun os started H enc _ F=>by rw [OpenClaim.pre_eq_preRow];exact lifted os started H enc F)
theorem plain (f:FuncId) (fn:Func) (hf:Tryz.pinned.checked.prog.funcNamed "loop.example/g00134/laws.FnExactPlay" = some f) (hfn:Tryz.pinned.checked.prog.funcs[f]?=some fn) :
 true=Tryz.pinned.checked.prog.looks []∧∀ (j:Nat) t,fn.params[j]?=some t→Tryz.pinned.checked.prog.wantsStandIn t=false:=by
 obtain rfl:f=9:=Option.some.inj ((show Tryz.prog.funcNamed "loop.example/g00134/laws.FnExactPlay" = some 9 by kernel_rfl).symm.trans hf) |>.symm
 obtain rfl:fn=Tryz.f9:=(Option.some.inj (Tryz.func9.symm.trans hfn)).symm
 refine ⟨by kernel_rfl,fun j t ht=>?_⟩
 rw [Tryz.params9] at ht
 have hm:t ∈ [28,58]:=by simpa using Array.mem_of_getElem? ht
 have hall:([28,58].all fun u=>!Tryz.prog.wantsStandIn u)=true:=by kernel_rfl
 exact (show Tryz.prog.wantsStandIn t=false by simpa using List.all_eq_true.1 hall t hm)
theorem proved:Rows.FnExactPlayCardSaid :=
 Claim7.holds_tied_plain_at .later [] _ _ _ _ said (fun _ h=>by cases h) (by kernel_rfl) (fun _ h=>by cases h) fnExactPlay_row_tie rfl ⟨rfl,rfl⟩ (by kernel_rfl) rfl plain (by kernel_rfl)
end Go.Proofs.YtfagphfjfhpmjaaGreatDoor.fnExactPlay
