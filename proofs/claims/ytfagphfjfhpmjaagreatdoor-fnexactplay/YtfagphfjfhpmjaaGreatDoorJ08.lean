/- Own lemmas. -/
import Derived.Test.YtfagphfjfhpmjaaGreatDoorAuj
import Derived.Test.YtfagphfjfhpmjaaGreatDoorJ04
namespace Go.Proofs.YtfagphfjfhpmjaaGreatDoor
open Go.RowKit Tryz
set_option linter.unusedVariables false
variable {w g:World} {k n A:Nat} {F:Array Value} {M:MV} {P:MA} {Q:Program} {S:World->Prop} {o:Exit->Act->World->Prop} {a:List KI} {b:Fr} {W:List Nat} {x:Int}
def DL (ops:Array Oper):Bool :=
 Nat.blt 0 ops.size&&(List.range (ops.size-1)).all (λi=>match ops[i]? with
  | none=>false
  | some o=>o.after.all (λe=>!Region.binds .any e||Nat.blt e.on i)&&(match o.guard with | none=>true | some g=>Nat.blt g.1 i)&&(match ops[ops.size-1]? with | none=>false | some l=>ya l i))&&(match ops[ops.size-1]? with | none=>false | some l=>l.after.all (λe=>!Region.binds .any e||Nat.blt e.on (ops.size-1)))
section
variable {P : Program} {ops : Array Oper} {Q : Exit -> Act -> World -> Prop} {S : World -> Prop}
structure rt (ops:Array Oper) (L:Nat) (l:Oper):Prop where
 size:ops.size=L+1
 last:ops[L]?=some l
 down:∀ (i:Nat) (o:Oper),i<L->ops[i]?=some o->∀ e ∈ o.after,Region.binds .any e=true->e.on<i
 gd:∀ (i:Nat) (o:Oper),i<L->ops[i]?=some o->∀ g,o.guard=some g->g.1<i
 all:∀ i,i<L->ya l i=true
 ldn:∀ e ∈ l.after,Region.binds .any e=true->e.on<L
theorem yT {a b:Nat} (h:Nat.blt a b=true):a<b:=Nat.lt_of_succ_le (by simpa [Nat.blt] using h)
theorem Bj (h:DL ops=true):∃ L l,rt ops L l:=by
 unfold DL at h;simp only [Bool.and_eq_true] at h;obtain ⟨⟨n,c⟩,m⟩:=h;have q:=yT n;have j:ops[ops.size-1]?=some ops[ops.size-1]:=Array.getElem?_eq_getElem ab;refine ⟨ops.size-1,ops[ops.size-1],ab,j,?_,?_,?_,?_⟩;·intro i o b k e f d;have:=List.all_eq_true.1 c i (List.mem_range.2 b);rw [k] at this;simp only [Bool.and_eq_true] at this;have a:=Array.all_eq_true_iff_forall_mem.1 this.1.1 e f;rw [d] at a;exact yT qh
 ·intro i o b k g p;have:=List.all_eq_true.1 c i (List.mem_range.2 b);rw [k] at this;simp only [Bool.and_eq_true,p] at this;exact yT this.1.2
 ·intro i b;have:=List.all_eq_true.1 c i (List.mem_range.2 b);rw [Array.getElem?_eq_getElem (show i<ops.size by omega),j] at this;simp only [Bool.and_eq_true] at this;exact this.2
 ·intro e f d;rw [j] at m;have a:=Array.all_eq_true_iff_forall_mem.1 m e f;rw [d] at a;exact yT qh
variable {L : Nat} {l : Oper}
theorem mJ {listed:Array Bool} (hs:listed.size=L) {j:Nat} (a:j<L) (d:Bool):(listed.push false).getD j d=listed.getD j d:=by simp [Array.getD,Array.getElem_push,hs,a,show j<L+1 by omega]
theorem J4 {listed:Array Bool} (hs:listed.size=L) {i:Nat} (b:i<L):(listed.push false).setIfInBounds i true=(listed.setIfInBounds i true).push false:=by
 apply Array.ext_getElem?;intro j;by_cases a:i=j;·subst a;rw [Array.getElem?_setIfInBounds_self_of_lt a8,Array.getElem?_push_lt a8];simp
 ·rw [Array.getElem?_setIfInBounds_ne a];simp only [Array.getElem?_push,Array.size_setIfInBounds,Array.getElem?_setIfInBounds_ne a]
theorem tE (T:rt ops L l) {i:Nat} (a:i<L):ops.pop[i]?=ops[i]?:=by have:=T.size;simp [show i<ops.size-1 by omega]
theorem ru (T:rt ops L l) {listed:Array Bool} (hs:listed.size=L) {i:Nat} (a:i<L):i ∈ Region.ready .any ops (listed.push false)↔i ∈ Region.ready .any ops.pop listed:=by rw [mem_ready,mem_ready,mJ hs a,tE T a];refine and_congr_right λ_=>exists_congr λo=>and_congr_right λd=>?_;refine forall_congr' λe=>forall_congr' λc=>forall_congr' λb=>?_;rw [mJ hs (by have:=T.down i o a d e c b;omega)]
theorem DM (T:rt ops L l) {listed:Array Bool} (hs:listed.size=L) (hr:Region.ready .any ops.pop listed=[]):∀ i,i<L->listed.getD i false=true:=by
 intro i;induction i using Nat.strongRecOn with
 | _ i g =>
   intro a;cases d:listed.getD i true with
   | true=>simpa [Array.getD,hs,a] using d
   | false =>have b:ops[i]?=some (ops[i]' vr):=Array.getElem?_eq_getElem _;have:i ∈ Region.ready .any ops.pop listed:=mem_ready.2 ⟨d,_,(tE T a).trans b,λe f c=>g e.on (T.down i _ a b e f c) (by have:=T.down i _ a b e f c;omega)⟩;rw [hr] at this;cases this
theorem J5 (T:rt ops L l) {R:Act->World->Prop} {i:Nat} (k:i<L) {K f:Act->World->Prop} {a:Act} {w:World} (q:∀ a w,K a w->f a w) (h:wpOp P ops.pop (Exit.then R Q) i K a w):wpOp P ops Q i f a w:=by
 refine wpOp_mono q ?_;have m:ops[i]?=some (ops[i]' vr):=Array.getElem?_eq_getElem _;unfold wpOp at h ⊢;rw [tE T k] at h;rw [m] at h ⊢;dsimp only at h ⊢;have t:Region.wanted (ops[i]' vr) (yielded ops.pop a.tmps)=Region.wanted (ops[i]' vr) (yielded ops a.tmps):=by
  unfold Region.wanted;cases s:(ops[i]' vr).guard with
  | none=>rfl
  | some g =>have j:=T.gd i _ k m g s;dsimp only;unfold yielded;rw [tE T ab]
 rw [t] at h;split
 ·rename_i b;rw [if_pos b] at h;rcases h with h|⟨j,o,d,p⟩
  ·refine .inl ?_;unfold Oper.wp at h ⊢;generalize (execOp a.eval (ops[i]' vr)).run P w=r at *;cases r with
   | ok n d =>
     cases n<;>simp only [Oper.upon] at h ⊢;all_goals first
      | exact h
      | exact Calls.mono h (λe u c=>by cases e<;>exact c)
      | exact Rows.mono h (λ_ _ c=>c)
   | halt x d=>cases x<;>simp only [Oper.upon] at h ⊢ <;> exact h
  ·exact .inr ⟨j,o,d,p⟩
 ·rename_i b;rw [if_neg b] at h;exact h
theorem DN (T:rt ops L l):∀ (fuel:Nat) (listed:Array Bool) (a:Act) (w:World),listed.size=L->wpAny P .any ops.pop (Exit.then (λa w=>wpOp P ops Q L (λa w=>Q .normal a w) a w) Q) fuel listed a w->wpAny P .any ops Q (fuel+1) (listed.push false) a w:=by
 have g:∀ (m:Nat) (listed:Array Bool) (a:Act) (w:World),listed.size=L->Region.ready .any ops.pop listed=[]->wpOp P ops Q L (λa w=>Q .normal a w) a w->wpAny P .any ops Q (m+1) (listed.push false) a w:=by
  intro m listed a w b q h
  have f:=DM T b q
  have R:=T.size
  have I:L ∈ Region.ready .any ops (listed.push false):=mem_ready.2 ⟨by simp [Array.getD,Array.getElem_push,b],l,T.last,λe O N=>by
   have k:=T.ldn e O N
   rw [mJ b k]
   exact f _ k⟩
  refine ⟨λB=>(by rw [B] at I;cases I),λi t=>?_⟩
  by_cases c:i=L
  ·subst c
   refine wpOp_mono (λG K v=>?_) h
   have J:Region.ready .any ops ((listed.push false).setIfInBounds i true)=[]:=by
    rw [List.eq_nil_iff_forall_not_mem]
    intro j A
    obtain ⟨k,o,d,_⟩:=mem_ready.1 A
    have y:j<ops.size:=(Array.getElem?_eq_some_iff.1 d).1
    by_cases u:j=i
    ·subst u
     simp [Array.getD,b] at k
    ·have z:=f j ab
     have H:((listed.push false).setIfInBounds i true).getD j true=listed.getD j true:=by
      rw [<- mJ b (show j<i by omega)]
      simp only [Array.getD_eq_getD_getElem?,Array.getElem?_setIfInBounds_ne (Ne.symm u)]
     rw [H] at k
     have r:j<listed.size:=ab
     simp [Array.getD,r] at k z
     rw [k] at z
     cases z
   cases m with
   | zero=>exact ⟨J,v⟩
   | succ m=>exact ⟨λ_=>v,λj A=>by rw [J] at A;cases A⟩
  ·have E:i<L:=by
    obtain ⟨_,o,d,_⟩:=mem_ready.1 t
    have:=(Array.getElem?_eq_some_iff.1 d).1
    omega
   have:=(ru T b E).1 t
   rw [q] at this
   cases this
 intro fuel
 induction fuel with
 | zero=>intro listed a w b h;exact g 0 listed a w b h.1 h.2
 | succ fuel S =>
   intro listed a w b h
   by_cases q:Region.ready .any ops.pop listed=[]
   ·exact g _ listed a w b q (h.1 q)
   ·obtain ⟨x,F⟩:=List.exists_mem_of_ne_nil _ q
    have p:x<L:=by
     obtain ⟨_,o,d,_⟩:=mem_ready.1 F
     have y:=(Array.getElem?_eq_some_iff.1 d).1
     rw [Array.size_pop] at y
     have:=T.size
     omega
    refine ⟨λB=>(by have:=(ru T b p).2 F;rw [B] at this;cases this),λi t=>?_⟩
    have c:i<L:=by
     obtain ⟨_,o,d,y⟩:=mem_ready.1 t
     have z:=(Array.getElem?_eq_some_iff.1 d).1
     have H:=T.size
     by_cases e:i=L
     ·subst e
      rw [T.last] at d
      cases d
      have r:=T.all x p
      unfold ya at r
      rw [<- Array.any_toList] at r
      obtain ⟨e,s,n⟩:=List.any_eq_true.1 r
      rw [Array.mem_toList_iff] at s
      rw [Bool.and_eq_true,beq_iff_eq] at n
      have C:=y e s n.1
      rw [n.2,mJ b p] at C
      have D:=(mem_ready.1 F).1
      have M:x<listed.size:=ab
      simp [Array.getD,M] at C D
      rw [C] at D
      cases D
     ·omega
    refine J5 T c (λG K v=>?_) (h.2 i ((ru T b c).1 t))
    rw [J4 b c]
    exact S _ G K (by simp [b]) v
def Fe:Nat->Array Oper->List KI->Option (List KI)
 | 0,ops,k=>some (.sq ops ops.size (Array.replicate ops.size false)::k)
 | j+1,ops,k=>match DL ops,ops[ops.size-1]? with
   | true,some l=>Fe j ops.pop (.ops ops [l]::k)
   | _,_=>none
theorem J6:∀ (j:Nat) (ops:Array Oper) (k b:List KI) (a:Act) (w:World),Fe j ops k=some b->iS P S Q b .normal a w->wpAny P .any ops (iS P S Q k) ops.size (Array.replicate ops.size false) a w:=by
 intro j;induction j with
 | zero =>intro ops k b a w h c;cases h;exact wpAny_of_held (S:=S) _ _ _ _ c
 | succ j p =>
   intro ops k b a w h c;unfold Fe at h;split at h;·rename_i l d n;obtain ⟨L,q,T⟩:=Bj d;have f:=T.size;have m:ops.size-1=L:=ab;rw [m,T.last] at n;cases n;have g:=p ops.pop _ b a w h c;rw [Array.size_pop,m] at g;have e:(λa w=>wpOp P ops (iS P S Q k) L (λa w=>iS P S Q k .normal a w) a w)=wpList P ops (iS P S Q k) [l]:=(by funext a w;unfold wpOp wpList;rw [T.last];rfl);have i:wpAny P .any ops (iS P S Q k) (L+1) ((Array.replicate L false).push false) a w:=(by refine DN T L _ a w bc ?_;rw [e];exact g);have o:(Array.replicate L false).push false=Array.replicate (L+1) false:=(by rw [Array.replicate_succ]);rw [o] at i;rw [f];exact i
   ·cases h
def Bk (j:Nat) (k:List KI):Option (List KI):=match k with
 | .code (.region _ ops true)::k'=>Fe j ops k'
 | _=>none
theorem ol (j:Nat) {n:Nat} {F:Fr} {w:World} {k:List KI} (h:Wg P S Q n ((Bk j k).getD []) F w.drew) (hm:P.follows .mixedOrders=true:=by kernel_rfl) (hk:(Bk j k).isSome=true:=by kernel_rfl):Wg P S Q n k F w:=λa c=>by
 obtain ⟨e,b⟩:=Option.isSome_iff_exists.1 hk;clear hk;rw [b,Option.getD_some] at h;unfold Bk at b;split at b;·rename_i id ops d;show (Go.Code.region id ops true).wp P (iS P S Q d) a w;exact wp_region_any hm (J6 j ops d e a w.drew b (h a c))
 ·cases b
theorem yU {n:Nat} {F:Fr} {w:World} {k:List KI} (h:Wg P S Q n ((Bk 1 k).getD []) F w.drew) (hm:P.follows .mixedOrders=true:=by kernel_rfl) (hk:(Bk 1 k).isSome=true:=by kernel_rfl):Wg P S Q n k F w:=ol 1 (hm:=hm) (hk:=hk) h
def PT (kk:Nat) (k:List KI):Option (List KI):=match k with
 | .code (.region _ ops true)::k'=>some (.sk ops kk ops.size (Array.replicate ops.size false)::k')
 | _=>none
theorem mq (kk:Nat) {n:Nat} {F:Fr} {w:World} {k:List KI} (h:Wg P S Q n ((PT kk k).getD []) F w.drew) (hm:P.follows .mixedOrders=true:=by kernel_rfl) (hk:(PT kk k).isSome=true:=by kernel_rfl):Wg P S Q n k F w:=λa b=>by
 unfold PT at hk h;split at hk;·rename_i id ops c;show (Go.Code.region id ops true).wp P (iS P S Q c) a w;exact wp_region_any hm (ug _ _ _ _ (h a b))
 ·cases hk
def Sw (k:List KI):Option (List KI):=match k with
 | .sw all m listed::k'=>some (.sq all m listed::k')
 | _=>none
theorem Rn {n:Nat} {F:Fr} {w:World} {k:List KI} (h:Wg P S Q n ((Sw k).getD []) F w) (hk:(Sw k).isSome=true:=by kernel_rfl):Wg P S Q n k F w:=λa b=>by
 unfold Sw at hk h;split at hk;·exact wpAny_of_held (S:=S) _ _ _ _ (h a b)
 ·cases hk
def ay:Nat->Go.Code->Go.Code
 | 0,c=>c
 | n+1,.seq _ y=>ay n y
 | _+1,c=>c
def iZ:Go.Code->Go.Code
 | .seq x _=>x
 | c=>c
def OY:Go.Code->Go.Code
 | .cond _ x _=>x
 | c=>c
def aW (fn:Func):Go.Code:=fn.body.getD .skip
theorem an {n:Nat} {F:Fr} {w:World} {k:List KI} (k1:List KI) (b:Fr) (h:Wg P S Q n k1 b w) (hk:k=k1:=by kernel_rfl) (hF:b.map (λy=>some y.2.1)=b.map λy=>(lk F y.1).map Prod.fst:=by kernel_rfl):Wg P S Q n k F w:=by subst hk;exact λa c=>h a (c.less hF)
end
def Es (w:World) (a:Option Addr) (l:List (Int × Int)):Prop :=
 ∀ i,i<l.length->∃ b o,a=some ⟨b,o,none⟩/\b<w.heap.size/\w.cell? ⟨b,o+i*2,none⟩=some (.i (l.getD i (0,0)).1)/\w.cell? ⟨b,o+i*2+1,none⟩=some (.i (l.getD i (0,0)).2)
theorem Es.below {a:Option Addr} {l:List (Int × Int)} (h:Es w a l) (hb:Bw w g):Es g a l:=λi w'=>by obtain ⟨b,o,e,c,d,f⟩:=h i w';exact ⟨b,o,e,Nat.lt_of_lt_of_le c hb.size,(hb.cell (p:=⟨b,o+i*2,none⟩) c).trans d,(hb.cell (p:=⟨b,o+i*2+1,none⟩) c).trans f⟩
def Bl {P:Program} {S:World->Prop} {T E:TypeId} {a:Option Addr} {b o:Nat} (n c:Nat) (i:Nat) (f:a=some ⟨b,o,none⟩) (g:i<n) (h:P.underlying T=some (.slice E)) (hz:(P.info? E).map (·.size)=some 2):Ov P S :=
 ⟨do pure (.value (<- Instr.indexAt T (.slice a n c) (.i i))),.p b (o+i*2),0,λW j=>by
  subst f
  obtain ⟨info,d,e⟩:=Option.map_eq_some_iff.1 hz
  simp [Instr.indexAt,asIntOf,underlying,program,sizeOf,typeInfo,h,d,e,g,Addr.add,Sem.run,Bind.bind,Sem.bind,Pure.pure]⟩
def Ro {P:Program} {S:World->Prop} {T:TypeId} {d:TypeDesc} (b o:Nat) (u v:Value) (i:P.underlying T=some d) (hd:(match d with | .struct _ | .array _ _=>true | _=>false)=true) (hz:(P.info? T).map (·.size)=some 2) (h:∀ W,S W->W.cell? ⟨b,o,none⟩=some u/\W.cell? ⟨b,o+1,none⟩=some v):Ov P S :=
 ⟨do pure (.value (<- Instr.loadAt T (.p b o))),.agg #[u,v],0,λW a=>by
  obtain ⟨f,g⟩:=h W a
  obtain ⟨info,c,e⟩:=Option.map_eq_some_iff.1 hz
  cases d<;>simp_all [Instr.loadAt,Instr.sureAddr,loadVar,isAgg,underlying,program,load,loadCells,loadCellsFrom,sizeOf,typeInfo,Addr.add,Sem.run,Bind.bind,Sem.bind,Pure.pure]⟩
structure TV where
 ld:Value
 wd:Int
 op:Int
 rd:Int
 ra:Int
 rb:Int
 im:Int
 fm:Value
 rs:Int
 nx:Int
 wr:Bool
 up:Bool
 cz:Int
 vl:Int
def bz (M:MV) (A:MA) (t:TV):Array Value:=#[.u M.pc,.slice A.ax M.x.length A.cx,.i M.pr,.slice A.ac M.cs.length A.cc,.slice A.ar M.ram.length A.cr,.u M.d.t,.u M.d.cm,.bool M.d.so,.slice A.ai M.d.xs.length A.ci,.slice A.ao M.d.ys.length A.co,.i M.d.ir,.u M.hd,.bool M.hl,.bool M.wt,t.ld,.u t.wd,.i t.op,.i t.rd,.i t.ra,.i t.rb,.i t.im,t.fm,.u t.rs,.u t.nx,.bool t.wr,.bool t.up,.i t.cz,.u t.vl]
theorem Iv.one (h:iw ⟨k,F,[]⟩ w):Iv [k] w [⟨k,F,[]⟩] w:=⟨λr a=>by rw [List.mem_singleton] at a;subst a;exact h,Ag.refl _ _,λr a=>by rw [List.mem_singleton] at a;subst a;simp,bc⟩
theorem jZ {M:MV} {A:MA} {t:TV} (c v:Int) (h:iw ⟨k,bz M A t,[]⟩ w):Calls prog 221 #[.p k 0,.i c,.u v] w λe b=>e=.returned (.tuple #[])/\Iv [k] w [⟨k,bz M A {t with up:=true,cz:=c,vl:=v},[]⟩] b:=by refine fj (args:=[.p k 0,.i c,.u v]) (λ_=>True) func221 ?_;refine aL 0 1 ?_;exact gp (Iv.one h) {} 40 λW a=>⟨rfl,a⟩
theorem Iv.then1 {w':World} {a:Array Value} (h:Iv W w [⟨k,F,[]⟩] g) (bs:Iv [k] g [⟨k,a,[]⟩] w'):Iv W w [⟨k,a,[]⟩] w' :=
 ⟨bs.rows,h.ag.trans ⟨bs.ag.os,bs.ag.tape,bs.ag.output,bs.ag.size,λi d c=>bs.ag.block i d (by rw [List.mem_singleton];exact λe=>c (by rw [e];exact h.sub _ (List.mem_singleton.2 rfl)))⟩,λr b=>by rw [List.mem_singleton] at b;subst b;exact h.sub ⟨k,F,[]⟩ (List.mem_singleton.2 rfl),bc⟩
theorem Iv.row1 (h:Iv W w [⟨k,F,[]⟩] g):iw ⟨k,F,[]⟩ g:=h.rows _ (List.mem_singleton.2 rfl)
def vQ {P:Program} {bs:List Nat} {g:Nat} {w:World} {cs:Array Value} {f:Nat} {args:Array Value} {v:Value} (h:∀ W,Iv bs w [⟨g,cs,[]⟩] W->Calls P f args W λe b=>e=.returned v/\Iv [g] W [⟨g,cs,[]⟩] b):Cv P (Iv bs w [⟨g,cs,[]⟩]):=⟨f,args,v,0,λW a=>(h W a).mono λe b k=>⟨k.1,a.then1 k.2⟩⟩
theorem lA {p:Addr} {v:Value} (h:w.cell? p=some v):p.block<w.heap.size:=by
 unfold World.cell? at h;split at h;·rename_i a;exact (Array.getElem?_eq_some_iff.1 a).1
 ·cases h
theorem sx {t:TV} (h:iw ⟨k,bz M P t,[]⟩ w):Calls prog 174 #[.p k 0] w λe b=>e=.returned (.u (IntKind.u64.wrap t.im))/\Iv [k] w [⟨k,bz M P t,[]⟩] b:=by refine fj (args:=[.p k 0]) (λ_=>True) func174 ?_;refine aL 0 1 ?_;exact uk (t:=2) (v:=.u (IntKind.u64.wrap t.im)) (Iv.one h) {} 40 λW a=>⟨rfl,a⟩
theorem oU {t:TV} (h:iw ⟨k,bz M P t,[]⟩ w):Calls prog 168 #[.p k 0] w λe d=>e=.returned (.tuple #[])/\Iv [k] w [⟨k,bz M P {t with up:=true,cz:=2,vl:=t.wd},[]⟩] d:=by refine fj (args:=[.p k 0]) (λ_=>True) func168 ?_;refine aL 0 1 ?_;refine gn (Iv.one h) {} 40 (R1:=[⟨k,bz M P t,[]⟩]) (λW a=>jZ 2 t.wd a.row1) λW e d a c=>⟨_,0,c.1,?_⟩;exact a0l
theorem J7 {t:TV} (h:iw ⟨k,bz M P t,[]⟩ w) (c:P.ax=some ⟨n,A,none⟩) (f:0<=t.ra/\t.ra<M.x.length) (hb:n≠k) (hx:w.cell? ⟨n,A+t.ra.toNat,none⟩=some (.u x)):Calls prog 173 #[.p k 0] w λe i=>e=.returned (.u x)/\Iv [k] w [⟨k,bz M P t,[]⟩] i:=by
 have d:∀ W,Ag [k] w W->W.cell? ⟨n,A+t.ra.toNat,none⟩=some (.u x):=λW a=>by rw [<- hx];simp only [World.cell?,a.block n (lA hx) (by simpa using hb)]
 refine fj (args:=[.p k 0]) (λ_=>True) func173 ?_;refine aL 0 1 ?_;exact uk (t:=2) (v:=.u x) (Iv.one h) {ov:=[(13,pe M.x.length P.cx .i64 t.ra c f underlying23 a4),(14,jk _ _ underlying22 rfl d)]} 40 λW a=>⟨rfl,a⟩
theorem Sf {t:TV} (h:iw ⟨k,bz M P t,[]⟩ w) (c:P.ax=some ⟨n,A,none⟩) (f:0<=t.rb/\t.rb<M.x.length) (hb:n≠k) (hx:w.cell? ⟨n,A+t.rb.toNat,none⟩=some (.u x)):Calls prog 176 #[.p k 0] w λe i=>e=.returned (.u x)/\Iv [k] w [⟨k,bz M P t,[]⟩] i:=by
 have d:∀ W,Ag [k] w W->W.cell? ⟨n,A+t.rb.toNat,none⟩=some (.u x):=λW a=>by rw [<- hx];simp only [World.cell?,a.block n (lA hx) (by simpa using hb)]
 refine fj (args:=[.p k 0]) (λ_=>True) func176 ?_;refine aL 0 1 ?_;exact uk (t:=2) (v:=.u x) (Iv.one h) {ov:=[(13,pe M.x.length P.cx .i64 t.rb c f underlying23 a4),(14,jk _ _ underlying22 rfl d)]} 40 λW a=>⟨rfl,a⟩
def OZ:List KI->Option (List Nat)
 | .sq all (_+1) listed::_=>some (Region.ready .any all listed)
 | _=>none
def Bm (F:Fr) (i:Nat):List KI->Option (Oper × List KI)
 | .sq all (m+1) listed::k=>match all[i]? with
   | some o=>match wn all F o with
     | some true=>some (o,.sq all m (listed.setIfInBounds i true)::k)
     | _=>none
   | none=>none
 | _=>none
def Nm (F:Fr) (i:Nat) (k:List KI):List KI:=match Bm F i k with
 | some x=>x.2
 | none=>[]
def Rp (n:Nat) (F:Fr) (i:Nat) (k:List KI):Option (Sem Next):=match Bm F i k with
 | some (o,_)=>match o.op.operands.all (kn F)&&Ap o.op&&(match o.dst with | some d=>Nat.blt d n | none=>true) with
   | true=>some (execOp (ev F) o)
   | false=>none
 | none=>none
def Nn (F:Fr) (i:Nat) (k:List KI) (v:Value) (t:Nat):Fr:=match Bm F i k with
 | some (o,_)=>match o.dst with
   | some d=>(d,v,t)::F
   | none=>F
 | none=>F
def Rq (P:Program) (n:Nat) (F:Fr) (i:Nat) (k:List KI):Option (Nat × Array Value):=match Bm F i k with
 | some (o,_)=>match (match o.dst with | some d=>Nat.blt d n | none=>true) with
   | true=>qZ P F o
   | false=>none
 | none=>none
def Sg (P:Program) (S:World->Prop) (Q:Exit->Act->World->Prop) (i:Nat) (a:Act) (w:World):List KI->Prop
 | .sq all (m+1) listed::k'=>wpOp P all (iS P S Q k') i (λc b=>S b/\wpAnyH P .any all (iS P S Q k') S m (listed.setIfInBounds i true) c b) a w
 | _=>False
def Br (P:Program) (S:World->Prop) (Q:Exit->Act->World->Prop) (n:Nat) (k:List KI) (F:Fr) (w:World) (i:Nat):Prop:=∀ a,bK F n a->Sg P S Q i a w k
theorem mr {i j:Nat} (f:Br Q S o n a b w i) (g:Br Q S o n a b w j) (hr:OZ a=some [i,j]:=by kernel_rfl):Wg Q S o n a b w:=λk d=>by
 have F:=f k d;have c:=g k d;unfold Sg at F c;unfold OZ at hr;split at hr
 ·rename_i all m listed h;simp only [Option.some.injEq] at hr;show wpAnyH Q .any all (iS Q S o h) S (m+1) listed k w;refine wpAnyH_all hr bc λq e=>?_;simp only [List.mem_cons,List.not_mem_nil,or_false] at e;rcases e with rfl | rfl;·exact F
  ·exact c
 ·cases hr
theorem Ff {P:Oper} {e:List KI} (h:Bm b k a=some (P,e)) {i:Act} (hk:bK b n i) (q:∀ K:Act->World->Prop,(∀ c F,S F->iS Q S o e .normal c F->K c F)->P.wp Q i w K (iS Q S o e)):Sg Q S o k i w a:=by
 unfold Bm at h;split at h
 ·rename_i all m listed r;split at h
  ·rename_i s l;split at h;·rename_i d;simp only [Option.some.injEq,Prod.mk.injEq] at h;obtain ⟨rfl,rfl⟩:=h;simp only [Sg];refine wpOp_step l λf g=>?_;rw [if_pos (kE hk d)];exact q f λc F p j=>g c F ⟨p,j⟩
   ·cases h
  ·cases h
 ·cases h
theorem nI {s:Sem Next} {v:Value} (t:Nat) (hr:s.run Q w=.ok (.value v) g) (hS:S g) (h:Wg Q S o k (Nm b A a) (Nn b A a v t) g) (hx:Rp k b A a=some s:=by kernel_rfl):Br Q S o k a b w A:=λi f=>by
 unfold Rp at hx;unfold Nm Nn at h;cases j:Bm b A a with
 | none=>rw [j] at hx;cases hx
 | some y =>
   obtain ⟨n,q⟩:=y;rw [j] at hx h;dsimp only at hx h;split at hx
   ·rename_i c;cases hx;rw [Bool.and_eq_true,Bool.and_eq_true] at c;have w':execOp i.eval n=execOp (ev b) n:=execOp_congr n (λp F e=>by have:=c.1.2;rw [e] at this;cases this) λx hx=>f.eval (Array.all_eq_true_iff_forall_mem.1 c.1.1 x hx);refine Ff j f λK l=>?_;show n.upon Q i K _ _;rw [w',hr];refine l _ _ hS (h _ ?_);cases m:n.dst with
    | none=>exact f
    | some d=>rw [m] at c;exact f.put c.2 v t
   ·cases hx
theorem lY {f:Nat} {Rc:Ending->World->Prop} (p:Calls Q f F w Rc) (h:∀ e args,Rc e args->∃ v t,e=.returned v/\S args/\Wg Q S o k (Nm b A a) (Nn b A a v t) args) (hx:Rq Q k b A a=some (f,F):=by kernel_rfl):Br Q S o k a b w A:=λi c=>by
 unfold Rq at hx;unfold Nm Nn at h;cases j:Bm b A a with
 | none=>rw [j] at hx;cases hx
 | some y =>
   obtain ⟨n,u⟩:=y;rw [j] at hx h;dsimp only at hx h;split at hx
   ·rename_i l;refine Ff j c λK m=>?_;show n.upon Q i K _ _;rw [oL c hx w];refine p.mono λe args q=>?_;obtain ⟨v,t,rfl,r,s⟩:=h e args q;refine m _ _ r (s _ ?_);cases g:n.dst with
    | none=>exact c
    | some d=>rw [g] at l;exact c.put l v t
   ·cases hx
end Go.Proofs.YtfagphfjfhpmjaaGreatDoor
