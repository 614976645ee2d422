/- Own lemmas. -/
import Derived.Test.YtkhofppmeoooaaaGreatDoorK03
import Derived.Test.YtkhofppmeoooaaaGreatDoorK04
import Derived.Test.YtkhofppmeoooaaaGreatDoorK07
import Derived.Test.YtkhofppmeoooaaaGreatDoorK11
import Derived.Test.YtkhofppmeoooaaaGreatDoorK13
import Derived.Test.YtkhofppmeoooaaaGreatDoorK14
import Derived.Deep.Cut
import Derived.Deep.CutRange
namespace Go.Proofs.YtkhofppmeoooaaaGreatDoor
open Go.RowKit
set_option linter.unusedVariables false

def rawC (vx vc vr:Value):Array Value:=#[.int .u64 2147483648,vx,.int .i64 3,vc,vr,.int .u64 0,.int .u64 0,.bool false,.slice none 0 0,.slice none 0 0,.int .i64 0,.int .u64 0,.bool false,.bool false]

def Zs (B:Nat) (W:World) (m:Nat) (v:Value):Prop:=∃ a,v=.slice a m m∧W.ownsRow B 24 1 (.slice a m m) m ((List.replicate m (0:Int)).map (Value.int .u64))

structure Nm3 (B n:Nat) (ram:List Int) (W:World) (vx vc vr:Value):Prop where
 x:Zs B W 32 vx
 c:Zs B W 22 vc
 r:W.ownsRow B 5 1 vr n (ram.map (Value.int .u8))

def nmV (B n cap:Nat) (ad:Addr) (ram:List Int) (W:World):Nat→List Value→Prop
 | 0,[v]=>Zs B W 32 v
 | 1,[v]=>Zs B W 22 v
 | 2,[v]=>∃ g,v=.slice (some ⟨g,0,none⟩) 0 0∧W.ownsRow 0 5 1 (.slice (some ⟨g,0,none⟩) 0 0) 0 []
 | 3,[v]=>v=.slice (some ad) n cap
 | 4,[v]=>W.ownsRow B 5 1 v n (ram.map (Value.int .u8))
 | 5,[v]=>∃ vx vc vr,v=.agg (rawC vx vc vr)∧Nm3 B n ram W vx vc vr
 | 6,[v]=>∃ r cs,v=.pointer (some ⟨r,0,none⟩)∧B≤r∧W.heap[r]?=some (.cells cs 29 (0,0))∧cs.size=14
 | 7,[p]=>∃ r vx vc vr,p=.pointer (some ⟨r,0,none⟩)∧B≤r∧W.heap[r]?=some (.cells (rawC vx vc vr) 29 (0,0))∧Nm3 B n ram W vx vc vr
 | _,_=>True

def nmD:Nat→List Nat
 | 7=>[6]
 | i=>[i]

theorem raw_built3 (ax ac ar:Option Addr) (n cr:Nat):Tryz.prog.built 29 [(0,.int .u64 2147483648),(1,.slice ax 32 32),(2,.int .i64 3),(3,.slice ac 22 22),(4,.slice ar n cr)]=some (rawC (.slice ax 32 32) (.slice ac 22 22) (.slice ar n cr)):=by kernel_rfl

theorem wp_of_wanted {P:Program} {o:Oper} {a:Act} {W:World} {K:Act→World→Prop} {Q:Exit→Act→World→Prop} (ys:Nat→Option Bool) (hw:Region.wanted o ys=true) (h:if Region.wanted o ys=true then Oper.wp P o a W K Q else K (a.put o.dst undef) W):o.wp P a W K Q:=by
 rwa [if_pos hw] at h

theorem own_kept {W W':World} {B n:Nat} {t:TypeId} {v:Value} {xs:List Value} (h:W.ownsRow B t 1 v n xs) (hk:∀ (g:Nat) (cs:Array Value),W.heap[g]?=some (.cells cs t (0,0))→W'.heap[g]?=some (.cells cs t (0,0))):W'.ownsRow B t 1 v n xs:=by
 refine ⟨h.1,?_⟩
 rcases h.2 with h1 | ⟨g,cap,cur,e1,e2,e3,e4⟩
 ·exact .inl h1
 ·exact .inr ⟨g,cap,cur,e1,e2,hk g cur e3,e4⟩

theorem Zs.kept {B m:Nat} {W W':World} {v:Value} (h:Zs B W m v) (hk:∀ (g:Nat) (cs:Array Value),W.heap[g]?=some (.cells cs 24 (0,0))→W'.heap[g]?=some (.cells cs 24 (0,0))):Zs B W' m v:=by
 obtain ⟨a,e,h⟩:=h
 exact ⟨a,e,own_kept h hk⟩

theorem Nm3.kept {B n:Nat} {ram:List Int} {W W':World} {vx vc vr:Value} (h:Nm3 B n ram W vx vc vr) (hk:∀ (g:Nat) (cs:Array Value) (t:TypeId),t≠29→W.heap[g]?=some (.cells cs t (0,0))→W'.heap[g]?=some (.cells cs t (0,0))):Nm3 B n ram W' vx vc vr :=
 ⟨h.x.kept (fun g cs=>hk g cs _ (by decide)),h.c.kept (fun g cs=>hk g cs _ (by decide)),own_kept h.r (fun g cs=>hk g cs _ (by decide))⟩

theorem nmV_kept {B n cap:Nat} {ad:Addr} {ram:List Int} {W W':World} (hk:∀ (g:Nat) (cs:Array Value) (t:TypeId),t≠29→W.heap[g]?=some (.cells cs t (0,0))→W'.heap[g]?=some (.cells cs t (0,0))) (hm:∀ (g:Nat) (cs:Array Value),W.heap[g]?=some (.cells cs 29 (0,0))→∃ ds:Array Value,W'.heap[g]?=some (.cells ds 29 (0,0))∧ds.size=cs.size∧(ds=cs∨∃ vx vc vr,ds=rawC vx vc vr∧Nm3 B n ram W' vx vc vr)) :
 ∀ j l,nmV B n cap ad ram W j l→nmV B n cap ad ram W' j l:=by
 intro j l h
 unfold nmV at h ⊢
 split
 ·exact h.kept (fun g cs=>hk g cs _ (by decide))
 ·exact h.kept (fun g cs=>hk g cs _ (by decide))
 ·obtain ⟨g,e,h⟩:=h
  exact ⟨g,e,own_kept h (fun g cs=>hk g cs _ (by decide))⟩
 ·exact h
 ·exact own_kept h (fun g cs=>hk g cs _ (by decide))
 ·obtain ⟨vx,vc,vr,e,h⟩:=h
  exact ⟨vx,vc,vr,e,h.kept hk⟩
 ·obtain ⟨r,cs,e,hB,hr,hs⟩:=h
  obtain ⟨ds,h1,h2,_⟩:=hm r cs hr
  exact ⟨r,ds,e,hB,h1,by omega⟩
 ·obtain ⟨r,vx,vc,vr,e,hB,hr,hs⟩:=h
  obtain ⟨ds,h1,h2,h3⟩:=hm r _ hr
  rcases h3 with rfl | ⟨vx2,vc2,vr2,rfl,h4⟩
  ·exact ⟨r,vx,vc,vr,e,hB,h1,hs.kept hk⟩
  ·exact ⟨r,vx2,vc2,vr2,e,hB,h1,h4⟩
 ·trivial

theorem nmV_below {B n cap:Nat} {ad:Addr} {ram:List Int} {W W':World} (hb:Below W.heap.size W W'):∀ j l,nmV B n cap ad ram W j l→nmV B n cap ad ram W' j l:=by
 have h:∀ (g:Nat) (o:Obj),W.heap[g]?=some o→W'.heap[g]?=some o:=fun g o e=>by rw [hb.block g (Array.getElem?_eq_some_iff.1 e).1];exact e
 exact nmV_kept (fun g cs t _ e=>h g _ e) (fun g cs e=>⟨cs,h g _ e,rfl,.inl rfl⟩)

theorem nmV_set {B n cap:Nat} {ad:Addr} {ram:List Int} {W:World} {r:Nat} {cs:Array Value} {vx vc vr:Value} (hr:W.heap[r]?=some (.cells cs 29 (0,0))) (hs:cs.size=14) (h3:Nm3 B n ram W vx vc vr) :
 Nm3 B n ram (W.setRow r (rawC vx vc vr)) vx vc vr∧∀ j l,nmV B n cap ad ram W j l→nmV B n cap ad ram (W.setRow r (rawC vx vc vr)) j l:=by
 have hk:∀ (g:Nat) (ds:Array Value) (t:TypeId),t≠29→W.heap[g]?=some (.cells ds t (0,0))→(W.setRow r (rawC vx vc vr)).heap[g]?=some (.cells ds t (0,0)):=by
  intro g ds t ht e
  rw [setRow_other W r g _ (fun e2=>?_)]
  ·exact e
  ·subst e2
   rw [hr] at e
   simp only [Option.some.injEq,Obj.cells.injEq] at e
   exact ht e.2.1.symm
 have h4:=h3.kept hk
 refine ⟨h4,nmV_kept hk (fun g ds e=>?_)⟩
 by_cases hg:g=r
 ·subst hg
  rw [hr] at e
  simp only [Option.some.injEq,Obj.cells.injEq,and_true] at e
  subst e
  exact ⟨_,setRow_heap _ _ _ _ _ _ hr,by rw [hs];rfl,.inr ⟨vx,vc,vr,rfl,h4⟩⟩
 ·exact ⟨ds,by rw [setRow_other W r g _ hg];exact e,rfl,.inl rfl⟩

theorem own_shape3 {B n:Nat} {t:TypeId} {W:World} {v:Value} {xs:List Value} (h:W.ownsRow B t 1 v n xs):∃ a c,v=.slice a n c:=by
 rcases h.2 with ⟨e1,e0⟩ | ⟨g,cap,cur,e1,_⟩
 ·exact ⟨none,0,by rw [e1,e0]⟩
 ·exact ⟨_,_,e1⟩

theorem Nm3.one {B n:Nat} {ram:List Int} {W:World} {vx vc vr:Value} (h:Nm3 B n ram W vx vc vr):(rawC vx vc vr).all (·.oneCell')=true:=by
 obtain ⟨ax,rfl,_⟩:=h.x
 obtain ⟨ac,rfl,_⟩:=h.c
 obtain ⟨ar,cr,rfl⟩:=own_shape3 h.r
 kernel_rfl

theorem own_at {B n c k:Nat} {t:TypeId} {W:World} {a:Option Addr} {xs:List Value} (h:W.ownsRow B t 1 (.slice a n c) n xs) (hk:(Value.slice a n c).ownBlock=some k):∃ cs,W.heap[k]?=some (.cells cs t (0,0))∧cs.size=c:=by
 rcases h.2 with ⟨e1,_⟩ | ⟨g,cap,cur,e1,_,hh,_,_,hs,_⟩
 ·rw [e1] at hk;cases hk
 ·cases e1
  cases hk
  exact ⟨cur,hh,by omega⟩

theorem Nm3.fam {B n:Nat} {ram:List Int} {W:World} {vx vc vr:Value} {r:Nat} {cs:Array Value} (h:Nm3 B n ram W vx vc vr) (hr:W.heap[r]?=some (.cells cs 29 (0,0))) :
 ∃ C:MA,vx=.slice C.ax 32 C.cx∧vc=.slice C.ac 22 C.cc∧vr=.slice C.ar n C.cr∧C.ai=none∧C.ci=0∧C.ao=none∧C.co=0∧Fam B W.heap.size W [wRow C.ax 32 C.cx (List.replicate 32 0),wRow C.ac 22 C.cc (List.replicate 22 0),bRow C.ar n C.cr ram,bRow none 0 0 [],bRow none 0 0 []]∧(∀ q ∈ [wRow C.ax 32 C.cx (List.replicate 32 0),wRow C.ac 22 C.cc (List.replicate 22 0),bRow C.ar n C.cr ram,bRow none 0 0 [],bRow none 0 0 []],q.v.ownBlock≠some r):=by
 obtain ⟨ax,rfl,hx⟩:=h.x
 obtain ⟨ac,rfl,hc⟩:=h.c
 obtain ⟨ar,cr,e⟩:=own_shape3 h.r
 have hb:=h.r
 rw [e] at hb
 have ht:∀ (k:Nat) (cs ds:Array Value) (t u:TypeId),W.heap[k]?=some (.cells cs t (0,0))→W.heap[k]?=some (.cells ds u (0,0))→t=u∧cs=ds:=by
  intro k cs ds t u h1 h2
  rw [h1] at h2
  simp only [Option.some.injEq,Obj.cells.injEq] at h2
  exact ⟨h2.2.1,h2.1⟩
 have kx:=fun k=>own_at (k:=k) hx
 have kc:=fun k=>own_at (k:=k) hc
 have kb:=fun k=>own_at (k:=k) hb
 have lt:∀ (k:Nat) (cs:Array Value) (t:TypeId),W.heap[k]?=some (.cells cs t (0,0))→k < W.heap.size:=fun k cs t h=>(Array.getElem?_eq_some_iff.1 h).1
 refine ⟨⟨ax,32,ac,22,ar,cr,none,0,none,0⟩,rfl,rfl,e,rfl,rfl,rfl,rfl,⟨fun q hq=>?_,fun q hq k ek=>?_,?_⟩,fun q hq er=>?_⟩
 ·simp only [List.mem_cons,List.not_mem_nil,or_false] at hq
  rcases hq with rfl | rfl | rfl | rfl | rfl
  ·exact hx
  ·exact hc
  ·exact hb
  ·exact ⟨rfl,.inl ⟨rfl,rfl⟩⟩
  ·exact ⟨rfl,.inl ⟨rfl,rfl⟩⟩
 ·simp only [List.mem_cons,List.not_mem_nil,or_false] at hq
  rcases hq with rfl | rfl | rfl | rfl | rfl
  ·obtain ⟨_,h1,_⟩:=kx k ek;exact lt _ _ _ h1
  ·obtain ⟨_,h1,_⟩:=kc k ek;exact lt _ _ _ h1
  ·obtain ⟨_,h1,_⟩:=kb k ek;exact lt _ _ _ h1
  ·cases ek
  ·cases ek
 ·simp only [List.pairwise_cons,List.mem_cons,List.not_mem_nil,or_false]
  refine ⟨fun s hs k e1 e2=>?_,fun s hs k e1 e2=>?_,fun s hs k e1 e2=>?_,fun s hs k e1=>(by cases e1),fun s hs=>hs.elim,List.Pairwise.nil⟩
  ·obtain ⟨_,h1,h2⟩:=kx k e1
   rcases hs with rfl | rfl | rfl | rfl
   ·obtain ⟨_,h3,h4⟩:=kc k e2
    rw [(ht _ _ _ _ _ h1 h3).2] at h2
    omega
   ·obtain ⟨_,h3,h4⟩:=kb k e2
    exact absurd (ht _ _ _ _ _ h1 h3).1 (by decide)
   ·cases e2
   ·cases e2
  ·obtain ⟨_,h1,h2⟩:=kc k e1
   rcases hs with rfl | rfl | rfl
   ·obtain ⟨_,h3,h4⟩:=kb k e2
    exact absurd (ht _ _ _ _ _ h1 h3).1 (by decide)
   ·cases e2
   ·cases e2
  ·rcases hs with rfl | rfl
   ·cases e2
   ·cases e2
 ·simp only [List.mem_cons,List.not_mem_nil,or_false] at hq
  rcases hq with rfl | rfl | rfl | rfl | rfl
  ·obtain ⟨_,h1,_⟩:=kx r er;exact absurd (ht _ _ _ _ _ h1 hr).1 (by decide)
  ·obtain ⟨_,h1,_⟩:=kc r er;exact absurd (ht _ _ _ _ _ h1 hr).1 (by decide)
  ·obtain ⟨_,h1,_⟩:=kb r er;exact absurd (ht _ _ _ _ _ h1 hr).1 (by decide)
  ·cases er
  ·cases er

set_option maxRecDepth 100000 in
set_option maxHeartbeats 12800000 in
theorem specNewMachine_any (ad:Option Addr) (n cap:Nat) (ram:List Int) (w:World) (hz:ram.length=n) (hn:n≤1048576) (hs:Sl .u8 w ad ram) :
 Calls Tryz.prog 71 #[.slice ad n cap] w fun e w'=>∃ C:MA,e=.returned (.tuple #[.agg (mvc (newM ram) C),.bool (ramOkB n)])∧Fam w.heap.size w'.heap.size w' (mvF (newM ram) C)∧Below w.heap.size w w':=by
 have B0:Below w.heap.size w (w.alloc (.cells #[.int .u64 0,.slice none 0 0,.int .i64 0,.slice none 0 0,.slice none 0 0,.int .u64 0,.int .u64 0,.bool false,.slice none 0 0,.slice none 0 0,.int .i64 0,.int .u64 0,.bool false,.bool false] 29)):=(Below.refl _ _).alloc (Nat.le_refl _) _
 have rb:(w.alloc (.cells #[.int .u64 0,.slice none 0 0,.int .i64 0,.slice none 0 0,.slice none 0 0,.int .u64 0,.int .u64 0,.bool false,.slice none 0 0,.slice none 0 0,.int .i64 0,.int .u64 0,.bool false,.bool false] 29)).heap[w.heap.size]?=some (.cells #[.int .u64 0,.slice none 0 0,.int .i64 0,.slice none 0 0,.slice none 0 0,.int .u64 0,.int .u64 0,.bool false,.slice none 0 0,.slice none 0 0,.int .i64 0,.int .u64 0,.bool false,.bool false] 29):=heap_alloc_new _ _
 obtain ⟨Q,hQ⟩:∃ Q:World→Prop,Q=fun W=>Below (w.heap.size+1) (w.alloc (.cells #[.int .u64 0,.slice none 0 0,.int .i64 0,.slice none 0 0,.slice none 0 0,.int .u64 0,.int .u64 0,.bool false,.slice none 0 0,.slice none 0 0,.int .i64 0,.int .u64 0,.bool false,.bool false] 29)) W:=⟨_,rfl⟩
 have PB:Hid (∀ W W',Q W→Below W.heap.size W W'→Q W'):=by rw [hQ];exact fun W W' h hb=>h.trans (hb.mono (by have:=h.size;simp only [World.size_alloc] at this;omega))
 have PU:Hid (∀ W g,Q W→w.heap.size+1≤g→∀ cs,Q (W.setRow g cs)):=by rw [hQ];exact fun W g h hg=>below_row9 h hg
 have PE:Hid (∀ W,Q W→Below w.heap.size w W):=by rw [hQ];exact fun W h=>B0.trans (h.mono (by omega))
 have PZ:Hid (∀ W,Q W→w.heap.size+1≤W.heap.size):=by rw [hQ];exact fun W h=>by have:=h.size;simp only [World.size_alloc] at this;omega
 have PR:Hid (∀ W,Q W→W.heap[w.heap.size]?=some (.cells #[.int .u64 0,.slice none 0 0,.int .i64 0,.slice none 0 0,.slice none 0 0,.int .u64 0,.int .u64 0,.bool false,.slice none 0 0,.slice none 0 0,.int .i64 0,.int .u64 0,.bool false,.bool false] 29)):=by rw [hQ];exact fun W h=>(h.block _ (by omega)).trans rb
 have PK:Hid (∀ W W' L B E,Q W→KeepL L W W'→Fam B E W L→w.heap.size+1≤B→Q W'):=by rw [hQ];exact fun W W' L B E h k f hB=>h.trans ((k.keep f).below hB (by have:=h.size;simp only [World.size_alloc] at this;omega))
 have q0:Q (w.alloc (.cells #[.int .u64 0,.slice none 0 0,.int .i64 0,.slice none 0 0,.slice none 0 0,.int .u64 0,.int .u64 0,.bool false,.slice none 0 0,.slice none 0 0,.int .i64 0,.int .u64 0,.bool false,.bool false] 29)):=by rw [hQ];exact Below.refl _ _
 have KS:Hid (∀ w',Q w'→Q w'):=fun w' h=>h
 have HOK:Hid (∀ w,Calls Tryz.prog 52 #[.slice ad n cap] w fun e w'=>e=.returned (.bool (ramOkB n))∧w'=w):=fun w=>specRamOk_any _ _ _ w hn
 have HNC:Hid (∀ w,Calls Tryz.prog 108 #[] w fun e w'=>e=.returned (.slice (some ⟨w.heap.size,0,none⟩) 22 22)∧w'.ownsRow w.heap.size 24 1 (.slice (some ⟨w.heap.size,0,none⟩) 22 22) 22 ((List.replicate 22 (0:Int)).map (Value.int .u64))∧Below w.heap.size w w'):=specNewCsrs_any
 have HLN:Hid (∀ (C:MA) (b B E:Nat) (w':World),w'.heap[b]?=some (.cells #[.int .u64 2147483648,.slice C.ax 32 C.cx,.int .i64 3,.slice C.ac 22 C.cc,.slice C.ar n C.cr,.int .u64 0,.int .u64 0,.bool false,.slice C.ai 0 C.ci,.slice C.ao 0 C.co,.int .i64 0,.int .u64 0,.bool false,.bool false] 29 (0,0))→Fam B E w' (mvF (rawM ram) C)→(∀ q ∈ mvF (rawM ram) C,q.v.ownBlock≠some b)→Calls Tryz.prog 64 #[.pointer (some ⟨b,0,none⟩)] w' fun e w''=>e=.returned (.tuple #[])∧w''.heap[b]?=some (.cells #[.int .u64 2147483648,.slice C.ax 32 C.cx,.int .i64 3,.slice C.ac 22 C.cc,.slice C.ar n C.cr,.int .u64 0,.int .u64 0,.bool false,.slice C.ai 0 C.ci,.slice C.ao 0 C.co,.int .i64 0,.int .u64 0,.bool false,.bool false] 29 (0,0))∧Fam B E w'' (mvF (lineM (rawM ram)) C)∧KeepL (mvF (rawM ram) C) w' w''):=fun C b B E w' hr hf hb=>by
  subst hz
  have h2:=l9Line_any (rawM ram) C b B E w' rfl (raw_len ram hn) hr hf hb
  rw [mvc_line] at h2
  exact h2
 have HMV:Hid (∀ C:MA,mvc (lineM (rawM ram)) C=#[.int .u64 2147483648,.slice C.ax 32 C.cx,.int .i64 3,.slice C.ac 22 C.cc,.slice C.ar n C.cr,.int .u64 0,.int .u64 0,.bool false,.slice C.ai 0 C.ci,.slice C.ao 0 C.co,.int .i64 0,.int .u64 0,.bool false,.bool false]):=fun C=>by subst hz;exact (mvc_line (rawM ram) C).trans rfl
 obtain ⟨V,hV⟩:∃ V,V=newM ram:=⟨_,rfl⟩
 rw [← hV]
 clear hQ rb
 cases hok:ramOkB n with
 | false =>
  have F:Hid (V=zeroM):=by show _=_;rw [hV];unfold newM;rw [hz,hok];rfl
  rw [hok] at HOK
  clear HNC HLN hV HMV hs hz hn hok
  go_enter Tryz.func71,Tryz.ntmps71
  go_wp2_with fail
  refine (HOK.out _).mono ?_
  rintro e w1 ⟨rfl,hw1⟩
  subst hw1
  go_wp2_with fail
  exact bodyPost_ret (results_ct8 Tryz.results71 _ _ _ _ _ _ _ rfl (PR.out _ q0) Tryz.underlying29 rfl mac_size) rfl ⟨zeroA,by rw [F.out];rfl,by rw [F.out];exact fam_zeroM _ _ _,PE.out _ q0⟩
 | true =>
  have F:Hid (V=lineM (rawM ram)):=by show _=_;rw [hV];unfold newM;rw [hz,hok];rfl
  have hpos:=ramOk_pos hok
  rw [hok] at HOK
  have HN:Hid (ram.length=n∧0 < n∧n≤1048576):=⟨hz,hpos,hn⟩
  obtain ⟨ad0,rfl⟩:∃ x,ad=some x:=by
   obtain ⟨b,off,e,_⟩:=hs 0 (by omega)
   exact ⟨_,e⟩
  have HSL:Hid (∀ W,Below w.heap.size w W→Sl .u8 W (some ad0) ram):=fun W hb=>hs.below hb
  clear hs hz hn hok hpos hV
  go_enter Tryz.func71,Tryz.ntmps71
  go_wp2_with fail
  refine (HOK.out _).mono ?_
  rintro e w1 ⟨rfl,hw1⟩
  subst hw1
  go_wp2_with fail
  go_cut [4] from 5 (fun y wc=>∃ (r:Nat) (C:MA),y=.pointer (some ⟨r,0,none⟩)∧Hid (wc.heap[r]?=some (.cells #[.int .u64 2147483648,.slice C.ax 32 C.cx,.int .i64 3,.slice C.ac 22 C.cc,.slice C.ar n C.cr,.int .u64 0,.int .u64 0,.bool false,.slice none 0 0,.slice none 0 0,.int .i64 0,.int .u64 0,.bool false,.bool false] 29 (0,0))∧Fam (w.heap.size+1) wc.heap.size wc ([wRow C.ax 32 C.cx (List.replicate 32 0),wRow C.ac 22 C.cc (List.replicate 22 0),bRow C.ar n C.cr ram,bRow none 0 0 [],bRow none 0 0 []])∧(∀ q ∈ [wRow C.ax 32 C.cx (List.replicate 32 0),wRow C.ac 22 C.cc (List.replicate 22 0),bRow C.ar n C.cr ram,bRow none 0 0 [],bRow none 0 0 []],q.v.ownBlock≠some r)∧w.heap.size+1≤r∧Q wc)∧C.ai=none∧C.ci=0∧C.ao=none∧C.co=0)
  case first =>
   have p0:=PB.out _ _ q0 (Below.refl _ _).drew
   refine wp_region_lin (by kernel_rfl) nmD (fun j l W=>nmV (w.heap.size+1) n cap ad0 ram W j l) Q (by kernel_rfl) p0 ?_ ?_
   ·intro i o ho a W hq hoff hsz hd
    rcases i with _ | _ | _ | _ | _ | _ | _ | _ | i
    ·obtain rfl:=Option.some.inj ho
     refine wp_of_wanted (fun _=>none) (by rfl) (wpH_make (by rfl) 32 (.const (.int .i64 32)) (.const (.int .i64 32)) rfl rfl rfl (by omega) ?_)
     intro W' ow hb
     exact ⟨_,rfl,⟨_,rfl,own_low ow (PZ.out _ hq)⟩,PB.out _ _ hq hb,nmV_below hb⟩
    ·obtain rfl:=Option.some.inj ho
     go_simp
     refine (HNC.out _).mono ?_
     rintro e W' ⟨rfl,ow,hb⟩
     exact ⟨_,rfl,⟨_,rfl,own_low ow (PZ.out _ hq)⟩,PB.out _ _ hq hb,nmV_below hb⟩
    ·obtain rfl:=Option.some.inj ho
     have hb:Below W.heap.size W (W.alloc (.cells #[] 5 (0,0))):=(Below.refl _ _).alloc (Nat.le_refl _) _
     go_simp
     exact ⟨_,rfl,⟨_,rfl,own_low (own_empty8 W _ (Nat.le_refl _) _ rfl) (Nat.zero_le _)⟩,PB.out _ _ hq hb,nmV_below hb⟩
    ·obtain rfl:=Option.some.inj ho
     have e0:a.tmps[0]?=some (.slice (some ad0) n cap):=hoff 0 (by kernel_rfl)
     refine wp_val (v:=.slice (some ad0) n cap) ?_ ⟨_,rfl,rfl,hq,fun _ _ h=>h⟩
     simp [execOp,Act.eval,Array.getD_eq_getD_getElem?,e0]
    ·obtain rfl:=Option.some.inj ho
     obtain ⟨g,e2,ol⟩:=hd 2 (by decide) (by kernel_rfl)
     have e3:=hd 3 (by decide) (by kernel_rfl)
     refine wp_of_wanted (fun _=>none) (by rfl) (wpH_app8 (by rfl) (.tmp 11) (.tmp 12) rfl g e2 ad0 n cap ram e3 ol HN.out.1 HN.out.2.1 HN.out.2.2 (HSL.out _ (PE.out _ hq)) ?_)
     intro k W' ow hb
     exact ⟨_,rfl,own_low ow (PZ.out _ hq),PB.out _ _ hq hb,nmV_below hb⟩
    ·obtain rfl:=Option.some.inj ho
     have h0:=hd 0 (by decide) (by kernel_rfl)
     have h1:=hd 1 (by decide) (by kernel_rfl)
     have h4:=hd 4 (by decide) (by kernel_rfl)
     obtain ⟨ax,ex,hx⟩:=h0
     obtain ⟨ac,ec,hc⟩:=h1
     obtain ⟨ar,cr,er⟩:=own_shape3 h4
     refine wp_val (v:=.agg (rawC (.slice ax 32 32) (.slice ac 22 22) (.slice ar n cr))) (yields_build _ _ rfl [(0,.int .u64 2147483648),(1,.slice ax 32 32),(2,.int .i64 3),(3,.slice ac 22 22),(4,.slice ar n cr)] ?_ _ (raw_built3 _ _ _ _ _)) ⟨_,rfl,⟨_,_,_,rfl,⟨?_,?_,?_⟩⟩,hq,fun _ _ h=>h⟩
     ·rw [← ex,← ec,← er]
      rfl
     ·exact ⟨_,rfl,hx⟩
     ·exact ⟨_,rfl,hc⟩
     ·rw [← er];exact h4
    ·obtain rfl:=Option.some.inj ho
     go_simp
     exact ⟨_,rfl,⟨W.heap.size,_,rfl,PZ.out _ hq,heap_alloc_new _ _,rfl⟩,PB.out _ _ hq ((Below.refl _ _).alloc (Nat.le_refl _) _),nmV_below ((Below.refl _ _).alloc (Nat.le_refl _) _)⟩
    ·obtain rfl:=Option.some.inj ho
     obtain ⟨vx,vc,vr,e5,h3⟩:=hd 5 (by decide) (by kernel_rfl)
     obtain ⟨r,cs,e6,hB,hr,hs⟩:=hd 6 (by decide) (by kernel_rfl)
     obtain ⟨h4,h5⟩:=nmV_set (cap:=cap) (ad:=ad0) hr hs h3
     refine wp_store_row 29 (.tmp 4) (.tmp 14) rfl r (rawC vx vc vr) e6 e5 _ cs hr mac_size hs h3.one ?_
     exact ⟨_,rfl,⟨r,vx,vc,vr,e6,hB,setRow_heap _ _ _ _ _ _ hr,h4⟩,PU.out _ r hq hB _,h5⟩
    ·cases ho
   ·intro a W hq hoff hsz hdf hv
    obtain ⟨u4,g4⟩:=slot_some hsz 4 (by rfl)
    obtain ⟨u9,g9⟩:=slot_some hsz 9 (by rfl)
    obtain ⟨u10,g10⟩:=slot_some hsz 10 (by rfl)
    obtain ⟨u11,g11⟩:=slot_some hsz 11 (by rfl)
    obtain ⟨u12,g12⟩:=slot_some hsz 12 (by rfl)
    obtain ⟨u13,g13⟩:=slot_some hsz 13 (by rfl)
    obtain ⟨u14,g14⟩:=slot_some hsz 14 (by rfl)
    obtain ⟨r,vx,vc,vr,e6,hB,hr,h3⟩:=hv 7 (by decide)
    have e6':u4=.pointer (some ⟨r,0,none⟩):=by
     rw [← e6]
     show u4=a.tmps.getD 4 undef
     rw [Array.getD_eq_getD_getElem?,g4]
     rfl
    subst e6'
    obtain ⟨C,rfl,rfl,rfl,ai,ci,ao,co,hf,hn⟩:=h3.fam hr
    have ha:=act_lit (a:=a) (l:=[.slice (some ad0) n cap,undef,.pointer (some ⟨w.heap.size,0,none⟩),.bool false,.pointer (some ⟨r,0,none⟩),.slice (some ad0) n cap,.bool true,.bool false,undef,u9,u10,u11,u12,u13,u14,undef,undef]) hsz (fun i hi=>?_) hdf
    ·subst ha
     clear hv hoff hsz hdf g4 g9 g10 g11 g12 g13 g14 e6
     go_wp2_with fail
     go_meet
     exact ⟨r,C,rfl,⟨hr,hf,hn,hB,hq⟩,ai,ci,ao,co⟩
    ·rcases i with _ | _ | _ | _ | _ | _ | _ | _ | _ | _ | _ | _ | _ | _ | _ | _ | _ | i
     all_goals first | assumption | exact hoff _ (by kernel_rfl) | (simp at hi;omega)
  case rest =>
   obtain ⟨r,C,rfl,LI,cai,cci,cao,cco⟩:=hcut
   have LJ:Hid (wc.heap[r]?=some (.cells #[.int .u64 2147483648,.slice C.ax 32 C.cx,.int .i64 3,.slice C.ac 22 C.cc,.slice C.ar n C.cr,.int .u64 0,.int .u64 0,.bool false,.slice C.ai 0 C.ci,.slice C.ao 0 C.co,.int .i64 0,.int .u64 0,.bool false,.bool false] 29 (0,0))∧Fam (w.heap.size+1) wc.heap.size wc (mvF (rawM ram) C)∧(∀ q ∈ mvF (rawM ram) C,q.v.ownBlock≠some r)∧w.heap.size+1≤r∧Q wc):=by
    have h:=LI.out
    obtain ⟨ax,cx,ac,cc,ar,cr,ai,ci,ao,co⟩:=C
    dsimp only at cai cci cao cco h
    subst cai
    subst cci
    subst cao
    subst cco
    have hn2:=HN.out.1
    subst hn2
    exact h
   obtain ⟨row,fam,ne,hr,qc⟩:=LJ.out
   clear LI LJ cai cci cao cco
   go_wp2_with fail
   refine (HLN.out C r _ _ _ row fam ne).mono ?_
   rintro e w3 ⟨rfl,row3,fm3,kp3⟩
   have q3:Q w3:=PK.out _ _ _ _ _ qc kp3 fam (Nat.le_refl _)
   have Z3:=dhid kp3.size
   have nd1:¬ r=w.heap.size:=by omega
   have nd2:¬ w.heap.size=r:=by omega
   clear kp3 row fam ne
   obtain ⟨a0,a1,a2,a3,a4,a5,a6,a7,a8,a9,a10,a11,a12,a13⟩:=cells14 row3
   obtain ⟨s0,s1,s2,s3,s4,s5,s6,s7,s8,s9,s10,s11,s12,s13⟩:=cells14 (PR.out _ q3)
   obtain ⟨y0,y1,y2,y3,y4,y5,y6,y7,y8,y9,y10,y11,y12,y13⟩:=froz14 (PR.out _ q3)
   go_wp2_with fail
   exact bodyPost_ret (results_ct8 Tryz.results71 _ _ _ _ _ _ _ rfl (row_put14 (PR.out _ q3) (.int .u64 2147483648) (.slice C.ax 32 C.cx) (.int .i64 3) (.slice C.ac 22 C.cc) (.slice C.ar n C.cr) (.int .u64 0) (.int .u64 0) (.bool false) (.slice C.ai 0 C.ci) (.slice C.ao 0 C.co) (.int .i64 0) (.int .u64 0) (.bool false) (.bool false)) Tryz.underlying29 rfl mac_size) rfl ⟨C,by rw [F.out,HMV.out];rfl,by rw [F.out];exact (fm3.put14 w.heap.size (.inl (by omega)) (.int .u64 2147483648) (.slice C.ax 32 C.cx) (.int .i64 3) (.slice C.ac 22 C.cc) (.slice C.ar n C.cr) (.int .u64 0) (.int .u64 0) (.bool false) (.slice C.ai 0 C.ci) (.slice C.ao 0 C.co) (.int .i64 0) (.int .u64 0) (.bool false) (.bool false)).low (by omega) (by have:=Z3.out;simp only [size_set];omega),below_put14 (PE.out _ q3) (Nat.le_refl _) (.int .u64 2147483648) (.slice C.ax 32 C.cx) (.int .i64 3) (.slice C.ac 22 C.cc) (.slice C.ar n C.cr) (.int .u64 0) (.int .u64 0) (.bool false) (.slice C.ai 0 C.ci) (.slice C.ao 0 C.co) (.int .i64 0) (.int .u64 0) (.bool false) (.bool false)⟩

def Rg (w0:World) (g:Nat) (a:Option Addr) (n cap:Nat) (w wr:World):Prop :=
 ∃ zs:List Int,(∀ j,U (zs.getD j 0))∧wr.ownsRow w.heap.size 24 1 (.slice (some ⟨w.heap.size,0,none⟩) 22 22) 22 (zs.map (Value.int .u64))∧Cs w0 g a n cap w wr∧g < w.heap.size

theorem Rg.next {w0:World} {g:Nat} {a:Option Addr} {n cap:Nat} {w wr wx:World} (h:Rg w0 g a n cap w wr) (k:Cs w0 g a n cap wr wx):Rg w0 g a n cap w wx:=by
 obtain ⟨zs,hu,ho,hc,hg⟩:=h
 refine ⟨zs,hu,kept_of ho k.2 ?_,hc.trans k,hg⟩
 intro j hj hne
 simp [Value.ownBlock] at hj hne
 omega

theorem Rg.cur {w0:World} {g:Nat} {a:Option Addr} {n cap:Nat} {w wr:World} (h:Rg w0 g a n cap w wr):Cur w0 wr g a n cap:=by
 obtain ⟨zs,hu,ho,hc,hg⟩:=h
 exact hc.1

theorem getD_set (zs:List Int) (k j:Nat) (y:Int) (hu:∀ j,U (zs.getD j 0)) (hy:U y):U ((zs.set k y).getD j 0):=by
 by_cases hkj:k=j
 ·subst hkj
  by_cases hl:k < zs.length
  ·have e:(zs.set k y).getD k 0=y:=by simp [List.getD,hl]
   rw [e];exact hy
  ·have e:(zs.set k y).getD k 0=0:=by simp [List.getD,hl]
   rw [e];constructor<;>decide
 ·have e:(zs.set k y).getD j 0=zs.getD j 0:=by simp [List.getD,hkj]
  rw [e];exact hu j

theorem Rg.put {w0:World} {g:Nat} {a:Option Addr} {n cap:Nat} {w wr:World} (h:Rg w0 g a n cap w wr) (k:Nat) (y:Int) (hy:U y):Rg w0 g a n cap w (wr.setCell ⟨w.heap.size,k,none⟩ (.int .u64 y)):=by
 obtain ⟨zs,hu,ho,hc,hg⟩:=h
 have hst:=ho.stored k (.int .u64 y)
 rw [map_set_u64] at hst
 refine ⟨zs.set k y,fun j=>getD_set zs k j y hu hy,hst.1,⟨?_,?_⟩,hg⟩
 ·obtain ⟨i,x,hi,hrow⟩:=hc.1.row
  refine ⟨hc.1.new,hc.1.below.setCell ?_ _,i,x,hi,?_⟩
  ·show w0.heap.size≤w.heap.size
   have:=hc.1.new;omega
  ·rw [heap_setCell_other _ _ _ _ (by show g≠w.heap.size;omega)];exact hrow
 ·refine ⟨hc.2.os,hc.2.tape,hc.2.output,by simpa [World.setCell] using hc.2.size,fun j hj hne=>?_⟩
  rw [heap_setCell_other _ _ _ _ (by show j≠w.heap.size;omega)]
  exact hc.2.block j hj hne

theorem Rg.cell {w0:World} {g:Nat} {a:Option Addr} {n cap:Nat} {w wr:World} (h:Rg w0 g a n cap w wr) (k:Nat) (hk:k < 22):∃ v,U v∧wr.cell? ⟨w.heap.size,k,none⟩=some (.int .u64 v)∧wr.frozen? ⟨w.heap.size,k,none⟩=false:=by
 obtain ⟨zs,hu,ho,hc,hg⟩:=h
 have hl:zs.length=22:=by have:=ho.1;simpa using this
 obtain ⟨b,off,e,_,hcl⟩:=own_sl ho k (by omega)
 simp only [Option.some.injEq,Addr.mk.injEq,and_true] at e
 obtain ⟨rfl,rfl⟩:=e
 rw [Nat.zero_add] at hcl
 exact ⟨_,hu k,hcl,ho.frozenAt k⟩

theorem U_legal (p x:Int) (h:U x):U (legal p x):=by
 unfold legal
 split
 ·unfold mst;split<;>exact U_bits _ _ _
 ·split
  ·exact U_bits _ _ _
  ·split
   ·exact U_bits _ _ _
   ·split
    ·exact U_bits _ _ _
    ·split
     ·exact U_bits _ _ _
     ·split
      ·exact U_bits _ _ _
      ·split
       ·exact U_bits _ _ _
       ·split
        ·exact U_bits _ _ _
        ·split
         ·exact U_bits _ _ _
         ·exact h

theorem U0:U 0:=⟨by decide,by decide⟩

theorem zeros_at (m j:Nat):(List.replicate m (0:Int)).getD j 0=0:=by
 by_cases hj:j < m
 ·simp [List.getD,hj]
 ·simp [List.getD,hj]

theorem zeros_U (j:Nat):U ((List.replicate 22 (0:Int)).getD j 0):=by
 rw [zeros_at];exact U0

theorem l4Legal_U (p x:Int) (h:U x) (w:World):Calls Tryz.prog 109 #[.int .i64 p,.int .u64 x] w fun e w'=>∃ v,e=.returned (.int .u64 v)∧Hid (U v)∧w'=w :=
 (l4Legal_any p x w).mono fun e w' h2=>⟨_,h2.1,U_legal p x h,h2.2⟩

set_option maxRecDepth 20000 in
set_option maxHeartbeats 6400000 in
theorem l4DrawCsrs_c {w0:World} {g:Nat} {a:Option Addr} {n cap:Nat} {zs:List Int} (hcd:Code w0 a n zs) (w:World) (hc:Cur w0 w g a n cap) :
 Calls Tryz.prog 73 #[.pointer (some ⟨g,0,none⟩)] w fun e w'=>e=.returned (.slice (some ⟨w.heap.size,0,none⟩) 22 22)∧Hid (Rg w0 g a n cap w w'):=by
 have HD:Hid (Code w0 a n zs):=hcd
 have HC:Hid (Cur w0 w g a n cap):=hc
 clear hcd hc
 go_enter Tryz.func73,Tryz.ntmps73
 go_wp2_with fail
 refine (specNewCsrs_any _).mono ?_
 rintro e w1 ⟨rfl,ho1,hb1⟩
 have R1:Hid (Rg w0 g a n cap w w1):=⟨List.replicate 22 0,zeros_U,ho1,Cs.of_below HC.out hb1,HC.out.lt⟩
 clear ho1 hb1
 go_wp2_with fail
 refine (l1Below_c HD.out 16 (by omega) _ R1.out.cur).mono ?_
 rintro e w2 ⟨m,rfl,⟨hm0,hm1⟩,hs2⟩
 have R2:Hid (Rg w0 g a n cap w w2):=R1.out.next hs2.out
 obtain ⟨mm,rfl⟩:=Int.eq_ofNat_of_zero_le hm0
 clear R1 hs2
 go_wp2_with fail
 go_loopw [4] (fun i wr=>∃ k:Nat,k≤16∧i=.int .i64 k∧Hid (Rg w0 g a n cap w wr)) (fun i _=>(intOf i).toNat)
 case atStart=>exact ⟨mm,by omega,rfl,R2⟩
 case round =>
  obtain ⟨k,hk,rfl,hR⟩:=hrel
  by_cases hlt:0 < k
  ·go_wp2_with fail
   refine (l1Below_c HD.out 22 (by omega) _ hR.out.cur).mono ?_
   rintro e w3 ⟨p,rfl,⟨hp0,hp1⟩,hs3⟩
   have R3:Hid (Rg w0 g a n cap w w3):=hR.out.next hs3.out
   obtain ⟨pp,rfl⟩:=Int.eq_ofNat_of_zero_le hp0
   clear hs3 hR
   go_wp2_with fail
   refine (l1DrawWord_c HD.out _ R3.out.cur).mono ?_
   rintro e w4 ⟨x,rfl,hx,hs4⟩
   have R4:Hid (Rg w0 g a n cap w w4):=R3.out.next hs4.out
   have HX:Hid (U x):=hx
   clear hs4 R3 hx
   obtain ⟨j,rfl⟩:∃ j,k=j+1:=⟨k - 1,by omega⟩
   by_cases h4:pp=4∨pp=10
   ·rcases h4 with rfl | rfl
    ·go_wp2_with fail
     refine (l1Below_c HD.out 512 (by omega) _ R4.out.cur).mono ?_
     rintro e w5 ⟨y,rfl,⟨hy0,hy1⟩,hs5⟩
     have R5:Hid (Rg w0 g a n cap w w5):=R4.out.next hs5.out
     clear hs5 R4
     go_wp2_with fail
     refine (l1Below_c HD.out 2 (by omega) _ R5.out.cur).mono ?_
     rintro e w6 ⟨z,rfl,⟨hz0,hz1⟩,hs6⟩
     have R6:Hid (Rg w0 g a n cap w w6):=R5.out.next hs6.out
     clear hs6 R5 HX
     obtain ⟨v9,_,hc9,hf9⟩:=R6.out.cell 4 (by omega)
     go_wp2_with fail
     refine (l4Legal_U _ _ ?_ _).mono ?_
     ·first | exact U_wrap _ | (constructor<;>omega)
     rintro e wl ⟨lv,rfl,HLV,hwl⟩
     have hwl2:=hwl.symm
     subst hwl2
     go_wp2_with fail
     go_roundw
     case rel=>exact ⟨j,by omega,by go_num,R6.out.put 4 _ HLV.out⟩
     case measure=>simp [intOf]
    ·go_wp2_with fail
     refine (l1Below_c HD.out 512 (by omega) _ R4.out.cur).mono ?_
     rintro e w5 ⟨y,rfl,⟨hy0,hy1⟩,hs5⟩
     have R5:Hid (Rg w0 g a n cap w w5):=R4.out.next hs5.out
     clear hs5 R4
     go_wp2_with fail
     refine (l1Below_c HD.out 2 (by omega) _ R5.out.cur).mono ?_
     rintro e w6 ⟨z,rfl,⟨hz0,hz1⟩,hs6⟩
     have R6:Hid (Rg w0 g a n cap w w6):=R5.out.next hs6.out
     clear hs6 R5 HX
     obtain ⟨v9,_,hc9,hf9⟩:=R6.out.cell 10 (by omega)
     go_wp2_with fail
     refine (l4Legal_U _ _ ?_ _).mono ?_
     ·first | exact U_wrap _ | (constructor<;>omega)
     rintro e wl ⟨lv,rfl,HLV,hwl⟩
     have hwl2:=hwl.symm
     subst hwl2
     go_wp2_with fail
     go_roundw
     case rel=>exact ⟨j,by omega,by go_num,R6.out.put 10 _ HLV.out⟩
     case measure=>simp [intOf]
   by_cases h16:pp=16
   ·subst h16
    go_wp2_with fail
    go_loopw [6,7] (fun y i wx=>∃ (q:Nat) (v:Int),q≤4∧y=.int .u64 v∧U v∧i=.int .i64 q∧Hid (Rg w0 g a n cap w wx)) (fun _ i _=>4 - (intOf i).toNat)
    case atStart=>exact ⟨0,0,by omega,rfl,U0,rfl,R4⟩
    case round =>
     obtain ⟨q,v,hq,rfl,hv,rfl,hR⟩:=hrel
     have HVV:Hid (U v):=hv
     clear hv
     by_cases hq4:q < 4
     ·go_wp2_with fail
      have HA:=Cs.alloc hR.out.cur (.cells #[.int .u64 0,.int .u64 15,.int .u64 31,.int .u64 27,.int .u64 25,.int .u64 7,.int .u64 24,.int .u64 159,.int .u64 143,.int .u64 153] 24)
      refine (l1Below_c HD.out 10 (by omega) _ HA.1).mono ?_
      rintro e w5 ⟨y,rfl,⟨hy0,hy1⟩,hs5⟩
      obtain ⟨yy,rfl⟩:=Int.eq_ofNat_of_zero_le hy0
      obtain ⟨v2,hv2,hcell⟩:=few_words [0,15,31,27,25,7,24,159,143,153] 24 (hs5.out.keep (heap_alloc_new _ _) (Nat.ne_of_gt hR.out.cur.lt)) (by intro x hx;simp at hx;constructor<;>omega) (k:=yy) (by simp;omega)
      have R5:Hid (Rg w0 g a n cap w w5):=(hR.out.next HA).next hs5.out
      clear hs5 hR HA hv2
      go_wp2_with fail
      go_roundw
      case rel=>exact ⟨q+1,_,by omega,rfl,U_bits _ _ _,by go_num,R5⟩
      case measure=>simp [intOf];omega
     ·go_wp2_with fail
      refine (l1Once_c HD.out 3 (by omega) _ hR.out.cur).mono ?_
      rintro e w5 ⟨c,rfl,hs5⟩
      have R5:Hid (Rg w0 g a n cap w w5):=hR.out.next hs5.out
      clear hs5 hR
      cases c with
      | true =>
       obtain ⟨v9,_,hc9,hf9⟩:=R5.out.cell 16 (by omega)
       go_wp2_with fail
       refine (l4Legal_U _ _ ?_ _).mono ?_
       ·first | exact HVV.out | exact U_bits _ _ _
       rintro e wl ⟨lv,rfl,HLV,hwl⟩
       have hwl2:=hwl.symm
       subst hwl2
       go_wp2_with fail
       go_roundw
       case rel=>exact ⟨j,by omega,by go_num,R5.out.put 16 _ HLV.out⟩
       case measure=>simp [intOf]
       | false =>
        obtain ⟨v9,_,hc9,hf9⟩:=R5.out.cell 16 (by omega)
        go_wp2_with fail
        refine (l4Legal_U _ _ ?_ _).mono ?_
        ·first | exact U_bits _ _ _ | exact HVV.out
        rintro e wl ⟨lv,rfl,HLV,hwl⟩
        have hwl2:=hwl.symm
        subst hwl2
        go_wp2_with fail
        go_roundw
        case rel=>exact ⟨j,by omega,by go_num,R5.out.put 16 _ HLV.out⟩
        case measure=>simp [intOf]
   by_cases h17:pp=17∨pp=18∨pp=19∨pp=20
   ·rcases h17 with rfl | rfl | rfl | rfl
    ·go_wp2_with fail
     refine (l1Below_c HD.out 2048 (by omega) _ R4.out.cur).mono ?_
     rintro e w5 ⟨y,rfl,⟨hy0,hy1⟩,hs5⟩
     have R5:Hid (Rg w0 g a n cap w w5):=R4.out.next hs5.out
     clear hs5 R4
     go_wp2_with fail
     refine (l1Once_c HD.out 2 (by omega) _ R5.out.cur).mono ?_
     rintro e w6 ⟨c,rfl,hs6⟩
     have R6:Hid (Rg w0 g a n cap w w6):=R5.out.next hs6.out
     clear hs6 R5 HX
     cases c with
     | _ =>
      go_wp2_with fail
      refine (l1Once_c HD.out 3 (by omega) _ R6.out.cur).mono ?_
      rintro e w7 ⟨c,rfl,hs7⟩
      have R7:Hid (Rg w0 g a n cap w w7):=R6.out.next hs7.out
      clear hs7 R6
      cases c with
      | _ =>
       obtain ⟨v9,_,hc9,hf9⟩:=R7.out.cell 17 (by omega)
       go_wp2_with fail
       refine (l4Legal_U _ _ ?_ _).mono ?_
       ·first | exact U_wrap _ | (constructor<;>omega)
       rintro e wl ⟨lv,rfl,HLV,hwl⟩
       have hwl2:=hwl.symm
       subst hwl2
       go_wp2_with fail
       go_roundw
       case rel=>exact ⟨j,by omega,by go_num,R7.out.put 17 _ HLV.out⟩
       case measure=>simp [intOf]
    ·go_wp2_with fail
     refine (l1Below_c HD.out 2048 (by omega) _ R4.out.cur).mono ?_
     rintro e w5 ⟨y,rfl,⟨hy0,hy1⟩,hs5⟩
     have R5:Hid (Rg w0 g a n cap w w5):=R4.out.next hs5.out
     clear hs5 R4
     go_wp2_with fail
     refine (l1Once_c HD.out 2 (by omega) _ R5.out.cur).mono ?_
     rintro e w6 ⟨c,rfl,hs6⟩
     have R6:Hid (Rg w0 g a n cap w w6):=R5.out.next hs6.out
     clear hs6 R5 HX
     cases c with
     | _ =>
      go_wp2_with fail
      refine (l1Once_c HD.out 3 (by omega) _ R6.out.cur).mono ?_
      rintro e w7 ⟨c,rfl,hs7⟩
      have R7:Hid (Rg w0 g a n cap w w7):=R6.out.next hs7.out
      clear hs7 R6
      cases c with
      | _ =>
       obtain ⟨v9,_,hc9,hf9⟩:=R7.out.cell 18 (by omega)
       go_wp2_with fail
       refine (l4Legal_U _ _ ?_ _).mono ?_
       ·first | exact U_wrap _ | (constructor<;>omega)
       rintro e wl ⟨lv,rfl,HLV,hwl⟩
       have hwl2:=hwl.symm
       subst hwl2
       go_wp2_with fail
       go_roundw
       case rel=>exact ⟨j,by omega,by go_num,R7.out.put 18 _ HLV.out⟩
       case measure=>simp [intOf]
    ·go_wp2_with fail
     refine (l1Below_c HD.out 2048 (by omega) _ R4.out.cur).mono ?_
     rintro e w5 ⟨y,rfl,⟨hy0,hy1⟩,hs5⟩
     have R5:Hid (Rg w0 g a n cap w w5):=R4.out.next hs5.out
     clear hs5 R4
     go_wp2_with fail
     refine (l1Once_c HD.out 2 (by omega) _ R5.out.cur).mono ?_
     rintro e w6 ⟨c,rfl,hs6⟩
     have R6:Hid (Rg w0 g a n cap w w6):=R5.out.next hs6.out
     clear hs6 R5 HX
     cases c with
     | _ =>
      go_wp2_with fail
      refine (l1Once_c HD.out 3 (by omega) _ R6.out.cur).mono ?_
      rintro e w7 ⟨c,rfl,hs7⟩
      have R7:Hid (Rg w0 g a n cap w w7):=R6.out.next hs7.out
      clear hs7 R6
      cases c with
      | _ =>
       obtain ⟨v9,_,hc9,hf9⟩:=R7.out.cell 19 (by omega)
       go_wp2_with fail
       refine (l4Legal_U _ _ ?_ _).mono ?_
       ·first | exact U_wrap _ | (constructor<;>omega)
       rintro e wl ⟨lv,rfl,HLV,hwl⟩
       have hwl2:=hwl.symm
       subst hwl2
       go_wp2_with fail
       go_roundw
       case rel=>exact ⟨j,by omega,by go_num,R7.out.put 19 _ HLV.out⟩
       case measure=>simp [intOf]
    ·go_wp2_with fail
     refine (l1Below_c HD.out 2048 (by omega) _ R4.out.cur).mono ?_
     rintro e w5 ⟨y,rfl,⟨hy0,hy1⟩,hs5⟩
     have R5:Hid (Rg w0 g a n cap w w5):=R4.out.next hs5.out
     clear hs5 R4
     go_wp2_with fail
     refine (l1Once_c HD.out 2 (by omega) _ R5.out.cur).mono ?_
     rintro e w6 ⟨c,rfl,hs6⟩
     have R6:Hid (Rg w0 g a n cap w w6):=R5.out.next hs6.out
     clear hs6 R5 HX
     cases c with
     | _ =>
      go_wp2_with fail
      refine (l1Once_c HD.out 3 (by omega) _ R6.out.cur).mono ?_
      rintro e w7 ⟨c,rfl,hs7⟩
      have R7:Hid (Rg w0 g a n cap w w7):=R6.out.next hs7.out
      clear hs7 R6
      cases c with
      | _ =>
       obtain ⟨v9,_,hc9,hf9⟩:=R7.out.cell 20 (by omega)
       go_wp2_with fail
       refine (l4Legal_U _ _ ?_ _).mono ?_
       ·first | exact U_wrap _ | (constructor<;>omega)
       rintro e wl ⟨lv,rfl,HLV,hwl⟩
       have hwl2:=hwl.symm
       subst hwl2
       go_wp2_with fail
       go_roundw
       case rel=>exact ⟨j,by omega,by go_num,R7.out.put 20 _ HLV.out⟩
       case measure=>simp [intOf]
   by_cases h15:pp=15
   ·subst h15
    go_wp2_with fail
    refine (l1Below_c HD.out 2 (by omega) _ R4.out.cur).mono ?_
    rintro e w5 ⟨y,rfl,⟨hy0,hy1⟩,hs5⟩
    have R5:Hid (Rg w0 g a n cap w w5):=R4.out.next hs5.out
    clear hs5 R4
    go_wp2_with fail
    refine (l1Below_c HD.out 2 (by omega) _ R5.out.cur).mono ?_
    rintro e w6 ⟨z,rfl,⟨hz0,hz1⟩,hs6⟩
    have R6:Hid (Rg w0 g a n cap w w6):=R5.out.next hs6.out
    clear hs6 R5 HX
    obtain ⟨v9,_,hc9,hf9⟩:=R6.out.cell 15 (by omega)
    go_wp2_with fail
    refine (l4Legal_U _ _ ?_ _).mono ?_
    ·first | exact U_wrap _ | (constructor<;>omega)
    rintro e wl ⟨lv,rfl,HLV,hwl⟩
    have hwl2:=hwl.symm
    subst hwl2
    go_wp2_with fail
    go_roundw
    case rel=>exact ⟨j,by omega,by go_num,R6.out.put 15 _ HLV.out⟩
    case measure=>simp [intOf]
   have d4:((pp:Int)==4)=false:=by simp;omega
   have d10:((pp:Int)==10)=false:=by simp;omega
   have d16:((pp:Int)==16)=false:=by simp;omega
   have d17:((pp:Int)==17)=false:=by simp;omega
   have d18:((pp:Int)==18)=false:=by simp;omega
   have d19:((pp:Int)==19)=false:=by simp;omega
   have d20:((pp:Int)==20)=false:=by simp;omega
   have d15:((pp:Int)==15)=false:=by simp;omega
   by_cases h9:pp=9
   ·subst h9
    clear h4 h16 h17 h15
    obtain ⟨v9,_,hc9,hf9⟩:=R4.out.cell 9 (by omega)
    go_wp2_with fail
    go_roundw
    case rel=>exact ⟨j,by omega,by go_num,R4.out.put 9 _ (U_bits _ _ _)⟩
    case measure=>simp [intOf]
   ·have d9:((pp:Int)==9)=false:=by simp;omega
    have hp22:pp < 22:=by omega
    clear h4 h16 h17 h15 h9
    obtain ⟨v9,_,hc9,hf9⟩:=R4.out.cell pp (by omega)
    go_wp2_with fail
    refine (l4Legal_U _ _ ?_ _).mono ?_
    ·exact HX.out
    rintro e wl ⟨lv,rfl,HLV,hwl⟩
    have hwl2:=hwl.symm
    subst hwl2
    go_wp2_with fail
    go_roundw
    case rel=>exact ⟨j,by omega,by go_num,R4.out.put pp _ HLV.out⟩
    case measure=>simp [intOf]
  ·have hk0:k=0:=by omega
   subst hk0
   go_wp2_with fail
   go_ret
   exact ⟨rfl,hR⟩

end Go.Proofs.YtkhofppmeoooaaaGreatDoor

namespace Go.Proofs.YtkhofppmeoooaaaGreatDoor
open Go.RowKit
set_option linter.unusedVariables false

theorem at_fld (l:List Int) (h:U (l.getD 16 0)) (k:Nat):cfgAt l k=fld (l.getD 16 0) (8*k) 8:=bitsAt_eq _ (8*k) 8 h.1 h.2 (by omega)

theorem reach_fld (l:List Int) (h:U (l.getD 16 0)) (k:Nat) (hk:k < 4):reachI (l.getD 16 0) k=bits .and .u64 (cfgAt l k / 8) 3:=by
 rw [at_fld l h]
 have h3:=and_low (fld (l.getD 16 0) (8*k) 8 / 8) 2 (by have:=(fld_bd (l.getD 16 0) (8*k) 8).1;omega) (by have hu:=U_fld (l.getD 16 0) (8*k) 8 (by omega);have h1:=hu.1;have h2:=hu.2;omega) (by omega)
 rw [show ((2:Int) ^ 2 - 1)=3 from by decide,show ((2:Int) ^ 2)=4 from by decide] at h3
 rw [h3]
 unfold reachI fld
 rw [Int.pow_add,show ((2:Int) ^ 3)=8 from by decide,show ((2:Int) ^ 2)=4 from by decide,show ((2:Int) ^ 8)=256 from by decide,← Int.ediv_ediv_of_nonneg (Int.le_of_lt (Int.pow_pos (by omega)))]
 generalize l.getD 16 0 / 2 ^ (8*k)=z
 omega

theorem okRest_at (l:List Int):∀ n k,okRest l n k=true→∀ j,k≤j→j < k+n→okAt j (l.getD j 0)=true:=by
 intro n
 induction n with
 | zero=>intro k _ j h1 h2;omega
 | succ n ih =>
  intro k h j h1 h2
  rw [okRest,Bool.and_eq_true] at h
  by_cases hj:j=k
  ·subst hj;exact h.1
  ·exact ih (k+1) h.2 j (by omega) (by omega)

theorem right_at {m:Nat} {l:List Int} (h:csrsOk m l=true) (j:Nat) (hj:j < 22):okAt j (l.getD j 0)=true:=by
 simp only [csrsOk,Bool.and_eq_true,decide_eq_true_eq] at h
 exact okRest_at l 22 0 h.2 j (by omega) (by omega)

theorem mst_test (x:Int):(bits .and .u64 x 6144==4096)=(!bt x 11&&bt x 12):=by
 have e2:bits .and .u64 x 6144=(if bt x 11=true then 2048 else 0)+(if bt x 12=true then 4096 else 0):=by
  refine bt_ext _ _ (U_bits _ _ _) (by constructor<;>(cases bt x 11<;>cases bt x 12<;>decide)) fun i hi=>?_
  rw [bt_and,← bit12 i hi (bt x 11) (bt x 12) (bt x i)]
  by_cases h0:i=11
  ·subst h0;rfl
  ·by_cases h1:i=12
   ·subst h1;rfl
   ·rw [if_neg h0,if_neg h1]
 rw [e2]
 cases bt x 11<;>cases bt x 12<;>rfl

theorem mst_def (x:Int) (h:U x):mst x=if (!bt x 11&&bt x 12)=true then bits .andNot .u64 (bits .and .u64 x 924074) 6144 else bits .and .u64 x 924074:=by
 rw [← mst_eq x h,← mst_test]
 rfl

theorem m11:bt 924074 11=true∧bt 924074 12=true∧bt 6144 11=true∧bt 6144 12=true∧bt 786722 11=false∧bt 786722 12=false:=by decide +kernel

theorem mst_ok (x:Int) (h:U x):mst x=x↔bits .and .u64 x 924074=x∧(!bt x 11&&bt x 12)=false:=by
 rw [mst_def x h]
 constructor
 ·intro e
  cases hc:(!bt x 11&&bt x 12) with
  | true =>
   rw [hc,if_pos rfl] at e
   have:bt x 12=false:=by rw [← e,bt_andNot _ _ _ (by omega),m11.2.2.2.1];simp
   rw [this,Bool.and_false] at hc
   cases hc
  | false=>rw [hc,if_neg (by decide)] at e;exact ⟨e,rfl⟩
 ·rintro ⟨e,hc⟩
  rw [hc,if_neg (by decide)];exact e

theorem okRest_of (l:List Int):∀ n k,(∀ j,k≤j→j < k+n→okAt j (l.getD j 0)=true)→okRest l n k=true:=by
 intro n
 induction n with
 | zero=>intro k _;rfl
 | succ n ih =>
  intro k h
  rw [okRest,Bool.and_eq_true]
  exact ⟨h k (by omega) (by omega),ih (k+1) fun j h1 h2=>h j (by omega) (by omega)⟩

theorem right_of (l:List Int) (h:∀ j,j < 22→okAt j (l.getD j 0)=true):csrsOk 22 l=true:=by
 simp only [csrsOk,Bool.and_eq_true,decide_eq_true_eq]
 exact ⟨trivial,okRest_of l 22 0 fun j _ hj=>h j (by omega)⟩

theorem getD_setk (l:List Int) (k:Nat) (v:Int) (hk:k < l.length):(l.set k v).getD k 0=v:=by
 simp [List.getD,hk]

theorem getD_setj (l:List Int) (k j:Nat) (v:Int) (hkj:k≠j):(l.set k v).getD j 0=l.getD j 0:=by
 simp [List.getD,hkj]

theorem right_set (l:List Int) (hz:l.length=22) (hok:csrsOk 22 l=true) (k:Nat) (hk:k < 22) (v:Int) (h:okAt k v=true):csrsOk 22 (l.set k v)=true:=by
 refine right_of _ fun j hj=>?_
 by_cases e:k=j
 ·subst e;rw [getD_setk l k v (by omega)];exact h
 ·rw [getD_setj l k j v e];exact right_at hok j hj

end Go.Proofs.YtkhofppmeoooaaaGreatDoor

namespace Go.Proofs.YtkhofppmeoooaaaGreatDoor
open Go.RowKit
set_option linter.unusedVariables false

theorem addr_bd {l:List Int} (hl:∀ j,U (l.getD j 0)) (hok:csrsOk 22 l=true) (j:Nat) (hj:17≤j) (hj2:j≤20):0≤l.getD j 0∧l.getD j 0 < 18014398509481984:=by
 have h:=right_at hok j (by omega)
 have hu:=hl j
 have e:bits .and .u64 (l.getD j 0) 18014398509481983=l.getD j 0:=by
  have hj3:j=17∨j=18∨j=19∨j=20:=by omega
  have h2:(bits .and .u64 (l.getD j 0) 18014398509481983==l.getD j 0)=true:=by
   rcases hj3 with rfl | rfl | rfl | rfl<;>exact h
  simpa using h2
 have f:=and_low (l.getD j 0) 54 hu.1 hu.2 (by omega)
 have g:(2:Int) ^ 54 - 1=18014398509481983:=by decide
 rw [g,e] at f
 have p54:(2:Int) ^ 54=18014398509481984:=by decide
 rw [p54] at f
 refine ⟨hu.1,?_⟩
 have:=Int.emod_lt_of_pos (l.getD j 0) (show (0:Int) < 18014398509481984 by omega)
 omega

theorem trail_le (a:Int):∀ n k,trailN a n k≤n+k:=by
 intro n
 induction n with
 | zero=>intro k;show k≤0+k;omega
 | succ n ih =>
  intro k
  unfold trailN
  split
  ·have:=ih (k+1);omega
  ·omega

theorem bt_mask (m:Nat) (hm:m≤54) (i:Nat) (hi:i < 64):bt (IntKind.u64.wrap (IntKind.u64.wrap (2 ^ m) - 1)) i=decide (i < m):=by
 have k:∀ m,m≤54→∀ i,i < 64→bt (IntKind.u64.wrap (IntKind.u64.wrap (2 ^ m) - 1)) i=decide (i < m):=by decide +kernel
 exact k m hm i hi

theorem andNot_low (a:Int) (h:U a) (m:Nat) (hm:m≤54):bits .andNot .u64 a (IntKind.u64.wrap (IntKind.u64.wrap (2 ^ m) - 1))=a / 2 ^ m*2 ^ m:=by
 have hp:(0:Int) < 2 ^ m:=Int.pow_pos (by omega)
 have hq:=U_div a h m
 have hle:a / 2 ^ m*2 ^ m≤a:=Int.ediv_mul_le _ (by omega)
 have hge:0≤a / 2 ^ m*2 ^ m:=Int.mul_nonneg hq.1 (by omega)
 have hw:IntKind.u64.wrap (a / 2 ^ m*2 ^ m)=a / 2 ^ m*2 ^ m:=by
  have:=h.2
  rw [IntKind.wrap_u64]
  exact Int.emod_eq_of_lt hge (by omega)
 refine bt_ext _ _ (U_bits _ _ _) ⟨hge,by have:=h.2;omega⟩ fun i hi=>?_
 rw [bt_andNot _ _ _ hi,bt_mask m hm i hi,← hw,bt_shl _ hq,bt_div a h]
 by_cases hmi:m≤i
 ·have h1:decide (i < m)=false:=decide_eq_false (by omega)
  rw [h1,decide_eq_true hmi,decide_eq_true hi,Nat.sub_add_cancel hmi]
  simp
 ·have h1:decide (i < m)=true:=decide_eq_true (by omega)
  rw [h1,decide_eq_false hmi]
  simp

end Go.Proofs.YtkhofppmeoooaaaGreatDoor

namespace Go.Proofs.YtkhofppmeoooaaaGreatDoor
open Go.RowKit
set_option linter.unusedVariables false

theorem below_app {w w':World} {o:Obj} (h:(w.alloc o).grownBy w' (Value.slice (some ⟨w.heap.size,0,none⟩) 0 0).ownBlock):Below w.heap.size w w':=by
 refine Below.grown ((Below.refl _ _).alloc (Nat.le_refl _) _) h ?_ ?_
 ·simp
 ·intro k hk;simp [Value.ownBlock] at hk;omega

end Go.Proofs.YtkhofppmeoooaaaGreatDoor

namespace Go.Proofs.YtkhofppmeoooaaaGreatDoor
open Go.RowKit
set_option linter.unusedVariables false

theorem l6DrawKind_c {w0:World} {g:Nat} {a:Option Addr} {n cap:Nat} {zs:List Int} (hcd:Code w0 a n zs) (w:World) (hc:Cur w0 w g a n cap) :
 Calls Tryz.prog 14 #[.pointer (some ⟨g,0,none⟩)] w fun e w'=>∃ x:Int,e=.returned (.int .i64 x)∧Hid (Cs w0 g a n cap w w'):=by
 have HD:Hid (Code w0 a n zs):=hcd
 have HC:Hid (Cur w0 w g a n cap):=hc
 clear hcd hc
 go_enter Tryz.func14,Tryz.ntmps14
 go_wp2_with fail
 refine (l1Once_c HD.out 20 (by omega) _ HC.out).mono ?_
 rintro e w1 ⟨c,rfl,hs1⟩
 cases c with
 | true =>
  go_wp2_with fail
  have HA:=Cs.alloc hs1.out.1 (.cells #[.int .i64 0,.int .i64 4,.int .i64 (-1)] 2)
  refine (l1Below_c HD.out 3 (by omega) _ HA.1).mono ?_
  rintro e w2 ⟨x,rfl,⟨hx0,hx1⟩,hs2⟩
  obtain ⟨k,rfl⟩:=Int.eq_ofNat_of_zero_le hx0
  obtain ⟨v,hv,hcell⟩:=few_ints [0,4,-1] 2 (hs2.out.keep (heap_alloc_new _ _) (Nat.ne_of_gt hs1.out.1.lt)) (by decide) (k:=k) (by simp;omega)
  have HS:Hid (Cs w0 g a n cap w w2):=hs1.out.trans (HA.trans hs2.out)
  clear hv hs1 hs2 HA HC
  go_wp2_with fail
  go_ret
  exact ⟨_,rfl,HS⟩
 | false =>
  go_wp2_with fail
  refine (l1Below_c HD.out 3 (by omega) _ hs1.out.1).mono ?_
  rintro e w2 ⟨x,rfl,⟨hx0,hx1⟩,hs2⟩
  have HS:Hid (Cs w0 g a n cap w w2):=hs1.out.trans hs2.out
  clear hs1 hs2 HC
  go_wp2_with fail
  go_ret
  exact ⟨_,rfl,HS⟩

theorem U_entry (f b:Int):U (entryV f b):=by
 unfold entryV
 split
 ·exact U0
 ·split
  ·exact U_bits _ _ _
  ·exact U0

end Go.Proofs.YtkhofppmeoooaaaGreatDoor
