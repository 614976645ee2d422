/- Own lemmas. -/
import Derived.Test.YtjifdmoehfbihaaGreatDoorAut
import Derived.Test.YtjifdmoehfbihaaGreatDoorK43
import Derived.Deep.CutRange
set_option maxRecDepth 100000
set_option maxHeartbeats 12800000
namespace Go.Proofs.YtjifdmoehfbihaaGreatDoor
open Go.RowKit Tryz
set_option linter.unusedVariables false
def xn (b a vr:Value):Array Value:=#[.u 2147483648,b,.i 3,a,vr,.u 0,.u 0,.bool false,.slice none 0 0,.slice none 0 0,.i 0,.u 0,.bool false,.bool false]
def Zs (B:Nat) (W:World) (m:Nat) (v:Value):Prop:=∃ a,v=.slice a m m/\W.ownsRow B 22 1 (.slice a m m) m ((List.replicate m (0:Int)).map (Value.int .u64))
structure JI (B n:Nat) (ram:List Int) (W:World) (vx vc vr:Value):Prop where
 x:Zs B W 32 vx
 c:Zs B W 22 vc
 r:W.ownsRow B 5 1 vr n (ram.map (Value.int .u8))
def Qs (B n cap:Nat) (ad:Addr) (ram:List Int) (W:World):Nat->List Value->Prop
 | 0,[v]=>Zs B W 32 v
 | 1,[v]=>Zs B W 22 v
 | 2,[v]=>∃ g,v=.slice (some ⟨g,0,none⟩) 0 0/\W.ownsRow 0 5 1 (.slice (some ⟨g,0,none⟩) 0 0) 0 []
 | 3,[v]=>v=.slice (some ad) n cap
 | 4,[v]=>W.ownsRow B 5 1 v n (ram.map (Value.int .u8))
 | 5,[v]=>∃ c a b,v=.agg (xn c a b)/\JI B n ram W c a b
 | 6,[v]=>∃ r d,v=.p r 0/\B<=r/\W.heap[r]?=some (.cells d 32 (0,0))/\d.size=14
 | 7,[p]=>∃ r c a b,p=.p r 0/\B<=r/\W.heap[r]?=some (.cells (xn c a b) 32 (0,0))/\JI B n ram W c a b
 | _,_=>True
def Vg:Nat->List Nat
 | 7=>[6]
 | i=>[i]
theorem E8 (a ac ar:Option Addr) (n cr:Nat):prog.built 32 [(0,.u 2147483648),(1,.slice a 32 32),(2,.i 3),(3,.slice ac 22 22),(4,.slice ar n cr)]=some (xn (.slice a 32 32) (.slice ac 22 22) (.slice ar n cr)):=by kernel_rfl
theorem qO {P:Program} {o:Oper} {a:Act} {W:World} {K:Act->World->Prop} {Q:Exit->Act->World->Prop} (ys:Nat->Option Bool) (b:Region.wanted o ys=true) (h:if Region.wanted o ys=true then Oper.wp P o a W K Q else K (a.put o.dst undef) W):o.wp P a W K Q:=by rwa [if_pos b] at h
theorem qP {W W':World} {B n:Nat} {t:TypeId} {v:Value} {xs:List Value} (h:W.ownsRow B t 1 v n xs) (hk:∀ (g:Nat) (b:Array Value),W.heap[g]?=some (.cells b t (0,0))->W'.heap[g]?=some (.cells b t (0,0))):W'.ownsRow B t 1 v n xs:=by
 refine ⟨h.1,?_⟩;rcases h.2 with d|⟨g,cap,a,c,e2,e3,e4⟩;·exact .inl d
 ·exact .inr ⟨g,cap,a,c,e2,hk g a e3,e4⟩
theorem Zs.kept {B m:Nat} {W W':World} {v:Value} (h:Zs B W m v) (hk:∀ (g:Nat) (b:Array Value),W.heap[g]?=some (.cells b 22 (0,0))->W'.heap[g]?=some (.cells b 22 (0,0))):Zs B W' m v:=by obtain ⟨a,e,h⟩:=h;exact ⟨a,e,qP h hk⟩
theorem JI.kept {B n:Nat} {ram:List Int} {W W':World} {c b vr:Value} (h:JI B n ram W c b vr) (hk:∀ (g:Nat) (a:Array Value) (t:TypeId),t≠32->W.heap[g]?=some (.cells a t (0,0))->W'.heap[g]?=some (.cells a t (0,0))):JI B n ram W' c b vr :=
 ⟨h.x.kept (λg a=>hk g a _ bb),h.c.kept (λg a=>hk g a _ bb),qP h.r (λg a=>hk g a _ bb)⟩
theorem CD {B n cap:Nat} {ad:Addr} {ram:List Int} {W W':World} (hk:∀ (g:Nat) (a:Array Value) (t:TypeId),t≠32->W.heap[g]?=some (.cells a t (0,0))->W'.heap[g]?=some (.cells a t (0,0))) (hm:∀ (g:Nat) (a:Array Value),W.heap[g]?=some (.cells a 32 (0,0))->∃ b:Array Value,W'.heap[g]?=some (.cells b 32 (0,0))/\b.size=a.size/\(b=a\/∃ f c d,b=xn f c d/\JI B n ram W' f c d)):∀ j l,Qs B n cap ad ram W j l->Qs B n cap ad ram W' j l:=by
 intro j l h;unfold Qs at h ⊢;split;·exact h.kept (λg a=>hk g a _ bb)
 ·exact h.kept (λg a=>hk g a _ bb)
 ·obtain ⟨g,e,h⟩:=h;exact ⟨g,e,qP h (λg a=>hk g a _ bb)⟩
 ·exact h
 ·exact qP h (λg a=>hk g a _ bb)
 ·obtain ⟨f,c,d,e,h⟩:=h;exact ⟨f,c,d,e,h.kept hk⟩
 ·obtain ⟨r,a,e,k,m,s⟩:=h;obtain ⟨b,i,u,_⟩:=hm r a m;exact ⟨r,b,e,k,i,ab⟩
 ·obtain ⟨r,f,c,d,e,k,m,s⟩:=h;obtain ⟨b,i,u,v⟩:=hm r _ m;rcases v with rfl|⟨q,o,p,rfl,w⟩;·exact ⟨r,f,c,d,e,k,i,s.kept hk⟩
  ·exact ⟨r,q,o,p,e,k,i,w⟩
 ·trivial
theorem mK {B n cap:Nat} {ad:Addr} {ram:List Int} {W W':World} (hb:Bw W W'):∀ j l,Qs B n cap ad ram W j l->Qs B n cap ad ram W' j l:=by
 have h:∀ (g:Nat) (o:Obj),W.heap[g]?=some o->W'.heap[g]?=some o:=λg o e=>by rw [hb.block g (Array.getElem?_eq_some_iff.1 e).1];exact e
 exact CD (λg a t _ e=>h g _ e) (λg a e=>⟨a,h g _ e,rfl,.inl rfl⟩)
theorem PP {B n cap:Nat} {ad:Addr} {ram:List Int} {W:World} {r:Nat} {cs:Array Value} {b a vr:Value} (hr:W.heap[r]?=some (.cells cs 32 (0,0))) (hs:cs.size=14) (i:JI B n ram W b a vr):JI B n ram (W.setRow r (xn b a vr)) b a vr/\∀ j l,Qs B n cap ad ram W j l->Qs B n cap ad ram (W.setRow r (xn b a vr)) j l:=by
 have h:∀ (g:Nat) (c:Array Value) (t:TypeId),t≠32->W.heap[g]?=some (.cells c t (0,0))->(W.setRow r (xn b a vr)).heap[g]?=some (.cells c t (0,0)):=by
  intro g c t k e;rw [setRow_other W r g _ (λe2=>?_)];·exact e
  ·subst e2;rw [hr] at e;simp only [Option.some.injEq,Obj.cells.injEq] at e;exact k e.2.1.symm
 have d:=i.kept h;refine ⟨d,CD h (λg c e=>?_)⟩;by_cases f:g=r;·subst f;rw [hr] at e;simp only [Option.some.injEq,Obj.cells.injEq,and_true] at e;subst e;exact ⟨_,setRow_heap _ _ _ _ _ _ hr,by rw [hs];rfl,.inr ⟨b,a,vr,rfl,d⟩⟩
 ·exact ⟨c,by rw [setRow_other W r g _ f];exact e,rfl,.inl rfl⟩
theorem pF {B n:Nat} {t:TypeId} {W:World} {v:Value} {xs:List Value} (h:W.ownsRow B t 1 v n xs):∃ a c,v=.slice a n c:=by
 rcases h.2 with ⟨b,e⟩|⟨g,cap,d,b,_⟩;·exact ⟨none,0,by rw [b,e]⟩
 ·exact ⟨_,_,b⟩
theorem JI.one {B n:Nat} {ram:List Int} {W:World} {b a vr:Value} (h:JI B n ram W b a vr):(xn b a vr).all (·.oneCell')=true:=by obtain ⟨e,rfl,_⟩:=h.x;obtain ⟨c,rfl,_⟩:=h.c;obtain ⟨d,f,rfl⟩:=pF h.r;kernel_rfl
theorem E9 {B n c k:Nat} {t:TypeId} {W:World} {a:Option Addr} {xs:List Value} (h:W.ownsRow B t 1 (.slice a n c) n xs) (hk:(Value.slice a n c).ownBlock=some k):∃ e,W.heap[k]?=some (.cells e t (0,0))/\e.size=c:=by
 rcases h.2 with ⟨d,_⟩|⟨g,cap,b,d,_,f,_,_,i,_⟩;·rw [d] at hk;cases hk
 ·cases d;cases hk;exact ⟨b,f,ab⟩
theorem JI.fam {B n:Nat} {ram:List Int} {W:World} {E D vr:Value} {r:Nat} {cs:Array Value} (h:JI B n ram W E D vr) (hr:W.heap[r]?=some (.cells cs 32 (0,0))):∃ C:MA,E=.slice C.ax 32 C.cx/\D=.slice C.ac 22 C.cc/\vr=.slice C.ar n C.cr/\C.ai=none/\C.ci=0/\C.ao=none/\C.co=0/\bx B W.heap.size W [aJ C.ax 32 C.cx (List.replicate 32 0),aJ C.ac 22 C.cc (List.replicate 22 0),aF C.ar n C.cr ram,aF none 0 0 [],aF none 0 0 []]/\(∀ q ∈ [aJ C.ax 32 C.cx (List.replicate 32 0),aJ C.ac 22 C.cc (List.replicate 22 0),aF C.ar n C.cr ram,aF none 0 0 [],aF none 0 0 []],q.v.ownBlock≠some r):=by
 obtain ⟨H,rfl,A⟩:=h.x;obtain ⟨F,rfl,z⟩:=h.c;obtain ⟨G,I,e⟩:=pF h.r;have v:=h.r;rw [e] at v;have g:∀ (k:Nat) (cs p:Array Value) (t u:TypeId),W.heap[k]?=some (.cells cs t (0,0))->W.heap[k]?=some (.cells p u (0,0))->t=u/\cs=p:=by intro k cs p t u a d;rw [a] at d;simp only [Option.some.injEq,Obj.cells.injEq] at d;exact ⟨d.2.1,d.1⟩
 have w:=λk=>E9 (k:=k) A;have o:=λk=>E9 (k:=k) z;have m:=λk=>E9 (k:=k) v;have x:∀ (k:Nat) (cs:Array Value) (t:TypeId),W.heap[k]?=some (.cells cs t (0,0))->k<W.heap.size:=λk cs t h=>(Array.getElem?_eq_some_iff.1 h).1;refine ⟨⟨H,32,F,22,G,I,none,0,none,0⟩,rfl,rfl,e,rfl,rfl,rfl,rfl,⟨λq b=>?_,λq b k i=>?_,?_⟩,λq b j=>?_⟩
 ·simp only [List.mem_cons,List.not_mem_nil,or_false] at b;rcases b with rfl|rfl|rfl|rfl|rfl;·exact A
  ·exact z
  ·exact v
  ·exact ⟨rfl,.inl ⟨rfl,rfl⟩⟩
  ·exact ⟨rfl,.inl ⟨rfl,rfl⟩⟩
 ·simp only [List.mem_cons,List.not_mem_nil,or_false] at b;rcases b with rfl|rfl|rfl|rfl|rfl;·obtain ⟨_,a,_⟩:=w k i;exact x _ _ _ a
  ·obtain ⟨_,a,_⟩:=o k i;exact x _ _ _ a
  ·obtain ⟨_,a,_⟩:=m k i;exact x _ _ _ a
  ·cases i
  ·cases i
 ·simp only [List.pairwise_cons,List.mem_cons,List.not_mem_nil,or_false];refine ⟨λs c k f e2=>?_,λs c k f e2=>?_,λs c k f e2=>?_,λs c k f=>(by cases f),λs c=>c.elim,List.Pairwise.nil⟩
  ·obtain ⟨_,a,d⟩:=w k f;rcases c with rfl|rfl|rfl|rfl;·obtain ⟨_,l,y⟩:=o k e2;rw [(g _ _ _ _ _ a l).2] at d;omega
   ·obtain ⟨_,l,y⟩:=m k e2;exact absurd (g _ _ _ _ _ a l).1 bb
   ·cases e2
   ·cases e2
  ·obtain ⟨_,a,d⟩:=o k f;rcases c with rfl|rfl|rfl;·obtain ⟨_,l,y⟩:=m k e2;exact absurd (g _ _ _ _ _ a l).1 bb
   ·cases e2
   ·cases e2
  ·rcases c with rfl|rfl;·cases e2
   ·cases e2
 ·simp only [List.mem_cons,List.not_mem_nil,or_false] at b;rcases b with rfl|rfl|rfl|rfl|rfl;·obtain ⟨_,a,_⟩:=w r j;exact absurd (g _ _ _ _ _ a hr).1 bb
  ·obtain ⟨_,a,_⟩:=o r j;exact absurd (g _ _ _ _ _ a hr).1 bb
  ·obtain ⟨_,a,_⟩:=m r j;exact absurd (g _ _ _ _ _ a hr).1 bb
  ·cases j
  ·cases j
theorem pG (ad:Option Addr) (n cap:Nat) (ram:List Int) (w:World) (hz:ram.length=n) (hn:n<=1048576) (hs:Sl .u8 w ad ram):Calls prog 168 #[.slice ad n cap] w λe d=>∃ C:MA,e=.returned (.tuple #[.agg (aq (Aa ram) C),.bool (aU n)])/\bx w.heap.size d.heap.size d (aI (Aa ram) C)/\Bw w d:=by
 have B0:Bw w (w.alloc (.cells #[.u 0,.slice none 0 0,.i 0,.slice none 0 0,.slice none 0 0,.u 0,.u 0,.bool false,.slice none 0 0,.slice none 0 0,.i 0,.u 0,.bool false,.bool false] 32)):=bal _ _;have rb:(w.alloc (.cells #[.u 0,.slice none 0 0,.i 0,.slice none 0 0,.slice none 0 0,.u 0,.u 0,.bool false,.slice none 0 0,.slice none 0 0,.i 0,.u 0,.bool false,.bool false] 32)).heap[w.heap.size]?=some (.cells #[.u 0,.slice none 0 0,.i 0,.slice none 0 0,.slice none 0 0,.u 0,.u 0,.bool false,.slice none 0 0,.slice none 0 0,.i 0,.u 0,.bool false,.bool false] 32):=heap_alloc_new _ _;obtain ⟨Q,H⟩:∃ Q:World->Prop,Q=λW=>Below (w.heap.size+1) (w.alloc (.cells #[.u 0,.slice none 0 0,.i 0,.slice none 0 0,.slice none 0 0,.u 0,.u 0,.bool false,.slice none 0 0,.slice none 0 0,.i 0,.u 0,.bool false,.bool false] 32)) W:=⟨_,rfl⟩;have U:Hid (∀ W z,Q W->Bw W z->Q z):=by rw [H];exact λW z h p=>h.trans (p.mono (by have:=h.size;simp only [World.size_alloc] at this;omega))
 have PU:Hid (∀ W g,Q W->w.heap.size+1<=g->∀ cs,Q (W.setRow g cs)):=by rw [H];exact λW g h hg=>E7 h hg
 have PE:Hid (∀ W,Q W->Bw w W):=by rw [H];exact λW h=>B0.trans (h.mono ab)
 have PZ:Hid (∀ W,Q W->w.heap.size+1<=W.heap.size):=by rw [H];exact λW h=>by have:=h.size;simp only [World.size_alloc] at this;omega
 have PR:Hid (∀ W,Q W->W.heap[w.heap.size]?=some (.cells #[.u 0,.slice none 0 0,.i 0,.slice none 0 0,.slice none 0 0,.u 0,.u 0,.bool false,.slice none 0 0,.slice none 0 0,.i 0,.u 0,.bool false,.bool false] 32)):=by rw [H];exact λW h=>(h.block _ ab).trans rb
 have PK:Hid (∀ W z L B E,Q W->jg L W z->bx B E W L->w.heap.size+1<=B->Q z):=by rw [H];exact λW z L B E h k f X=>h.trans ((k.keep f).below X (by have:=h.size;simp only [World.size_alloc] at this;omega))
 have q0:Q (w.alloc (.cells #[.u 0,.slice none 0 0,.i 0,.slice none 0 0,.slice none 0 0,.u 0,.u 0,.bool false,.slice none 0 0,.slice none 0 0,.i 0,.u 0,.bool false,.bool false] 32)):=by rw [H];exact Below.refl _ _
 have KS:Hid (∀ d,Q d->Q d):=λd h=>h;have A:Hid (∀ w,CE 59 #[.slice ad n cap] w (.bool (aU n))):=λw=>o6 _ _ _ w hn;have HNC:Hid (∀ w,Calls prog 221 #[] w λe d=>e=.returned (.slice (some ⟨w.heap.size,0,none⟩) 22 22)/\d.ownsRow w.heap.size 22 1 (.slice (some ⟨w.heap.size,0,none⟩) 22 22) 22 ((List.replicate 22 (0:Int)).map (Value.int .u64))/\Bw w d):=nv;have Y:Hid (∀ (C:MA) (b B E:Nat) (d:World),d.heap[b]?=some (.cells #[.u 2147483648,.slice C.ax 32 C.cx,.i 3,.slice C.ac 22 C.cc,.slice C.ar n C.cr,.u 0,.u 0,.bool false,.slice C.ai 0 C.ci,.slice C.ao 0 C.co,.i 0,.u 0,.bool false,.bool false] 32 (0,0))->bx B E d (aI (nC ram) C)->(∀ q ∈ aI (nC ram) C,q.v.ownBlock≠some b)->Calls prog 121 #[.p b 0] d λe T=>e=.returned (.tuple #[])/\T.heap[b]?=some (.cells #[.u 2147483648,.slice C.ax 32 C.cx,.i 3,.slice C.ac 22 C.cc,.slice C.ar n C.cr,.u 0,.u 0,.bool false,.slice C.ai 0 C.ci,.slice C.ao 0 C.co,.i 0,.u 0,.bool false,.bool false] 32 (0,0))/\bx B E T (aI (cC (nC ram)) C)/\jg (aI (nC ram) C) d T):=λC b B E d G hf p=>by subst hz;have h2:=uB (nC ram) C b B E d rfl (PO ram hn) G hf p;rw [uA] at h2;exact h2
 have Z:Hid (∀ C:MA,aq (cC (nC ram)) C=#[.u 2147483648,.slice C.ax 32 C.cx,.i 3,.slice C.ac 22 C.cc,.slice C.ar n C.cr,.u 0,.u 0,.bool false,.slice C.ai 0 C.ci,.slice C.ao 0 C.co,.i 0,.u 0,.bool false,.bool false]):=λC=>by subst hz;exact (uA (nC ram) C).trans rfl
 obtain ⟨V,hV⟩:∃ V,V=Aa ram:=⟨_,rfl⟩;rw [<- hV];clear H rb;cases s:aU n with
 | false =>have F:Hid (V=zeroM):=(by show _=_;rw [hV];unfold Aa;rw [hz,s];rfl);rw [s] at A;clear HNC Y hV Z hs hz hn s;go_enter func168,ntmps168;go_wp2_with fail;refine (A.out _).mono ?_;rintro e w1 ⟨rfl,R⟩;subst R;go_wp2_with fail;exact bodyPost_ret (cJ results168 _ _ _ _ _ _ _ rfl (PR.out _ q0) underlying32 rfl nJ) rfl ⟨zeroA,bc,by rw [F.out];exact oU _ _ _,PE.out _ q0⟩
 | true =>
   have F:Hid (V=cC (nC ram)):=(by show _=_;rw [hV];unfold Aa;rw [hz,s];rfl);have I:=JD s;rw [s] at A;have HN:Hid (ram.length=n/\0<n/\n<=1048576):=⟨hz,I,hn⟩;obtain ⟨m,rfl⟩:∃ x,ad=some x:=(by obtain ⟨b,off,e,_⟩:=hs 0 ab;exact ⟨_,e⟩);have HSL:Hid (∀ W,Bw w W->Sl .u8 W (some m) ram):=λW p=>hs.below p;clear hs hz hn s I hV;go_enter func168,ntmps168;go_wp2_with fail;refine (A.out _).mono ?_;rintro e w1 ⟨rfl,R⟩;subst R;go_wp2_with fail;go_cut [4] from 5 (λy wc=>∃ (r:Nat) (C:MA),y=.p r 0/\Hid (wc.heap[r]?=some (.cells #[.u 2147483648,.slice C.ax 32 C.cx,.i 3,.slice C.ac 22 C.cc,.slice C.ar n C.cr,.u 0,.u 0,.bool false,.slice none 0 0,.slice none 0 0,.i 0,.u 0,.bool false,.bool false] 32 (0,0))/\bx (w.heap.size+1) wc.heap.size wc ([aJ C.ax 32 C.cx (List.replicate 32 0),aJ C.ac 22 C.cc (List.replicate 22 0),aF C.ar n C.cr ram,aF none 0 0 [],aF none 0 0 []])/\(∀ q ∈ [aJ C.ax 32 C.cx (List.replicate 32 0),aJ C.ac 22 C.cc (List.replicate 22 0),aF C.ar n C.cr ram,aF none 0 0 [],aF none 0 0 []],q.v.ownBlock≠some r)/\w.heap.size+1<=r/\Q wc)/\C.ai=none/\C.ci=0/\C.ao=none/\C.co=0)
   case first =>
    have p0:=U.out _ _ q0 (Below.refl _ _).drew;refine wm al Vg (λj l W=>Qs (w.heap.size+1) n cap m ram W j l) Q al p0 ?_ ?_
    ·intro i o D a W t u c P;rcases i with _ | _ | _ | _ | _ | _ | _ | _ | i;·obtain rfl:=Option.some.inj D;refine qO (λ_=>none) (by rfl) (Nn (by rfl) 32 (.const (.i 32)) (.const (.i 32)) rfl rfl rfl ab ?_);intro z ow p;exact ⟨_,rfl,⟨_,rfl,cN ow (PZ.out _ t)⟩,U.out _ _ t p,mK p⟩
     ·obtain rfl:=Option.some.inj D;go_simp;refine (HNC.out _).mono ?_;rintro e z ⟨rfl,ow,p⟩;exact ⟨_,rfl,⟨_,rfl,cN ow (PZ.out _ t)⟩,U.out _ _ t p,mK p⟩
     ·obtain rfl:=Option.some.inj D;have p:Bw W (W.alloc (.cells #[] 5 (0,0))):=bal _ _;go_simp;exact ⟨_,rfl,⟨_,rfl,cN (iP W _ (Nat.le_refl _) _ rfl) (Nat.zero_le _)⟩,U.out _ _ t p,mK p⟩
     ·obtain rfl:=Option.some.inj D;have e0:a.tmps[0]?=some (.slice (some m) n cap):=u 0 al;refine JM (v:=.slice (some m) n cap) ?_ ⟨_,rfl,rfl,t,λ_ _ h=>h⟩;simp [execOp,Act.eval,Array.getD_eq_getD_getElem?,e0]
     ·obtain rfl:=Option.some.inj D;obtain ⟨g,e2,ol⟩:=P 2 bb al;have e3:=P 3 bb al;refine qO (λ_=>none) (by rfl) (Nq (by rfl) (.tmp 11) (.tmp 12) rfl g e2 m n cap ram e3 ol HN.out.1 HN.out.2.1 HN.out.2.2 (HSL.out _ (PE.out _ t)) ?_);intro k z ow p;exact ⟨_,rfl,cN ow (PZ.out _ t),U.out _ _ t p,mK p⟩
     ·obtain rfl:=Option.some.inj D;have h0:=P 0 bb al;have h1:=P 1 bb al;have h4:=P 4 bb al;obtain ⟨ax,ex,hx⟩:=h0;obtain ⟨ac,ec,hc⟩:=h1;obtain ⟨ar,cr,er⟩:=pF h4;refine JM (v:=.agg (xn (.slice ax 32 32) (.slice ac 22 22) (.slice ar n cr))) (Ab _ _ rfl [(0,.u 2147483648),(1,.slice ax 32 32),(2,.i 3),(3,.slice ac 22 22),(4,.slice ar n cr)] ?_ _ (E8 _ _ _ _ _)) ⟨_,rfl,⟨_,_,_,rfl,⟨?_,?_,?_⟩⟩,t,λ_ _ h=>h⟩;·rw [<- ex,<- ec,<- er];rfl
      ·exact ⟨_,rfl,hx⟩
      ·exact ⟨_,rfl,hc⟩
      ·rw [<- er];exact h4
     ·obtain rfl:=Option.some.inj D;go_simp;exact ⟨_,rfl,⟨W.heap.size,_,rfl,PZ.out _ t,heap_alloc_new _ _,rfl⟩,U.out _ _ t (bal _ _),mK (bal _ _)⟩
     ·obtain rfl:=Option.some.inj D;obtain ⟨vx,vc,vr,e5,h3⟩:=P 5 bb al;obtain ⟨r,cs,e6,X,G,hs⟩:=P 6 bb al;obtain ⟨h4,h5⟩:=PP (cap:=cap) (ad:=m) G hs h3;refine wp_store_row 32 (.tmp 4) (.tmp 14) rfl r (xn vx vc vr) e6 e5 _ cs G nJ hs h3.one ?_;exact ⟨_,rfl,⟨r,vx,vc,vr,e6,X,setRow_heap _ _ _ _ _ _ G,h4⟩,PU.out _ r t X _,h5⟩
     ·cases D
    ·intro a W t u c hdf hv;obtain ⟨u4,g4⟩:=jB c 4 (by rfl);obtain ⟨u9,g9⟩:=jB c 9 (by rfl);obtain ⟨u10,g10⟩:=jB c 10 (by rfl);obtain ⟨u11,g11⟩:=jB c 11 (by rfl);obtain ⟨u12,g12⟩:=jB c 12 (by rfl);obtain ⟨u13,g13⟩:=jB c 13 (by rfl);obtain ⟨u14,g14⟩:=jB c 14 (by rfl);obtain ⟨r,vx,vc,vr,e6,X,G,h3⟩:=hv 7 bb;have e6':u4=.p r 0:=(by rw [<- e6];show u4=a.tmps.getD 4 undef;rw [Array.getD_eq_getD_getElem?,g4];rfl);subst e6';obtain ⟨C,rfl,rfl,rfl,ai,ci,ao,co,hf,hn⟩:=h3.fam G;have ha:=NJ (a:=a) (l:=[.slice (some m) n cap,undef,.p w.heap.size 0,.bool false,.p r 0,.slice (some m) n cap,.bool true,.bool false,undef,u9,u10,u11,u12,u13,u14,undef,undef]) c (λi hi=>?_) hdf;·subst ha;clear hv u c hdf g4 g9 g10 g11 g12 g13 g14 e6;go_wp2_with fail;go_meet;exact ⟨r,C,rfl,⟨G,hf,hn,X,t⟩,ai,ci,ao,co⟩
     ·rcases i with _ | _ | _ | _ | _ | _ | _ | _ | _ | _ | _ | _ | _ | _ | _ | _ | _ | i;all_goals first | assumption | exact u _ al | (simp at hi;omega)
   case rest =>obtain ⟨r,C,rfl,LI,J,M,K,N⟩:=hcut;have LJ:Hid (wc.heap[r]?=some (.cells #[.u 2147483648,.slice C.ax 32 C.cx,.i 3,.slice C.ac 22 C.cc,.slice C.ar n C.cr,.u 0,.u 0,.bool false,.slice C.ai 0 C.ci,.slice C.ao 0 C.co,.i 0,.u 0,.bool false,.bool false] 32 (0,0))/\bx (w.heap.size+1) wc.heap.size wc (aI (nC ram) C)/\(∀ q ∈ aI (nC ram) C,q.v.ownBlock≠some r)/\w.heap.size+1<=r/\Q wc):=(by have h:=LI.out;obtain ⟨ax,cx,ac,cc,ar,cr,ai,ci,ao,co⟩:=C;dsimp only at J M K N h;subst J;subst M;subst K;subst N;have hn2:=HN.out.1;subst hn2;exact h);obtain ⟨row,O,ne,G,qc⟩:=LJ.out;clear LI LJ J M K N;go_wp2_with fail;refine (Y.out C r _ _ _ row O ne).mono ?_;rintro e w3 ⟨rfl,row3,fm3,S⟩;have q3:Q w3:=PK.out _ _ _ _ _ qc S O (Nat.le_refl _);have Z3:=aD S.size;have nd1:¬ r=w.heap.size:=ab;have nd2:¬ w.heap.size=r:=ab;clear S row O ne;obtain ⟨a0,a1,a2,a3,a4,a5,a6,a7,a8,a9,a10,a11,a12,a13⟩:=aR row3;obtain ⟨s0,s1,s2,s3,s4,s5,s6,s7,s8,s9,s10,s11,s12,s13⟩:=aR (PR.out _ q3);obtain ⟨y0,y1,y2,y3,y4,y5,y6,y7,y8,y9,y10,y11,y12,y13⟩:=eO (PR.out _ q3);go_wp2_with fail;exact bodyPost_ret (cJ results168 _ _ _ _ _ _ _ rfl (qY (PR.out _ q3) (.u 2147483648) (.slice C.ax 32 C.cx) (.i 3) (.slice C.ac 22 C.cc) (.slice C.ar n C.cr) (.u 0) (.u 0) (.bool false) (.slice C.ai 0 C.ci) (.slice C.ao 0 C.co) (.i 0) (.u 0) (.bool false) (.bool false)) underlying32 rfl nJ) rfl ⟨C,by rw [F.out,Z.out];rfl,by rw [F.out];exact (fm3.put14 w.heap.size (.inl ab) (.u 2147483648) (.slice C.ax 32 C.cx) (.i 3) (.slice C.ac 22 C.cc) (.slice C.ar n C.cr) (.u 0) (.u 0) (.bool false) (.slice C.ai 0 C.ci) (.slice C.ao 0 C.co) (.i 0) (.u 0) (.bool false) (.bool false)).low ab (by have:=Z3.out;simp only [aO];omega),nI (PE.out _ q3) (Nat.le_refl _) (.u 2147483648) (.slice C.ax 32 C.cx) (.i 3) (.slice C.ac 22 C.cc) (.slice C.ar n C.cr) (.u 0) (.u 0) (.bool false) (.slice C.ai 0 C.ci) (.slice C.ao 0 C.co) (.i 0) (.u 0) (.bool false) (.bool false)⟩
def Rg (c:World) (g:Nat) (a:Option Addr) (n cap:Nat) (w wr:World):Prop :=
 ∃ b:List Int,(∀ j,U (b.getD j 0))/\wr.ownsRow w.heap.size 22 1 (.slice (some ⟨w.heap.size,0,none⟩) 22 22) 22 (b.map (Value.int .u64))/\Cs c g a n cap w wr/\g<w.heap.size
theorem Rg.next {c:World} {g:Nat} {a:Option Addr} {n cap:Nat} {w wr wx:World} (h:Rg c g a n cap w wr) (k:Cs c g a n cap wr wx):Rg c g a n cap w wx:=by obtain ⟨m,l,i,d,e⟩:=h;refine ⟨m,l,yA i k.2 ?_,d.trans k,e⟩;intro j f b;simp [Value.ownBlock] at f b;omega
theorem Rg.cur {b:World} {g:Nat} {a:Option Addr} {n cap:Nat} {w wr:World} (h:Rg b g a n cap w wr):lL b wr g a n cap:=by obtain ⟨i,f,e,c,d⟩:=h;exact c.1
theorem Nr (zs:List Int) (k j:Nat) (y:Int) (c:∀ j,U (zs.getD j 0)) (hy:U y):U ((zs.set k y).getD j 0):=by
 by_cases a:k=j
 ·subst a;by_cases b:k<zs.length;·have e:(zs.set k y).getD k 0=y:=(by simp [List.getD,b]);rw [e];exact hy
  ·have e:(zs.set k y).getD k 0=0:=(by simp [List.getD,b]);rw [e];constructor<;>decide
 ·have e:(zs.set k y).getD j 0=zs.getD j 0:=(by simp [List.getD,a]);rw [e];exact c j
theorem Rg.put {f:World} {g:Nat} {a:Option Addr} {n cap:Nat} {w wr:World} (h:Rg f g a n cap w wr) (k:Nat) (y:Int) (hy:U y):Rg f g a n cap w (wr.setCell ⟨w.heap.size,k,none⟩ (.u y)):=by
 obtain ⟨l,r,q,b,m⟩:=h;have d:=q.stored k (.u y);rw [j5] at d;refine ⟨l.set k y,λj=>Nr l k j y r hy,d.1,⟨?_,?_⟩,m⟩
 ·obtain ⟨i,x,o,c⟩:=b.1.row;refine ⟨b.1.new,b.1.below.setCell ?_ _,i,x,o,?_⟩;·show f.heap.size<=w.heap.size;have:=b.1.new;omega
  ·rw [heap_setCell_other _ _ _ _ (by show g≠w.heap.size;omega)];exact c
 ·refine ⟨b.2.os,b.2.tape,b.2.output,by simpa [World.setCell] using b.2.size,λj p e=>?_⟩;rw [heap_setCell_other _ _ _ _ (by show j≠w.heap.size;omega)];exact b.2.block j p e
theorem Rg.cell {j:World} {g:Nat} {a:Option Addr} {n cap:Nat} {w wr:World} (h:Rg j g a n cap w wr) (k:Nat) (hk:k<22):∃ v,U v/\wr.cell? ⟨w.heap.size,k,none⟩=some (.u v)/\wr.frozen? ⟨w.heap.size,k,none⟩=false:=by
 obtain ⟨l,f,d,m,o⟩:=h;have p:l.length=22:=by have:=d.1;simpa using this
 obtain ⟨b,i,e,_,c⟩:=kl d k ab;simp only [Option.some.injEq,Addr.mk.injEq,and_true] at e;obtain ⟨rfl,rfl⟩:=e;rw [Nat.zero_add] at c;exact ⟨_,f k,c,d.frozenAt k⟩
theorem PQ (p x:Int) (h:U x):U (bo p x):=by
 unfold bo;split;·unfold mst;split<;>exact af _ _ _
 ·split;·exact af _ _ _
  ·split;·exact af _ _ _
   ·split;·exact af _ _ _
    ·split;·exact af _ _ _
     ·split;·exact af _ _ _
      ·split;·exact af _ _ _
       ·split;·exact af _ _ _
        ·split;·exact af _ _ _
         ·exact h
theorem U0:U 0:=⟨bb,bb⟩
theorem Ns (m j:Nat):(List.replicate m (0:Int)).getD j 0=0:=by
 by_cases a:j<m;·simp [List.getD,a]
 ·simp [List.getD,a]
theorem PS (j:Nat):U ((List.replicate 22 (0:Int)).getD j 0):=by rw [Ns];exact U0
theorem gO (p x:Int) (h:U x) (w:World):Calls prog 172 #[.i p,.u x] w λe b=>∃ v,e=.returned (.u v)/\Hid (U v)/\b=w :=
 (fd p x w).mono λe b a=>⟨_,a.1,PQ p x h,a.2⟩
theorem Ac {s:World} {g:Nat} {a:Option Addr} {n cap:Nat} {zs:List Int} (W:Code s a n zs) (w:World) (hc:lL s w g a n cap):Calls prog 170 #[.p g 0] w λe w'=>e=.returned (.slice (some ⟨w.heap.size,0,none⟩) 22 22)/\Hid (Rg s g a n cap w w'):=by
 have A:Hid (Code s a n zs):=W;have HC:Hid (lL s w g a n cap):=hc;clear W hc;go_enter func170,ntmps170;go_wp2_with fail;refine (nv _).mono ?_;rintro e w1 ⟨rfl,X,V⟩;have R1:Hid (Rg s g a n cap w w1):=⟨List.replicate 22 0,PS,X,Cs.of_below HC.out V,HC.out.lt⟩;clear X V;go_wp2_with fail;refine (aB A.out 16 ab _ R1.out.cur).mono ?_;rintro e w2 ⟨m,rfl,⟨hm0,hm1⟩,Y⟩;have R2:Hid (Rg s g a n cap w w2):=R1.out.next Y.out;obtain ⟨mm,rfl⟩:=Int.eq_ofNat_of_zero_le hm0;clear R1 Y;go_wp2_with fail;go_loopw [4] (λi wr=>∃ k:Nat,k<=16/\i=.i k/\Hid (Rg s g a n cap w wr)) (λi _=>(intOf i).toNat);case atStart=>exact ⟨mm,ab,rfl,R2⟩
 case round =>
  obtain ⟨k,hk,rfl,J⟩:=hrel;by_cases hlt:0<k
  ·go_wp2_with fail;refine (aB A.out 22 ab _ J.out.cur).mono ?_;rintro e w3 ⟨p,rfl,⟨hp0,hp1⟩,Z⟩;have R3:Hid (Rg s g a n cap w w3):=J.out.next Z.out;obtain ⟨E,rfl⟩:=Int.eq_ofNat_of_zero_le hp0;clear Z J;go_wp2_with fail;refine (kK A.out _ R3.out.cur).mono ?_;rintro e w4 ⟨x,rfl,hx,hs4⟩;have t:Hid (Rg s g a n cap w w4):=R3.out.next hs4.out;have O:Hid (U x):=hx;clear hs4 R3 hx;obtain ⟨j,rfl⟩:∃ j,k=j+1:=⟨k-1,ab⟩;by_cases h4:E=4\/E=10
   ·rcases h4 with rfl|rfl
    ·go_wp2_with fail;refine (aB A.out 512 ab _ t.out.cur).mono ?_;rintro e G ⟨y,rfl,⟨F,H⟩,d⟩;have r:Hid (Rg s g a n cap w G):=t.out.next d.out;clear d t;go_wp2_with fail;refine (aB A.out 2 ab _ r.out.cur).mono ?_;rintro e I ⟨z,rfl,⟨hz0,hz1⟩,f⟩;have u:Hid (Rg s g a n cap w I):=r.out.next f.out;clear f r O;obtain ⟨L,_,C,D⟩:=u.out.cell 4 ab;go_wp2_with fail;refine (gO _ _ ?_ _).mono ?_;·first | exact aP _ | (constructor<;>omega)
     rintro e N ⟨M,rfl,l,o⟩;have b:=o.symm;subst b;go_wp2_with fail;go_roundw;case rel=>exact ⟨j,ab,by go_num,u.out.put 4 _ l.out⟩
     case measure=>simp [intOf]
    ·go_wp2_with fail;refine (aB A.out 512 ab _ t.out.cur).mono ?_;rintro e G ⟨y,rfl,⟨F,H⟩,d⟩;have r:Hid (Rg s g a n cap w G):=t.out.next d.out;clear d t;go_wp2_with fail;refine (aB A.out 2 ab _ r.out.cur).mono ?_;rintro e I ⟨z,rfl,⟨hz0,hz1⟩,f⟩;have u:Hid (Rg s g a n cap w I):=r.out.next f.out;clear f r O;obtain ⟨L,_,C,D⟩:=u.out.cell 10 ab;go_wp2_with fail;refine (gO _ _ ?_ _).mono ?_;·first | exact aP _ | (constructor<;>omega)
     rintro e N ⟨M,rfl,l,o⟩;have b:=o.symm;subst b;go_wp2_with fail;go_roundw;case rel=>exact ⟨j,ab,by go_num,u.out.put 10 _ l.out⟩
     case measure=>simp [intOf]
   by_cases Q:E=16
   ·subst Q;go_wp2_with fail;go_loopw [6,7] (λy i wx=>∃ (q:Nat) (v:Int),q<=4/\y=.u v/\U v/\i=.i q/\Hid (Rg s g a n cap w wx)) (λ_ i _=>4-(intOf i).toNat);case atStart=>exact ⟨0,0,ab,rfl,U0,rfl,t⟩
    case round =>
     obtain ⟨q,v,hq,rfl,hv,rfl,J⟩:=hrel;have T:Hid (U v):=hv;clear hv;by_cases hq4:q<4
     ·go_wp2_with fail;have HA:=Cs.alloc J.out.cur (.cells #[.u 0,.u 15,.u 31,.u 27,.u 25,.u 7,.u 24,.u 159,.u 143,.u 153] 22);refine (aB A.out 10 ab _ HA.1).mono ?_;rintro e G ⟨y,rfl,⟨F,H⟩,d⟩;obtain ⟨yy,rfl⟩:=Int.eq_ofNat_of_zero_le F;obtain ⟨v2,hv2,hcell⟩:=rW [0,15,31,27,25,7,24,159,143,153] 22 (d.out.keep (heap_alloc_new _ _) (Nat.ne_of_gt J.out.cur.lt)) (by intro x hx;simp at hx;constructor<;>omega) (k:=yy) bh;have r:Hid (Rg s g a n cap w G):=(J.out.next HA).next d.out
      clear d J HA hv2;go_wp2_with fail;go_roundw;case rel=>exact ⟨q+1,_,ab,rfl,af _ _ _,by go_num,r⟩
      case measure=>simp [intOf];omega
     ·go_wp2_with fail;refine (bG A.out 3 ab _ J.out.cur).mono ?_;rintro e G ⟨c,rfl,d⟩;have r:Hid (Rg s g a n cap w G):=J.out.next d.out;clear d J;cases c with
      | true =>
       obtain ⟨L,_,C,D⟩:=r.out.cell 16 ab;go_wp2_with fail;refine (gO _ _ ?_ _).mono ?_;·first | exact T.out | exact af _ _ _
       rintro e N ⟨M,rfl,l,o⟩;have b:=o.symm;subst b;go_wp2_with fail;go_roundw;case rel=>exact ⟨j,ab,by go_num,r.out.put 16 _ l.out⟩
       case measure=>simp [intOf]
       | false =>
         obtain ⟨L,_,C,D⟩:=r.out.cell 16 ab;go_wp2_with fail;refine (gO _ _ ?_ _).mono ?_;·first | exact af _ _ _ | exact T.out
         rintro e N ⟨M,rfl,l,o⟩;have b:=o.symm;subst b;go_wp2_with fail;go_roundw;case rel=>exact ⟨j,ab,by go_num,r.out.put 16 _ l.out⟩
         case measure=>simp [intOf]
   by_cases R:E=17\/E=18\/E=19\/E=20
   ·rcases R with rfl|rfl|rfl|rfl
    ·go_wp2_with fail;refine (aB A.out 2048 ab _ t.out.cur).mono ?_;rintro e G ⟨y,rfl,⟨F,H⟩,d⟩;have r:Hid (Rg s g a n cap w G):=t.out.next d.out;clear d t;go_wp2_with fail;refine (bG A.out 2 ab _ r.out.cur).mono ?_;rintro e I ⟨c,rfl,f⟩;have u:Hid (Rg s g a n cap w I):=r.out.next f.out;clear f r O;cases c with
     | _ =>
       go_wp2_with fail;refine (bG A.out 3 ab _ u.out.cur).mono ?_;rintro e S ⟨c,rfl,B⟩;have K:Hid (Rg s g a n cap w S):=u.out.next B.out;clear B u;cases c with
       | _ =>
         obtain ⟨L,_,C,D⟩:=K.out.cell 17 ab;go_wp2_with fail;refine (gO _ _ ?_ _).mono ?_;·first | exact aP _ | (constructor<;>omega)
         rintro e N ⟨M,rfl,l,o⟩;have b:=o.symm;subst b;go_wp2_with fail;go_roundw;case rel=>exact ⟨j,ab,by go_num,K.out.put 17 _ l.out⟩
         case measure=>simp [intOf]
    ·go_wp2_with fail;refine (aB A.out 2048 ab _ t.out.cur).mono ?_;rintro e G ⟨y,rfl,⟨F,H⟩,d⟩;have r:Hid (Rg s g a n cap w G):=t.out.next d.out;clear d t;go_wp2_with fail;refine (bG A.out 2 ab _ r.out.cur).mono ?_;rintro e I ⟨c,rfl,f⟩;have u:Hid (Rg s g a n cap w I):=r.out.next f.out;clear f r O;cases c with
     | _ =>
       go_wp2_with fail;refine (bG A.out 3 ab _ u.out.cur).mono ?_;rintro e S ⟨c,rfl,B⟩;have K:Hid (Rg s g a n cap w S):=u.out.next B.out;clear B u;cases c with
       | _ =>
         obtain ⟨L,_,C,D⟩:=K.out.cell 18 ab;go_wp2_with fail;refine (gO _ _ ?_ _).mono ?_;·first | exact aP _ | (constructor<;>omega)
         rintro e N ⟨M,rfl,l,o⟩;have b:=o.symm;subst b;go_wp2_with fail;go_roundw;case rel=>exact ⟨j,ab,by go_num,K.out.put 18 _ l.out⟩
         case measure=>simp [intOf]
    ·go_wp2_with fail;refine (aB A.out 2048 ab _ t.out.cur).mono ?_;rintro e G ⟨y,rfl,⟨F,H⟩,d⟩;have r:Hid (Rg s g a n cap w G):=t.out.next d.out;clear d t;go_wp2_with fail;refine (bG A.out 2 ab _ r.out.cur).mono ?_;rintro e I ⟨c,rfl,f⟩;have u:Hid (Rg s g a n cap w I):=r.out.next f.out;clear f r O;cases c with
     | _ =>
       go_wp2_with fail;refine (bG A.out 3 ab _ u.out.cur).mono ?_;rintro e S ⟨c,rfl,B⟩;have K:Hid (Rg s g a n cap w S):=u.out.next B.out;clear B u;cases c with
       | _ =>
         obtain ⟨L,_,C,D⟩:=K.out.cell 19 ab;go_wp2_with fail;refine (gO _ _ ?_ _).mono ?_;·first | exact aP _ | (constructor<;>omega)
         rintro e N ⟨M,rfl,l,o⟩;have b:=o.symm;subst b;go_wp2_with fail;go_roundw;case rel=>exact ⟨j,ab,by go_num,K.out.put 19 _ l.out⟩
         case measure=>simp [intOf]
    ·go_wp2_with fail;refine (aB A.out 2048 ab _ t.out.cur).mono ?_;rintro e G ⟨y,rfl,⟨F,H⟩,d⟩;have r:Hid (Rg s g a n cap w G):=t.out.next d.out;clear d t;go_wp2_with fail;refine (bG A.out 2 ab _ r.out.cur).mono ?_;rintro e I ⟨c,rfl,f⟩;have u:Hid (Rg s g a n cap w I):=r.out.next f.out;clear f r O;cases c with
     | _ =>
       go_wp2_with fail;refine (bG A.out 3 ab _ u.out.cur).mono ?_;rintro e S ⟨c,rfl,B⟩;have K:Hid (Rg s g a n cap w S):=u.out.next B.out;clear B u;cases c with
       | _ =>
         obtain ⟨L,_,C,D⟩:=K.out.cell 20 ab;go_wp2_with fail;refine (gO _ _ ?_ _).mono ?_;·first | exact aP _ | (constructor<;>omega)
         rintro e N ⟨M,rfl,l,o⟩;have b:=o.symm;subst b;go_wp2_with fail;go_roundw;case rel=>exact ⟨j,ab,by go_num,K.out.put 20 _ l.out⟩
         case measure=>simp [intOf]
   by_cases P:E=15
   ·subst P;go_wp2_with fail;refine (aB A.out 2 ab _ t.out.cur).mono ?_;rintro e G ⟨y,rfl,⟨F,H⟩,d⟩;have r:Hid (Rg s g a n cap w G):=t.out.next d.out;clear d t;go_wp2_with fail;refine (aB A.out 2 ab _ r.out.cur).mono ?_;rintro e I ⟨z,rfl,⟨hz0,hz1⟩,f⟩;have u:Hid (Rg s g a n cap w I):=r.out.next f.out;clear f r O;obtain ⟨L,_,C,D⟩:=u.out.cell 15 ab;go_wp2_with fail;refine (gO _ _ ?_ _).mono ?_;·first | exact aP _ | (constructor<;>omega)
    rintro e N ⟨M,rfl,l,o⟩;have b:=o.symm;subst b;go_wp2_with fail;go_roundw;case rel=>exact ⟨j,ab,by go_num,u.out.put 15 _ l.out⟩
    case measure=>simp [intOf]
   have d4:((E:Int)==4)=false:=bh;have T0:((E:Int)==10)=false:=bh;have TK:((E:Int)==16)=false:=bh;have TY:((E:Int)==17)=false:=bh;have d18:((E:Int)==18)=false:=bh;have d19:((E:Int)==19)=false:=bh;have d20:((E:Int)==20)=false:=bh;have TM:((E:Int)==15)=false:=bh;by_cases h9:E=9
   ·subst h9;clear h4 Q R P;obtain ⟨L,_,C,D⟩:=t.out.cell 9 ab;go_wp2_with fail;go_roundw;case rel=>exact ⟨j,ab,by go_num,t.out.put 9 _ (af _ _ _)⟩
    case measure=>simp [intOf]
   ·have d9:((E:Int)==9)=false:=bh;have hp22:E<22:=ab;clear h4 Q R P h9;obtain ⟨L,_,C,D⟩:=t.out.cell E ab;go_wp2_with fail;refine (gO _ _ ?_ _).mono ?_;·exact O.out
    rintro e N ⟨M,rfl,l,o⟩;have b:=o.symm;subst b;go_wp2_with fail;go_roundw;case rel=>exact ⟨j,ab,by go_num,t.out.put E _ l.out⟩
    case measure=>simp [intOf]
  ·have hk0:k=0:=ab;subst hk0;go_wp2_with fail;go_ret;exact ⟨rfl,J⟩
theorem oY (f b:Int):U (kt f b):=by
 unfold kt;split;·exact U0
 ·split;·exact af _ _ _
  ·exact U0
end Go.Proofs.YtjifdmoehfbihaaGreatDoor
