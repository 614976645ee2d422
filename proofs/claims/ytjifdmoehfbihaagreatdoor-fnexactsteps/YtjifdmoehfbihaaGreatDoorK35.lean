/- Own lemmas. -/
import Derived.Test.YtjifdmoehfbihaaGreatDoorAut
import Derived.Test.YtjifdmoehfbihaaGreatDoorK29
import Derived.Test.YtjifdmoehfbihaaGreatDoorK33
import Derived.Test.YtjifdmoehfbihaaGreatDoorK34
set_option maxRecDepth 100000
namespace Go.Proofs.YtjifdmoehfbihaaGreatDoor
open Go.RowKit Tryz
open IntKind renaming u64->Uz
set_option linter.unusedVariables false
theorem P4 {a:Int} (b:U a) (n:Nat):U (a/2^n):=by have c:(0:Int)<2^n:=Int.pow_pos al;refine ⟨Int.ediv_nonneg b.1 al,?_⟩;have:a/2^n<=a:=Int.ediv_le_self _ b.1;have:=b.2;omega
theorem KE {a b:Int} (c:U a) (hb:U b):U (jX a b):=by unfold jX;refine ⟨Int.ediv_nonneg (Int.mul_nonneg c.1 hb.1) al,Int.ediv_lt_of_lt_mul al ?_⟩;have d:a*b<=a*18446744073709551616:=Int.mul_le_mul_of_nonneg_left (by have:=hb.2;omega) c.1;have e:a*18446744073709551616<18446744073709551616*18446744073709551616:=Int.mul_lt_mul_of_pos_right c.2 al;omega
theorem QH (f:AF) {a b:Int} (d:U a) (hb:U b):U (f.v a b):=by
 have g:∀ c:Bool,U (Ch c):=λc=>by cases c<;>exact ⟨a5,a5⟩
 have e:U (fI a b):=by unfold fI;split;exact bG _;exact KE d hb
 cases f<;>unfold AF.v<;>dsimp only;·exact bG _
 ·exact g _
 ·exact g _
 ·exact aj _ _ _
 ·exact aj _ _ _
 ·exact aj _ _ _
 ·exact bG _
 ·exact P4 d _
 ·exact bG _
 ·exact bG _
 ·exact bG _
 ·unfold lu;split;exact bG _;exact e
 ·exact e
 ·exact KE d hb
 ·split;exact ⟨a5,a5⟩;exact bG _
 ·split;exact ⟨a5,a5⟩;exact bG _
 ·split;exact d;exact bG _
 ·split;·exact d
  ·rw [Int.tmod_eq_emod_of_nonneg d.1];have h:=Int.emod_nonneg a (show b≠0 by assumption);have i:=Int.emod_lt_of_pos a (show 0<b by have:=hb.1;omega);exact ⟨h,by have:=hb.2;omega⟩
theorem P5 (op:Int) {a b:Int} (c:U a) (hb:U b):U (mA op a b):=by
 unfold mA;split
 ·cases nC (op-22).toNat with
  | d f=>exact QH f c hb
  | w f l r=>exact aS _
 ·exact kO
theorem Gd.al4 {M:MV} (h:Gd M):M.pc%4=0:=by have a:=(ee h.ok).1;rw [Ms _ h.pc] at a;exact eq_of_beq a
theorem OT {x:Int} (h:U x) (a:x%4=0):bits .and .u64 x 3=0:=by rw [Ms _ h,a]
theorem OU {M:MV} (h:Gd M):bits .and .u64 (Uz.wrap (M.pc+4)) 3=0:=OT (bG _) (by have:=h.al4;rw [IntKind.wrap_u64];omega)
theorem OV {x:Int} (h:U x) (he:x%2=0) (g:(bits .and .u64 x 2 != 0)=false):bits .and .u64 x 3=0:=by
 have k:bits .and .u64 x 2=0:=x9
 refine bg _ _ (aj _ _ _) kO λi l=>?_;have d:bt x 0=false:=by have:bits .and .u64 x 1=x%2:=cj x 1 h.1 h.2 al;rw [he] at this;have q:=az x 1 0;rw [this] at q;have a:bt 0 0=false:=a5;have b:bt 1 0=true:=a5;rw [a,b,Bool.and_true] at q;exact q.symm
 have f:bt x 1=false:=by have q:=az x 2 1;rw [k] at q;have a:bt 0 1=false:=a5;have b:bt 2 1=true:=a5;rw [a,b,Bool.and_true] at q;exact q.symm
 rw [az];have key:∀ j,j<64->∀ c:Bool,(j=0->c=false)->(j=1->c=false)->(c&&bt 3 j)=bt 0 j:=a8
 exact key i l _ (λe=>by rw [e];exact d) (λe=>by rw [e];exact f)
theorem G5 (x:Int):bits .andNot .u64 x 1%2=0:=by
 have a:=aj .andNot x 1;have d:bits .and .u64 (bits .andNot .u64 x 1) 1=bits .andNot .u64 x 1%2:=cj _ 1 a.1 a.2 al;rw [<- d];refine bg _ _ (aj _ _ _) kO λi b=>?_;rw [az,aA _ _ _ b];have key:∀ j,j<64->∀ c:Bool,((c&&!bt 1 j)&&bt 1 j)=bt 0 j:=a8
 exact key i b _
theorem KF {l:List Int} (h:∀ j,U (l.getD j 0)) (n:Int):U (cZ l n):=by
 unfold cZ;split;·exact kO
 ·split;·exact ⟨a5,a5⟩
  ·split;·exact aj _ _ _
   ·split;·exact aj _ _ _
    ·split;·exact aj _ _ _
     ·exact h _
theorem EK (l:List Int) (h:l.length=22) (n x:Int):bits .and .u64 ((bJ l n x).getD 9 0) 2184=bits .and .u64 (l.getD 9 0) 2184:=by
 have d:∀ m,(∀ i,i<64->(bt m i&&bt 2184 i)=false)->bits .and .u64 (ig (l.getD 9 0) m x) 2184=bits .and .u64 (l.getD 9 0) 2184:=λm p=>by
  refine bg _ _ (aj _ _ _) (aj _ _ _) λi f=>?_;unfold ig;rw [az,bZ,az,aA _ _ _ f,az];have:=p i f;cases j:bt 2184 i;·simp
  ·rw [j,Bool.and_true] at this;rw [this];simp
 have set:∀ k,k≠9->∀ v,(l.set k v).getD 9 0=l.getD 9 0:=λk o v=>js l k 9 v o;have a:∀ v,(l.set 9 v).getD 9 0=v:=λv=>qA l 9 v al;have q:∀ i,i<64->∀ c:Bool,((c&&bt 2 i)&&bt 2184 i)=false:=a8
 have b:∀ i,i<64->(bt 546 i&&bt 2184 i)=false:=a8
 unfold bJ;split;·rfl
 ·split;·rw [set 0 al]
  ·split;·rw [set 3 al]
   ·split;·rw [a];exact d _ λi f=>by rw [az];exact q i f _
    ·unfold fx;split;·rw [a];exact d _ b
     ·split
      ·split;·rw [set 15 al]
       ·rfl
      ·split;·rw [set 16 al]
       ·rename_i r _ _;have s:=qd n;have g:(cE n).toNat≠9\/cE n=-1:=al;split
        ·split;·rfl
         ·rw [set _ al]
        ·rcases g with e|e;·rw [set _ e]
         ·rw [e];exact congrArg (λy=>bits .and .u64 y 2184) (set 0 al _)
theorem Gd.cs_ {M:MV} (h:Gd M) {l:List Int} (hz:l.length=22) (a:bf 22 l=true) (m:∀ j,U (l.getD j 0)) (k:bits .and .u64 (l.getD 9 0) 2184=bits .and .u64 (M.cs.getD 9 0) 2184):Gd (hZ M l):=by
 obtain ⟨c,d,n,e,f,g,i⟩:=ee h.ok;obtain ⟨_,_,b,_,_,_⟩:=aF h.ok;refine ⟨kg (M:=hZ M l) c d ?_ e f g ?_,⟨m,h.mw.ram,h.mw.xs,h.mw.ys⟩,h.ux,h.pc,h.hd⟩;·show aQ l.length l M.pr=true;unfold aQ;rw [hz,a,b];rfl
 ·show (bits .and .u64 (l.getD 9 0) 2184==cU M.d)=true;rw [k];exact i
theorem Gd.priv {M:MV} (h:Gd M) {p:Int} (j:bI p=true):Gd (fP M p):=by obtain ⟨c,d,k,e,f,g,i⟩:=ee h.ok;obtain ⟨a,b,_,_,_,_⟩:=aF h.ok;refine ⟨kg (M:=fP M p) c d ?_ e f g i,⟨h.mw.cs,h.mw.ram,h.mw.xs,h.mw.ys⟩,h.ux,h.pc,h.hd⟩;show aQ M.cs.length M.cs p=true;unfold aQ;rw [a,b,j];rfl
def Gw (M:MV):Prop:=Gd M/\Ud M.d
theorem iz {M:MV} (h:Gw M) {k:Nat} (hk:k<16) (i:Bool) {v:Int} (hv:U v):Gw (aJ M k i v):=⟨h.1.trap hk i hv,h.2⟩
theorem yD {M:MV} (h:Gw M) {rd x to:Int} (a:0<=rd) (b:rd<=31) (hx:U x) (d:U to) (c:bits .and .u64 to 3=0):Gw (aP M rd x to):=⟨h.1.done a b hx d c,h.2⟩
theorem jt {M:MV} (h:Gw M) (a n kind:Int) {x:Int} (hx:U x):Gw (aC M a n kind x).2.1:=⟨h.1.acc a n kind x,yw h.2 a n kind hx⟩
theorem km {M:MV} (h:Gw M) {a n kind x v:Int} (hx:U x) (b:((aC M a n kind x).2.2 != 0)=true) (hv:U v):Gw (cw (aC M a n kind x) 0 v).1:=by unfold cw;exact iz (jt h a n kind hx) (jA rfl b).2 false hv
theorem KG {M:MV} (h:Gw M) (a kind:Int):Gw (cR M a kind):=⟨h.1.marked _,h.2⟩
theorem gW {M:MV} (h:Gw M) {rd x:Int} (a:0<=rd) (b:rd<=31) (hx:U x) {N:MV} (c:Gw N) (e:N.pc=M.pc):Gw (aP N rd x (Uz.wrap (M.pc+4))):=yD c a b hx (bG _) (by rw [<- e];exact OU c.1)
theorem MP {M:MV} (h:Gw M) {i:Ins} (d:jg i) (g:3<=i.op) (e:i.op<=10) (a b:Int):Gw (oF M i a b (Uz.wrap i.imm)).1:=by
 have c:U (fj M i a b (Uz.wrap i.imm))/\fj M i a b (Uz.wrap i.imm)%2=0:=by
  have j:=h.1.al4;unfold fj;split;·exact ⟨aj .andNot _ 1,G5 _⟩
  ·rename_i k;split;·refine ⟨bG _,?_⟩;rw [IntKind.wrap_u64];omega
   ·refine ⟨bG _,?_⟩;have:=d.even al;rw [IntKind.wrap_u64,IntKind.wrap_u64];omega
 unfold oF;split;·exact iz h a5 false c.1
 ·rename_i f;refine yD h ?_ ?_ (bG _) c.1 (OV c.1 c.2 et);·split;exact Int.le_refl 0;exact d.rd0
  ·split;decide;exact d.rd31
theorem MQ {M:MV} (h:Gw M) {i:Ins} (e:jg i) (c:11<=i.op) (d:i.op<=17) {a:Int} (f:U a):Gw (mc M i a).1:=by
 have g:i8 i.op<=8:=by obtain ⟨b,m,k,l,j⟩:=i;dsimp only at c d ⊢;obtain rfl|rfl|rfl|rfl|rfl|rfl|rfl:b=11\/b=12\/b=13\/b=14\/b=15\/b=16\/b=17:=al;all_goals decide
 unfold mc;dsimp only;split;·exact km h kO ‹_› f
 ·refine gW (jt h a _ 2 kO) e.rd0 e.rd31 ?_ (jt h a _ 2 kO) rfl;split;·exact bG _
  ·exact rO h.1 h.2 a _ g 2 0
theorem KH {M:MV} (h:Gw M) {i:Ins} {a b:Int} (c:U a) (hb:U b):Gw (mN M i a b).1:=by
 unfold mN;dsimp only;split;·exact km h hb ‹_› c
 ·exact gW (jt h a _ 3 hb) a5 a5 kO (jt h a _ 3 hb) rfl
theorem yE {M:MV} (h:Gw M) {b:Bool} {a:Int} (c:U a) (hb:b=true\/a=0):Gw (bT M b a):=⟨h.1.hold c hb,h.2⟩
theorem MR {M:MV} (h:Gw M) {i:Ins} (f:jg i) {a b:Int} (g:U a) (hb:U b):Gw (ix M i a b).1:=by
 have p:aZ i.op<=8:=by unfold aZ;split<;>decide
 have d:=KG h a 3;have q:∀ kind,(cR M a kind).pc=M.pc:=λ_=>rfl;unfold ix;split
 ·unfold PS;dsimp only;split;·exact km h kO ‹_› g
  ·have o:=jt h a (aZ i.op) 2 kO;have e:=(iw M a (aZ i.op) 2 0).1;exact gW h f.rd0 f.rd31 (bG _) (yE (KG o a 2) (sB _ _ _ _ _ _ g) (Or.inl rfl)) e
 ·split;·exact iz h a5 false g
  ·split;·obtain ⟨c,j,k⟩:=kL M.ram M.ram.length M.cs (eC M.cs M.pr 3) a 3;have l:(bU M a 3).code=c:=k;rw [l,Int.toNat_natCast];exact iz d j false g
   ·split
    ·unfold Qt;split
     ·dsimp only;split;·exact km d hb ‹_› g
      ·exact gW d f.rd0 f.rd31 kO (yE (jt d a _ 3 hb) kO (Or.inr rfl)) (iw (cR M a 3) a (aZ i.op) 3 b).1
     ·exact gW d f.rd0 f.rd31 ⟨a5,a5⟩ (yE d kO (Or.inr rfl)) rfl
    ·unfold OK;dsimp only;split;·rename_i k;unfold cw;exact iz (jt d a _ 2 kO) (yv rfl k).2.2 false g
     ·have m:=jt d a (aZ i.op) 2 kO;have n:U (iu i.op (aC (cR M a 3) a (aZ i.op) 2 0).1 b):=EI _ (rO d.1 d.2 a _ p 2 0) hb;split;·exact km m n ‹_› g
      ·exact gW d f.rd0 f.rd31 (bG _) (jt m a _ 3 n) ((iw _ _ _ _ _).1.trans (iw _ _ _ _ _).1)
theorem OX {M:MV} (h:Gw M) {i:Ins} (j:jg i) {a w:Int} (l:U a) (o:U w):Gw (mO M i a w).1:=by
 unfold mO;split;·exact iz h a5 false o
 ·rename_i g;have n:=KF h.1.mw.cs i.imm;have d:=gW h j.rd0 j.rd31 n h rfl;have b:iP M.cs.length M.cs i.imm M.pr=true:=by
   cases q:iP M.cs.length M.cs i.imm M.pr;·rw [q] at g;exact absurd rfl g
   ·rfl
  have f:cS i.imm=true:=(by unfold iP at b;simp only [Bool.and_eq_true] at b;exact b.1.1.2);have k:U (sf i a (cZ M.cs i.imm)):=by
   have m:U (kN i a):=(by unfold kN;split;exact bG _;exact l);unfold sf;split;·exact aj _ _ _
   ·split;·exact aj _ _ _
    ·exact m
  dsimp only;split;·generalize aP M i.rd (cZ M.cs i.imm) (Uz.wrap (M.pc+4))=N at d ⊢;obtain ⟨c,e,_,_,_,_⟩:=aF d.1.ok;exact ⟨d.1.cs_ (by rw [oG];exact c) (rD _ c d.1.mw.cs e _ _ k f) (Eh _ d.1.mw.cs _ _ k) (EK _ c _ _),d.2⟩
  ·exact d
theorem uK (s:Int) (h:U s) (a:eZ 0 s=true) (m:Bool):bI (cP s m)=true:=by
 cases m with
 | true=>exact Ak s h a
 | false =>show bI (wrap64 (ap s 8))=true;rw [wK s 8 h];split<;>decide +kernel
theorem OY {M:MV} (h:Gw M) {i:Ins} (g:jg i) {w:Int} (d:U w):Gw (jU M i w).1:=by
 obtain ⟨b,a,f,_,_,_⟩:=aF h.1.ok;have u0:=h.1.mw.cs 0;have c:=dU a 0 al;unfold jU;split;·refine iz h ?_ false kO;unfold nX;split;decide;split<;>decide
 ·split;·exact iz h a5 false h.1.pc
  ·split
   ·split;·exact iz h a5 false d
    ·have e:Gd (hZ M (M.cs.set 0 (cF (M.cs.getD 0 0) (i.op==96)))):=h.1.cs_ (by rw [List.length_set];exact b) (cC _ b a 0 al _ (Az _ u0 _ c)) (iX _ h.1.mw.cs 0 _ (pV _ _)) (by rw [js _ 0 9 _ al]);refine yD ⟨e.priv (uK _ u0 c _),h.2⟩ a5 a5 kO ?_ ?_;·unfold dR;split;exact h.1.mw.cs 6;exact h.1.mw.cs 12
     ·unfold dR;split;·exact QQ _ (Or.inl (dU a 6 al))
      ·exact QQ _ (Or.inr (dU a 12 al))
   ·split;·exact iz h a5 false d
    ·split;·exact gW h a5 a5 kO (N:=fO M true) ⟨h.1.wait true,h.2⟩ rfl
     ·exact gW h a5 a5 kO h rfl
theorem MS {M:MV} (h:Gw M) {i:Ins} (a:jg i) {w:Int} (d:U w):Gw (cN M i w).1:=by
 have b:=h.1.ux i.a.toNat;have c:=h.1.ux i.b.toNat;have e:=a.op1;unfold cN;dsimp only;split;·exact gW h a.rd0 a.rd31 (bG _) h rfl
 split;·exact gW h a.rd0 a.rd31 (bG _) h rfl
 split;·exact MP h a al ‹_› _ _
 split;·exact MQ h a al ‹_› (bG _)
 split;·exact KH h (bG _) c
 split;·exact gW h a.rd0 a.rd31 (P5 _ b (by split;exact c;exact bG _)) h rfl
 split;·exact MR h a b c
 split;·exact gW h a5 a5 kO h rfl
 split;·exact OX h a b d
 ·exact OY h a d
theorem MT {M:MV} (h:Gw M) (g:∀ l p,0<=fp l p->∃ k:Nat,k<16/\fp l p=k):Gw (jK M).1:=by
 have a:Gw (fO M false):=⟨h.1.wait false,h.2⟩;unfold jK;split;·exact h
 ·split;·rename_i f;obtain ⟨k,b,e⟩:=g _ _ f;rw [e,Int.toNat_natCast];exact iz a b true kO
  ·dsimp only;split;·exact km a kO ‹_› (jt a M.pc 4 1 kO).1.pc
   ·have c:=rO a.1 a.2 M.pc 4 al 1 0;split;·exact iz (jt a M.pc 4 1 kO) a5 false c
    ·rename_i i d;exact MS (jt a M.pc 4 1 kO) (yA d) c
theorem bp.swap {B E i:Nat} {w:World} {L1 L2:List FRow} {r:FRow} (h:bp B E w (L1++r::L2)) (q:FRow) (g:w.ownsRow E q.t 1 q.v q.n q.xs) (t:B<=E) (u:E<=i) (v:w.heap.size<=i):bp B i w (L1++q::L2):=by
 have d:∀ s ∈ L1++q::L2,s=q\/s ∈ L1++r::L2:=λs c=>by
  simp only [List.mem_append,List.mem_cons] at c ⊢;rcases c with c|c|c;·exact Or.inr (Or.inl c)
  ·exact Or.inl c
  ·exact Or.inr (Or.inr (Or.inr c))
 refine ⟨λs c=>?_,λs c k e=>?_,?_⟩
 ·rcases d s c with rfl|c;·exact dp g t
  ·exact h.own s c
 ·rcases d s c with rfl|c;·exact Nat.lt_of_lt_of_le (g.lt k e).2 v
  ·exact Nat.lt_of_lt_of_le (h.hi s c k e) u
 ·have m:=h.ne;rw [List.pairwise_append,List.pairwise_cons] at m ⊢;obtain ⟨n,⟨x,o⟩,p⟩:=m;refine ⟨n,⟨λs c k e f=>?_,o⟩,λa l b j k e f=>?_⟩;·have:=(g.lt k e).1;have:=h.hi s (by simp [c]) k f;omega
  ·rcases List.mem_cons.1 j with rfl|j;·have:=(g.lt k f).1;have:=h.hi a (by simp [l]) k e;omega
   ·exact p a l b (by simp [j]) k e f
theorem bp.other {B E:Nat} {w w':World} {L:List FRow} (h:bp B E w L) (hk:∀ q ∈ L,∀ k,q.v.ownBlock=some k->w'.heap[k]?=w.heap[k]?):bp B E w' L:=⟨λr a=>gM (h.own r a) (hk r a),h.hi,h.ne⟩
theorem yF {g:Nat} {L1 L2:List FRow} {r q:FRow} (h:∀ s ∈ L1++r::L2,s.v.ownBlock≠some g) (b:q.v.ownBlock≠some g):∀ s ∈ L1++q::L2,s.v.ownBlock≠some g:=λs a=>by
 simp only [List.mem_append,List.mem_cons] at a;rcases a with a|rfl|a;·exact h s (by simp [a])
 ·exact b
 ·exact h s (by simp [a])
structure Tq (B g:Nat) (w0:World) (M:MV) (A:MA) (t:TV) (w:World):Prop where
 row:gG ⟨g,br M A t,[]⟩ w
 fam:bp B w.heap.size w (aH M A)
 ne:∀ q ∈ aH M A,q.v.ownBlock≠some g
 le:B<=w.heap.size
 os:w.os=w0.os
 tape:w.tape=w0.tape
 output:w.output=w0.output
 size:w0.heap.size<=w.heap.size
 block:∀ k,k<B->k≠g->w.heap[k]?=w0.heap[k]?
 t0:qb w0
 tb:0<B
 tn:0≠g
section
variable {B g : Nat} {w0 w w' : World} {M M' : MV} {A A' : MA} {t t' : TV}
theorem Tq.tab (h:Tq B g w0 M A t w):qb w:=λj a=>by have:=h.t0 j a;simp only [World.cell?,h.block _ h.tb h.tn];exact this
theorem Tq.sl (h:Tq B g w0 M A t w):uO w M A:=by obtain ⟨a,b,c,d,e⟩:=bp.rsl (A:=A) (x:=M.x) (cs:=M.cs) (ram:=M.ram) (xs:=M.d.xs) (ys:=M.d.ys) h.fam;exact ⟨a,b,c,d,e⟩
theorem Tq.glt (h:Tq B g w0 M A t w):g<w.heap.size:=let ⟨_,a⟩:=h.row;(Array.getElem?_eq_some_iff.1 a).1
theorem Tq.other {R:List Rw} {E:Nat} (h:Tq B g w0 M A t w) (f:bp B E w (aH M A)) (k:Iv [g] w R w'):bp B E w' (aH M A):=f.other λq a i e=>k.ag.block i ((f.own q a).lt i e).2 (by rw [List.mem_singleton];exact λb=>h.ne q a (by rw [e,b]))
theorem Tq.iv1 (h:Tq B g w0 M A t w) (k:Iv [g] w [⟨g,br M' A' t',[]⟩] w') (f:bp B w'.heap.size w' (aH M' A')) (a:∀ q ∈ aH M' A',q.v.ownBlock≠some g):Tq B g w0 M' A' t' w' :=
 ⟨k.row1,f,a,Nat.le_trans h.le k.ag.size,k.ag.os.trans h.os,k.ag.tape.trans h.tape,k.ag.output.trans h.output,Nat.le_trans h.size k.ag.size,λi c b=>(k.ag.block i (Nat.lt_of_lt_of_le c h.le) (by rw [List.mem_singleton];exact b)).trans (h.block i c b),h.t0,h.tb,h.tn⟩
theorem Tq.iv (h:Tq B g w0 M A t w) (k:Iv [g] w [⟨g,br M' A t',[]⟩] w') (a:aH M' A=aH M A):Tq B g w0 M' A t' w' :=
 h.iv1 k (by rw [a];exact (h.other h.fam k).low (Nat.le_refl _) k.ag.size) (by rw [a];exact h.ne)
theorem Tq.new (h:Tq B g w0 M A t w) (k:Iv [g] w [⟨g,br M' A' t',[]⟩] w') (f:bp w.heap.size w'.heap.size w' (aH M' A')):Tq B g w0 M' A' t' w':=h.iv1 k (f.low h.le (Nat.le_refl _)) (λq a e=>by have:=((f.own q a).lt g e).1;have:=h.glt;omega)
theorem Tq.iv0 (h:Tq B g w0 M A t w):Iv [g] w [⟨g,br M A t,[]⟩] w:=Iv.one h.row
theorem Tq.below (h:Tq B g w0 M A t w) (hb:Bw w w'):Tq B g w0 M A t w':=h.iv (h.iv0.below hb) rfl
theorem Tq.ram (h:Tq B g w0 M A t w) {zs:List Int} {a:Option Addr} {c:Nat} (k:Iv [g] w [⟨g,br {M with ram:=zs} {A with ar:=a,cr:=c} t',[]⟩] w') (o:w'.ownsRow w.heap.size 5 1 (.slice a zs.length c) zs.length (zs.map (Value.int .u8))):Tq B g w0 (bz M zs) {A with ar:=a,cr:=c} t' w':=by refine h.iv1 (M':=bz M zs) k ?_ (yF (L1:=[aI A.ax M.x.length A.cx M.x,aI A.ac M.cs.length A.cc M.cs]) (L2:=[aB A.ai M.d.xs.length A.ci M.d.xs,aB A.ao M.d.ys.length A.co M.d.ys]) (r:=aB A.ar M.ram.length A.cr M.ram) (q:=aB a zs.length c zs) h.ne λe=>by have:=(o.lt g e).1;have:=h.glt;omega);have f:=h.other h.fam k;exact bp.swap (L1:=[aI A.ax M.x.length A.cx M.x,aI A.ac M.cs.length A.cc M.cs]) (r:=aB A.ar M.ram.length A.cr M.ram) (L2:=[aB A.ai M.d.xs.length A.ci M.d.xs,aB A.ao M.d.ys.length A.co M.d.ys]) f (aB a zs.length c zs) o h.le k.ag.size (Nat.le_refl _)
theorem Tq.csrs (h:Tq B g w0 M A t w) {zs:List Int} {b:Option Addr} {c:Nat} (a:M'.x=M.x/\M'.cs=zs/\M'.ram=M.ram/\M'.d=M.d) (k:Iv [g] w [⟨g,br M' {A with ac:=b,cc:=c} t',[]⟩] w') (o:w'.ownsRow w.heap.size 22 1 (.slice b zs.length c) zs.length (zs.map (Value.int .u64))):Tq B g w0 M' {A with ac:=b,cc:=c} t' w':=by
 have d:=yF (L1:=[aI A.ax M.x.length A.cx M.x]) (L2:=[aB A.ar M.ram.length A.cr M.ram,aB A.ai M.d.xs.length A.ci M.d.xs,aB A.ao M.d.ys.length A.co M.d.ys]) (r:=aI A.ac M.cs.length A.cc M.cs) (q:=aI b zs.length c zs) h.ne λe=>by have:=(o.lt g e).1;have:=h.glt;omega
 have f:=h.other h.fam k;have s:=bp.swap (L1:=[aI A.ax M.x.length A.cx M.x]) (r:=aI A.ac M.cs.length A.cc M.cs) (L2:=[aB A.ar M.ram.length A.cr M.ram,aB A.ai M.d.xs.length A.ci M.d.xs,aB A.ao M.d.ys.length A.co M.d.ys]) f (aI b zs.length c zs) o h.le k.ag.size (Nat.le_refl _);refine h.iv1 k ?_ ?_;·unfold aH;rw [a.1,a.2.1,a.2.2.1,a.2.2.2];exact s
 ·unfold aH;rw [a.1,a.2.1,a.2.2.1,a.2.2.2];exact d
theorem qS {n:Nat} {a:Option Addr} {c:Nat} {xs:List Int} (h:w.ownsRow B 22 1 (.slice a xs.length c) xs.length (xs.map (Value.int .u64))) (hn:xs.length=n) (k:0<n):∃ b,a=some ⟨b,0,none⟩/\B<=b/\∀ j,j<n->w.cell? ⟨b,j,none⟩=some (.u (xs.getD j 0))/\w.frozen? ⟨b,j,none⟩=false:=by obtain ⟨b,g,e,f⟩:=nY h al;simp only [Value.slice.injEq,true_and] at e;obtain ⟨d,i⟩:=e;refine ⟨b,d,f,λj l=>?_⟩;rw [d] at h;refine ⟨?_,h.frozenAt j⟩;rw [h.cellAt j al];rw [List.getElem?_map,List.getElem?_eq_getElem (show j<xs.length by omega),List.getD_eq_getElem?_getD,List.getElem?_eq_getElem (show j<xs.length by omega)];rfl
theorem Tq.atX (h:Tq B g w0 M A t w) (a:M.x.length=32):∃ b,A.ax=some ⟨b,0,none⟩/\b≠g/\∀ j,j<32->w.cell? ⟨b,j,none⟩=some (.u (M.x.getD j 0))/\w.frozen? ⟨b,j,none⟩=false:=by have f:w.ownsRow B 22 1 (.slice A.ax M.x.length A.cx) M.x.length (M.x.map (Value.int .u64)):=h.fam.own (aI A.ax M.x.length A.cx M.x) ck;obtain ⟨b,c,i,d⟩:=qS f a al;exact ⟨b,c,λe=>h.ne (aI A.ax M.x.length A.cx M.x) ck (by show (Value.slice A.ax M.x.length A.cx).ownBlock=_;rw [c,e];rfl),d⟩
theorem Tq.atC (h:Tq B g w0 M A t w) (a:M.cs.length=22):∃ b,A.ac=some ⟨b,0,none⟩/\b≠g/\∀ j,j<22->w.cell? ⟨b,j,none⟩=some (.u (M.cs.getD j 0))/\w.frozen? ⟨b,j,none⟩=false:=by have f:w.ownsRow B 22 1 (.slice A.ac M.cs.length A.cc) M.cs.length (M.cs.map (Value.int .u64)):=h.fam.own (aI A.ac M.cs.length A.cc M.cs) ck;obtain ⟨b,c,i,d⟩:=qS f a al;exact ⟨b,c,λe=>h.ne (aI A.ac M.cs.length A.cc M.cs) ck (by show (Value.slice A.ac M.cs.length A.cc).ownBlock=_;rw [c,e];rfl),d⟩
theorem Tq.good (h:Tq B g w0 M A t w):uA M.ram.length A.ar A.cr:=AK (h.fam.own (aB A.ar M.ram.length A.cr M.ram) ck)
theorem Tq.setX (h:Tq B g w0 M A t w) {b:Nat} (hb:A.ax=some ⟨b,0,none⟩) (i:Nat) (v:Int):Tq B g w0 (xM M (M.x.set i v)) A t (w.setCell ⟨b,i,none⟩ (.u v)):=by
 have j:w.ownsRow B 22 1 (.slice A.ax M.x.length A.cx) M.x.length (M.x.map (Value.int .u64)):=h.fam.own (aI A.ax M.x.length A.cx M.x) ck;rw [hb] at j;have f:=j.stored i (.u v);rw [ma] at f;have u:=(j.lt b rfl).1;have x:w.grownBy (w.setCell ⟨b,i,none⟩ (.u v)) (aI A.ax M.x.length A.cx M.x).v.ownBlock:=by simp only [aI];rw [hb];exact f.2
 have y:=bp.mark (L1:=[]) (r:=aI A.ax M.x.length A.cx M.x) (L2:=[aI A.ac M.cs.length A.cc M.cs,aB A.ar M.ram.length A.cr M.ram,aB A.ai M.d.xs.length A.ci M.d.xs,aB A.ao M.d.ys.length A.co M.d.ys]) h.fam x ((M.x.set i v).map (Value.int .u64)) tt;have a:(w.setCell ⟨b,i,none⟩ (.u v)).heap.size=w.heap.size:=aY _ _ _;have m:aH (xM M (M.x.set i v)) A=[]++⟨(aI A.ax M.x.length A.cx M.x).t,(aI A.ax M.x.length A.cx M.x).v,(aI A.ax M.x.length A.cx M.x).n,(M.x.set i v).map (Value.int .u64)⟩::[aI A.ac M.cs.length A.cc M.cs,aB A.ar M.ram.length A.cr M.ram,aB A.ai M.d.xs.length A.ci M.d.xs,aB A.ao M.d.ys.length A.co M.d.ys]:=by simp [aH,xM,aI]
 have c:∀ k,k≠b->(w.setCell ⟨b,i,none⟩ (.u v)).heap[k]?=w.heap[k]?:=λk c=>Below.heap_setCell w _ _ k c;have d:g≠b:=λe=>h.ne (aI A.ax M.x.length A.cx M.x) ck (by show (Value.slice A.ax M.x.length A.cx).ownBlock=_;rw [hb,e];rfl);refine ⟨?_,?_,(λq z=>by obtain ⟨C,n,l⟩:=iS (M:=M) (M':=xM M (M.x.set i v)) (A:=A) (show (M.x.set i v).length=M.x.length by simp) rfl rfl rfl rfl q z;rw [<- l];exact h.ne C n),by rw [a];exact h.le,h.os,h.tape,h.output,by rw [a];exact h.size,λk o p=>(c k al).trans (h.block k o p),h.t0,h.tb,h.tn⟩;·obtain ⟨T,s⟩:=h.row;refine ⟨T,(c g d).trans (s.trans ?_)⟩;simp [br,xM]
 ·rw [m,a];exact y.1
theorem Tq.setC (h:Tq B g w0 M A t w) {b:Nat} (hb:A.ac=some ⟨b,0,none⟩) (i:Nat) (v:Int):Tq B g w0 (cM M (M.cs.set i v)) A t (w.setCell ⟨b,i,none⟩ (.u v)):=by
 have j:w.ownsRow B 22 1 (.slice A.ac M.cs.length A.cc) M.cs.length (M.cs.map (Value.int .u64)):=h.fam.own (aI A.ac M.cs.length A.cc M.cs) ck;rw [hb] at j;have f:=j.stored i (.u v);rw [ma] at f;have u:=(j.lt b rfl).1;have x:w.grownBy (w.setCell ⟨b,i,none⟩ (.u v)) (aI A.ac M.cs.length A.cc M.cs).v.ownBlock:=by simp only [aI];rw [hb];exact f.2
 have y:=bp.mark (L1:=[aI A.ax M.x.length A.cx M.x]) (r:=aI A.ac M.cs.length A.cc M.cs) (L2:=[aB A.ar M.ram.length A.cr M.ram,aB A.ai M.d.xs.length A.ci M.d.xs,aB A.ao M.d.ys.length A.co M.d.ys]) h.fam x ((M.cs.set i v).map (Value.int .u64)) tt;have a:(w.setCell ⟨b,i,none⟩ (.u v)).heap.size=w.heap.size:=aY _ _ _;have m:aH (cM M (M.cs.set i v)) A=[aI A.ax M.x.length A.cx M.x]++⟨(aI A.ac M.cs.length A.cc M.cs).t,(aI A.ac M.cs.length A.cc M.cs).v,(aI A.ac M.cs.length A.cc M.cs).n,(M.cs.set i v).map (Value.int .u64)⟩::[aB A.ar M.ram.length A.cr M.ram,aB A.ai M.d.xs.length A.ci M.d.xs,aB A.ao M.d.ys.length A.co M.d.ys]:=by simp [aH,cM,aI]
 have c:∀ k,k≠b->(w.setCell ⟨b,i,none⟩ (.u v)).heap[k]?=w.heap[k]?:=λk c=>Below.heap_setCell w _ _ k c;have d:g≠b:=λe=>h.ne (aI A.ac M.cs.length A.cc M.cs) ck (by show (Value.slice A.ac M.cs.length A.cc).ownBlock=_;rw [hb,e];rfl);refine ⟨?_,?_,(λq z=>by obtain ⟨C,n,l⟩:=iS (M:=M) (M':=cM M (M.cs.set i v)) (A:=A) rfl (show (M.cs.set i v).length=M.cs.length by simp) rfl rfl rfl q z;rw [<- l];exact h.ne C n),by rw [a];exact h.le,h.os,h.tape,h.output,by rw [a];exact h.size,λk o p=>(c k al).trans (h.block k o p),h.t0,h.tb,h.tn⟩;·obtain ⟨T,s⟩:=h.row;refine ⟨T,(c g d).trans (s.trans ?_)⟩;simp [br,cM]
 ·rw [m,a];exact y.1
theorem Tq.acc (h:Tq B g w0 M A t w) (a:Gd M) {addr size kind x:Int} (f:ic size=true) (b:1<=kind) (c:kind<=3) (d:kind=1->size=4) (i:U addr) (hx:U x):Calls prog 200 #[.func (.func 40) #[] #[],.agg (aO M A),.u addr,.i size,.i kind,.u x] w (vu w (aC M addr size kind x)):=by
 have q:ui M size kind=true:=by
  unfold ui;rw [a.ok,f,decide_eq_true ⟨b,c⟩];by_cases e:kind=1;·rw [d e];simp
  ·simp [e]
 have e:sC M addr size kind x=aC M addr size kind x:=by unfold sC;rw [if_pos q]
 rw [<- e];exact yp M A addr size kind x w a.len h.sl a.mw a.hd i hx h.tab (λ_=>h.good)
end
def wN (op:Int):Nat:=2^((bN (op-1).toNat).f3z%4).toNat
def wS (op:Int):Bool:=decide ((bN (op-1).toNat).f3z<4)
def dV (op:Int):Value :=
 if op<3 then .iface 176 (.agg #[])
 else if op<11 then .iface 177 (.agg #[])
 else if op<18 then ml .ld (wN op) (wS op)
 else if op<22 then ml .st (wN op) (wS op)
 else if op<63 then .iface 176 (.agg #[])
 else if op<85 then (if op=63\/op=74 then ml .hd (wN op) (wS op) else if op=64\/op=75 then ml .sc (wN op) (wS op) else ml .am (wN op) (wS op))
 else if op<87 then .iface 188 (.agg #[])
 else if op<93 then .iface 189 (.agg #[])
 else .iface 190 (.agg #[])
theorem KJ:∀ k,k<98->0<=(bN k).f3z/\(bN k).f3z<8/\((10<=k/\k<=16)->wN ((k:Nat)+1:Int)=i8 ((k:Nat)+1:Int)/\wS ((k:Nat)+1:Int)=decide (k<14))/\((17<=k/\k<=20)->wN ((k:Nat)+1:Int)=2^(k-17))/\((62<=k/\k<=83)->wN ((k:Nat)+1:Int)=aZ ((k:Nat)+1:Int)/\wS ((k:Nat)+1:Int)=true):=by
 have h:(List.range 98).all (λk=>decide (0<=(bN k).f3z/\(bN k).f3z<8/\((10<=k/\k<=16)->wN ((k:Nat)+1:Int)=i8 ((k:Nat)+1:Int)/\wS ((k:Nat)+1:Int)=decide (k<14))/\((17<=k/\k<=20)->wN ((k:Nat)+1:Int)=2^(k-17))/\((62<=k/\k<=83)->wN ((k:Nat)+1:Int)=aZ ((k:Nat)+1:Int)/\wS ((k:Nat)+1:Int)=true)))=true:=a3
 intro k a;exact of_decide_eq_true (List.all_eq_true.1 h k ti)
theorem EL {op:Int} (a:1<=op) (i:op<=98):0<=(bN (op-1).toNat).f3z/\(bN (op-1).toNat).f3z<8/\((11<=op/\op<=17)->wN op=i8 op/\wS op=decide (op-11<4))/\((18<=op/\op<=21)->wN op=2^(op-18).toNat)/\((63<=op/\op<=84)->wN op=aZ op/\wS op=true):=by
 obtain ⟨k,rfl⟩:∃ k:Nat,op=(k:Int)+1:=⟨(op-1).toNat,al⟩;obtain ⟨a,d,f,g,h⟩:=KJ k al;rw [show ((k:Int)+1-1).toNat=k from al];refine ⟨a,d,λe=>?_,λe=>?_,λe=>h al⟩
 ·obtain ⟨b,c⟩:=f al;refine ⟨b,c.trans ?_⟩;by_cases q:k<14;·rw [decide_eq_true q,decide_eq_true al]
  ·rw [decide_eq_false q,decide_eq_false al]
 ·rw [g al,show ((k:Int)+1-18).toNat=k-17 from al]
theorem rS (op:Int) (J:1<=op) (u:op<=98) (w:World):CB 205 #[.i op] w (.agg #[.i (wN op:Nat),.bool (wS op)]):=by
 obtain ⟨N,Z,_⟩:=EL J u;have B:rk op=true:=decide_eq_true ⟨J,u⟩;have f:=λW=>vT op (rN al al) W;have H:u9 op=(bN (op-1).toNat).val:=by unfold u9;rw [B];rfl
 rw [H,B] at f;unfold wN wS;generalize bN (op-1).toNat=R at *;obtain ⟨i,I,o,z,m⟩:=R;unfold Row.val at f;dsimp only at f;generalize Fm.str I=l at f;generalize (Row.mk i I o z m).f3z=y at *;refine cn (S:=Bs w [(#[.i 0,.bool false],179)]) (args:=[.i op]) [(#[.i 0,.bool false],179)] func205 ?_;refine aW Bs.eng {} 40 (Bs.start _ _) (λG _=>f G) ?_;rintro G e Y L ⟨rfl,M⟩;refine ⟨_,0,rfl,gp a3,?_⟩;have v:=L.below M;refine af Bs.eng {} 3 v λb q=>?_;refine iQ 2 (gF (T:=232) (z:=noRow) a3 b) ?_;refine bM (bj (g:=b.heap.size) (t:=232) (ty:=232) (old:=#[.string ⟨#[]⟩,.string ⟨#[]⟩,.u 0,.u 0,.u 0]) (cells:=#[.string i,.string l,.u o,.u y,.u m]) (heap_alloc_new _ _) a3 rfl a3) ?_;have X:w.heap.size<b.heap.size:=(Array.getElem?_eq_some_iff.1 (q.1 0 _ rfl)).1;have D:Bw b ((b.alloc (.cells noRow.cells 232)).setRow b.heap.size #[.string i,.string l,.u o,.u y,.u m]):=ch (bal _ _) (Nat.le_refl _) _;have E:gG ⟨b.heap.size,#[.string i,.string l,.u o,.u y,.u m],[]⟩ ((b.alloc (.cells noRow.cells 232)).setRow b.heap.size #[.string i,.string l,.u o,.u y,.u m]):=⟨_,setRow_heap _ _ _ _ _ _ (heap_alloc_new _ _)⟩;generalize (b.alloc (.cells noRow.cells 232)).setRow b.heap.size #[.string i,.string l,.u o,.u y,.u m]=r at D E ⊢;have j:=q.below D;have p:Iv [w.heap.size,b.heap.size] r [⟨w.heap.size,#[.i 0,.bool false],[]⟩,⟨b.heap.size,#[.string i,.string l,.u o,.u y,.u m],[]⟩] r:=Iv.two ⟨_,j.1 0 _ rfl⟩ E al;refine aR (Iv [w.heap.size,b.heap.size] r [⟨w.heap.size,#[.i 0,.bool false],[]⟩,⟨b.heap.size,#[.string i,.string l,.u o,.u y,.u m],[]⟩]) ?_;refine cW (R:=[]) trivial {} 3 ?_;refine xK ?_;have fin:∀ (n:Nat) (s:Bool) (k:List KI) (F:Fr) (c:World),Iv [w.heap.size,b.heap.size] r [⟨w.heap.size,#[.i 0,.bool false],[]⟩,⟨b.heap.size,#[.string i,.string l,.u o,.u y,.u m],[]⟩] c->gP k=true->((dE prog ({}:Hw prog (Ag [w.heap.size,b.heap.size] c)) Tryz.f205.ntmps 40 k (uZ 2 1 F) [⟨w.heap.size,#[.i 0,.bool false],[]⟩,⟨b.heap.size,#[.string i,.string l,.u o,.u y,.u m],[]⟩]).1.1,(dE prog ({}:Hw prog (Ag [w.heap.size,b.heap.size] c)) Tryz.f205.ntmps 40 k (uZ 2 1 F) [⟨w.heap.size,#[.i 0,.bool false],[]⟩,⟨b.heap.size,#[.string i,.string l,.u o,.u y,.u m],[]⟩]).1.2.2.2)=(true,[⟨w.heap.size,#[.i n,.bool s],[]⟩,⟨b.heap.size,#[.string i,.string l,.u o,.u y,.u m],[]⟩]) ->
  (dE prog ({}:Hw prog (Ag [w.heap.size,b.heap.size] c)) Tryz.f205.ntmps 40 k (uZ 2 1 F) [⟨w.heap.size,#[.i 0,.bool false],[]⟩,⟨b.heap.size,#[.string i,.string l,.u o,.u y,.u m],[]⟩]).2.map Prod.fst=(dE prog ({}:Hw prog (Ag [w.heap.size,b.heap.size] c)) Tryz.f205.ntmps 40 k (uZ 2 1 F) [⟨w.heap.size,#[.i 0,.bool false],[]⟩,⟨b.heap.size,#[.string i,.string l,.u o,.u y,.u m],[]⟩]).2.map Prod.snd ->
  (lk (dE prog ({}:Hw prog (Ag [w.heap.size,b.heap.size] c)) Tryz.f205.ntmps 40 k (uZ 2 1 F) [⟨w.heap.size,#[.i 0,.bool false],[]⟩,⟨b.heap.size,#[.string i,.string l,.u o,.u y,.u m],[]⟩]).1.2.2.1 2).map Prod.fst=some (.p w.heap.size 0) ->
  n=2^(y%4).toNat/\s=decide (y<4)->Wg prog (Iv [w.heap.size,b.heap.size] r [⟨w.heap.size,#[.i 0,.bool false],[]⟩,⟨b.heap.size,#[.string i,.string l,.u o,.u y,.u m],[]⟩]) (bodyPost prog Tryz.f205 λe w'=>e=.returned (.agg #[.i (2^(y%4).toNat:Nat),.bool (decide (y<4))])/\Bw w w') Tryz.f205.ntmps k F c:=by
  intro n s k F c d hn hx he U A
  refine aR (λ_=>True) (hn:=hn) ?_
  refine aL 2 1 ?_
  have O:=Iv.two (d.rows _ (List.mem_cons_self ..)) (d.rows _ (List.mem_cons_of_mem _ (List.mem_cons_self ..))) (λe=>by have:=d.nd;simp [e] at this)
  refine iC O {} 40 (hx:=hx) (he:=he) λQ a K C=>?_
  obtain ⟨P,V⟩:=K.rows _ (List.mem_cons_self ..)
  have x:=d.ag.trans K.ag
  refine ⟨_,results_cell_row results205 a.tmps Q w.heap.size P _ (0,0) _ (C.slot U) V underlying179 rfl rfl,by rw [<- A.1,<- A.2],?_⟩
  exact ⟨x.os.trans j.2.os,x.tape.trans j.2.tape,x.output.trans j.2.output,Nat.le_trans j.2.size x.size,λk C=>(x.block k (Nat.lt_of_lt_of_le C j.2.size) lh).trans (j.2.block k C)⟩
 have JX:=λW=>(bn y 0 2 N al a5 a5 W).mono λe w' k=>And.intro k.1 (show Bw W w' by rw [k.2];exact (Below.refl _ _).drew);have h:=λW=>(bn y 2 1 N al a5 a5 W).mono λe w' k=>And.intro k.1 (show Bw W w' by rw [k.2];exact (Below.refl _ _).drew);clear L v q M H f X D E;obtain rfl | rfl | rfl | rfl | rfl | rfl | rfl | rfl:y=0\/y=1\/y=2\/y=3\/y=4\/y=5\/y=6\/y=7:=al
 ·refine af Iv.eng {cv:=[(12,lq Iv.below λW _=>JX W),(16,lq Iv.below λW _=>h W)]} 40 (p.below (Below.refl _ _).drew) λc d=>?_;exact fin 1 true _ _ c d a3 a3 a3 a3 a8
 ·refine af Iv.eng {cv:=[(12,lq Iv.below λW _=>JX W),(16,lq Iv.below λW _=>h W)]} 40 (p.below (Below.refl _ _).drew) λc d=>?_;exact fin 2 true _ _ c d a3 a3 a3 a3 a8
 ·refine af Iv.eng {cv:=[(12,lq Iv.below λW _=>JX W),(16,lq Iv.below λW _=>h W)]} 40 (p.below (Below.refl _ _).drew) λc d=>?_;exact fin 4 true _ _ c d a3 a3 a3 a3 a8
 ·refine af Iv.eng {cv:=[(12,lq Iv.below λW _=>JX W),(16,lq Iv.below λW _=>h W)]} 40 (p.below (Below.refl _ _).drew) λc d=>?_;exact fin 8 true _ _ c d a3 a3 a3 a3 a8
 ·refine af Iv.eng {cv:=[(12,lq Iv.below λW _=>JX W),(16,lq Iv.below λW _=>h W)]} 40 (p.below (Below.refl _ _).drew) λc d=>?_;exact fin 1 false _ _ c d a3 a3 a3 a3 a8
 ·refine af Iv.eng {cv:=[(12,lq Iv.below λW _=>JX W),(16,lq Iv.below λW _=>h W)]} 40 (p.below (Below.refl _ _).drew) λc d=>?_;exact fin 2 false _ _ c d a3 a3 a3 a3 a8
 ·refine af Iv.eng {cv:=[(12,lq Iv.below λW _=>JX W),(16,lq Iv.below λW _=>h W)]} 40 (p.below (Below.refl _ _).drew) λc d=>?_;exact fin 4 false _ _ c d a3 a3 a3 a3 a8
 ·refine af Iv.eng {cv:=[(12,lq Iv.below λW _=>JX W),(16,lq Iv.below λW _=>h W)]} 40 (p.below (Below.refl _ _).drew) λc d=>?_;exact fin 8 false _ _ c d a3 a3 a3 a3 a8
theorem qU (op:Int) (b:63<=op) (c:op<=84) (w:World):CB 206 #[.i op] w (if op=63\/op=74 then ml .hd (wN op) (wS op) else if op=64\/op=75 then ml .sc (wN op) (wS op) else ml .am (wN op) (wS op)):=by
 have a:=λW (_:Bw w W)=>rS op al al W;generalize wN op=n at *;generalize wS op=s at *;refine cn (S:=Bs w []) (args:=[.i op]) [] func206 ?_;by_cases d:op=63;·rw [if_pos al];exact bm (t:=2) (v:=ml .hd n s) Bs.eng {eq:=[(5,au (show (op==63)=true by simp;omega))],cv:=[(8,gB a),(15,gB a),(19,gB a)]} 60 (Bs.start w []) λw' h=>⟨rfl,h.2⟩
 by_cases f:op=74;·rw [if_pos al];exact bm (t:=2) (v:=ml .hd n s) Bs.eng {eq:=[(5,au (show (op==63)=false by simp;omega)),(6,au (show (op==74)=true by simp;omega))],cv:=[(8,gB a),(15,gB a),(19,gB a)]} 60 (Bs.start w []) λw' h=>⟨rfl,h.2⟩
 by_cases g:op=64;·rw [if_neg al,if_pos al];exact bm (t:=2) (v:=ml .sc n s) Bs.eng {eq:=[(5,au (show (op==63)=false by simp;omega)),(6,au (show (op==74)=false by simp;omega)),(12,au (show (op==64)=true by simp;omega))],cv:=[(8,gB a),(15,gB a),(19,gB a)]} 60 (Bs.start w []) λw' h=>⟨rfl,h.2⟩
 by_cases i:op=75;·rw [if_neg al,if_pos al];exact bm (t:=2) (v:=ml .sc n s) Bs.eng {eq:=[(5,au (show (op==63)=false by simp;omega)),(6,au (show (op==74)=false by simp;omega)),(12,au (show (op==64)=false by simp;omega)),(13,au (show (op==75)=true by simp;omega))],cv:=[(8,gB a),(15,gB a),(19,gB a)]} 60 (Bs.start w []) λw' h=>⟨rfl,h.2⟩
 rw [if_neg al,if_neg al];exact bm (t:=2) (v:=ml .am n s) Bs.eng {eq:=[(5,au (show (op==63)=false by simp;omega)),(6,au (show (op==74)=false by simp;omega)),(12,au (show (op==64)=false by simp;omega)),(13,au (show (op==75)=false by simp;omega))],cv:=[(8,gB a),(15,gB a),(19,gB a)]} 60 (Bs.start w []) λw' h=>⟨rfl,h.2⟩
theorem Du (op:Int) (g:1<=op) (d:op<=98) (w:World):CB 152 #[.i op] w (dV op):=by
 have a:=λW (_:Bw w W)=>rS op g d W;have i:=λW (b:63<=op) (c:op<=84)=>qU op b c W;unfold dV;generalize wN op=n at *;generalize wS op=s at *;refine cn (S:=Bs w []) (args:=[.i op]) [] func152 ?_;by_cases k:op<3;·rw [if_pos al];exact bm (t:=2) (v:=.iface 176 (.agg #[])) Bs.eng {eq:=[(5,au (show decide (op<3)=true by rw [decide_eq_true_eq];omega))]} 100 (Bs.start w []) λw' h=>⟨rfl,h.2⟩
 by_cases l:op<11;·rw [if_neg al,if_pos al];exact bm (t:=2) (v:=.iface 177 (.agg #[])) Bs.eng {eq:=[(5,au (show decide (op<3)=false by rw [decide_eq_false_iff_not];omega)),(10,au (show decide (op<11)=true by rw [decide_eq_true_eq];omega))]} 100 (Bs.start w []) λw' h=>⟨rfl,h.2⟩
 by_cases m:op<18;·rw [if_neg al,if_neg al,if_pos al];exact bm (t:=2) (v:=ml .ld n s) Bs.eng {eq:=[(5,au (show decide (op<3)=false by rw [decide_eq_false_iff_not];omega)),(10,au (show decide (op<11)=false by rw [decide_eq_false_iff_not];omega)),(15,au (show decide (op<18)=true by rw [decide_eq_true_eq];omega))],cv:=[(17,gB a),(24,gB a)]} 100 (Bs.start w []) λw' h=>⟨rfl,h.2⟩
 by_cases o:op<22;·rw [if_neg al,if_neg al,if_neg al,if_pos al];exact bm (t:=2) (v:=ml .st n s) Bs.eng {eq:=[(5,au (show decide (op<3)=false by rw [decide_eq_false_iff_not];omega)),(10,au (show decide (op<11)=false by rw [decide_eq_false_iff_not];omega)),(15,au (show decide (op<18)=false by rw [decide_eq_false_iff_not];omega)),(22,au (show decide (op<22)=true by rw [decide_eq_true_eq];omega))],cv:=[(17,gB a),(24,gB a)]} 100 (Bs.start w []) λw' h=>⟨rfl,h.2⟩
 by_cases p:op<63;·rw [if_neg al,if_neg al,if_neg al,if_neg al,if_pos al];exact bm (t:=2) (v:=.iface 176 (.agg #[])) Bs.eng {eq:=[(5,au (show decide (op<3)=false by rw [decide_eq_false_iff_not];omega)),(10,au (show decide (op<11)=false by rw [decide_eq_false_iff_not];omega)),(15,au (show decide (op<18)=false by rw [decide_eq_false_iff_not];omega)),(22,au (show decide (op<22)=false by rw [decide_eq_false_iff_not];omega)),(29,au (show decide (op<63)=true by rw [decide_eq_true_eq];omega))]} 100 (Bs.start w []) λw' h=>⟨rfl,h.2⟩
 by_cases q:op<85;·rw [if_neg al,if_neg al,if_neg al,if_neg al,if_neg al,if_pos al];have j:=λW (_:Bw w W)=>i W al al;generalize (if op=63\/op=74 then ml .hd n s else if op=64\/op=75 then ml .sc n s else ml .am n s)=f at *;exact bm (t:=2) (v:=f) Bs.eng {eq:=[(5,au (show decide (op<3)=false by rw [decide_eq_false_iff_not];omega)),(10,au (show decide (op<11)=false by rw [decide_eq_false_iff_not];omega)),(15,au (show decide (op<18)=false by rw [decide_eq_false_iff_not];omega)),(22,au (show decide (op<22)=false by rw [decide_eq_false_iff_not];omega)),(29,au (show decide (op<63)=false by rw [decide_eq_false_iff_not];omega)),(34,au (show decide (op<85)=true by rw [decide_eq_true_eq];omega))],cv:=[(36,gB j)]} 100 (Bs.start w []) λw' h=>⟨rfl,h.2⟩
 by_cases r:op<87;·rw [if_neg al,if_neg al,if_neg al,if_neg al,if_neg al,if_neg al,if_pos al];exact bm (t:=2) (v:=.iface 188 (.agg #[])) Bs.eng {eq:=[(5,au (show decide (op<3)=false by rw [decide_eq_false_iff_not];omega)),(10,au (show decide (op<11)=false by rw [decide_eq_false_iff_not];omega)),(15,au (show decide (op<18)=false by rw [decide_eq_false_iff_not];omega)),(22,au (show decide (op<22)=false by rw [decide_eq_false_iff_not];omega)),(29,au (show decide (op<63)=false by rw [decide_eq_false_iff_not];omega)),(34,au (show decide (op<85)=false by rw [decide_eq_false_iff_not];omega)),(39,au (show decide (op<87)=true by rw [decide_eq_true_eq];omega))]} 100 (Bs.start w []) λw' h=>⟨rfl,h.2⟩
 by_cases u:op<93;·rw [if_neg al,if_neg al,if_neg al,if_neg al,if_neg al,if_neg al,if_neg al,if_pos al];exact bm (t:=2) (v:=.iface 189 (.agg #[])) Bs.eng {eq:=[(5,au (show decide (op<3)=false by rw [decide_eq_false_iff_not];omega)),(10,au (show decide (op<11)=false by rw [decide_eq_false_iff_not];omega)),(15,au (show decide (op<18)=false by rw [decide_eq_false_iff_not];omega)),(22,au (show decide (op<22)=false by rw [decide_eq_false_iff_not];omega)),(29,au (show decide (op<63)=false by rw [decide_eq_false_iff_not];omega)),(34,au (show decide (op<85)=false by rw [decide_eq_false_iff_not];omega)),(39,au (show decide (op<87)=false by rw [decide_eq_false_iff_not];omega)),(44,au (show decide (op<93)=true by rw [decide_eq_true_eq];omega))]} 100 (Bs.start w []) λw' h=>⟨rfl,h.2⟩
 rw [if_neg al,if_neg al,if_neg al,if_neg al,if_neg al,if_neg al,if_neg al,if_neg al];exact bm (t:=2) (v:=.iface 190 (.agg #[])) Bs.eng {eq:=[(5,au (show decide (op<3)=false by rw [decide_eq_false_iff_not];omega)),(10,au (show decide (op<11)=false by rw [decide_eq_false_iff_not];omega)),(15,au (show decide (op<18)=false by rw [decide_eq_false_iff_not];omega)),(22,au (show decide (op<22)=false by rw [decide_eq_false_iff_not];omega)),(29,au (show decide (op<63)=false by rw [decide_eq_false_iff_not];omega)),(34,au (show decide (op<85)=false by rw [decide_eq_false_iff_not];omega)),(39,au (show decide (op<87)=false by rw [decide_eq_false_iff_not];omega)),(44,au (show decide (op<93)=false by rw [decide_eq_false_iff_not];omega))]} 100 (Bs.start w []) λw' h=>⟨rfl,h.2⟩
def si (cf:Bool) (M:MV) (t:TV):MV × Int :=
 if t.up=true then (aJ M t.cz.toNat false t.vl,2)
 else (⟨t.nx,if t.rd=0 then M.x else M.x.set t.rd.toNat t.rs,M.pr,if cf=true then M.cs else M.cs.set 21 (Uz.wrap (M.cs.getD 21 0+1)),M.ram,M.d,M.hd,M.hl,M.wt⟩,1)
def t0 (M:MV) (i:Ins) (wd:Int):TV:=⟨.func (.func 40) #[] #[],wd,i.op,i.rd,i.a,i.b,i.imm,dV i.op,M.x.getD i.rd.toNat 0,Uz.wrap (M.pc+4),false,false,0,0⟩
structure Pf (cf:Bool) (V:MV × Int) (i:Ins) (M':MV) (t':TV):Prop where
 e:si cf M' t'=V
 g:Gd M'
 rd:t'.rd=i.rd
 fm:t'.fm=dV i.op
 c:t'.up=true->∃ k:Nat,k<16/\t'.cz=k
def TR (B g:Nat) (w0:World) (P:MV->TV->Prop) (e:Ending) (w':World):Prop:=e=.returned (.tuple #[])/\∃ M' A' t',P M' t'/\Tq B g w0 M' A' t' w'
section
variable {B g : Nat} {w0 w w' : World} {M M' : MV} {A A' : MA} {t t' : TV}
theorem Tq.eng {P:Program} {fn:Func} {Rs:Ending->World->Prop} {dr:Bool}:pd P (Tq B g w0 M A t) (Tq B g w0 M A t) [⟨g,br M A t,[]⟩] dr (bodyPost P fn Rs):=
 ⟨λ_ h=>h,λW h r a=>by rw [List.mem_singleton] at a;subst a;exact h.row.in_,λ_ W h=>h.below (Below.refl _ _).drew,dA⟩
def rT {P:Program} {f:Nat} {args:Array Value} {v:Value} (h:∀ W,Tq B g w0 M A t W->Calls P f args W λe w'=>e=.returned v/\Iv [g] W [⟨g,br M A t,[]⟩] w'):Cv P (Tq B g w0 M A t):=⟨f,args,v,0,λW a=>(h W a).mono λe w' k=>⟨k.1,a.iv k.2 rfl⟩⟩
def KX {P:Program} {f:Nat} {args:Array Value} {v:Value} (h:∀ W,Tq B g w0 M A t W->Calls P f args W λe w'=>e=.returned v/\Bw W w'):Cv P (Tq B g w0 M A t):=⟨f,args,v,0,λW a=>(h W a).mono λe w' k=>⟨k.1,a.below k.2⟩⟩
theorem OZ (h:Tq B g w0 M A t w) (a:M.x.length=32) (d:0<=t.ra) (f:t.ra<=31):Calls prog 156 #[.p g 0] w λe w'=>e=.returned (.u (M.x.getD t.ra.toNat 0))/\Iv [g] w [⟨g,br M A t,[]⟩] w':=by obtain ⟨b,i,c,j⟩:=h.atX a;have:=Ie (x:=M.x.getD (0+t.ra.toNat) 0) h.row i ⟨d,al⟩ c (j (0+t.ra.toNat) al).1;rw [Nat.zero_add] at this;exact this
theorem QI (h:Tq B g w0 M A t w) (a:M.x.length=32) (d:0<=t.rb) (f:t.rb<=31):Calls prog 159 #[.p g 0] w λe w'=>e=.returned (.u (M.x.getD t.rb.toNat 0))/\Iv [g] w [⟨g,br M A t,[]⟩] w':=by obtain ⟨b,i,c,j⟩:=h.atX a;have:=P9 (x:=M.x.getD (0+t.rb.toNat) 0) h.row i ⟨d,al⟩ c (j (0+t.rb.toNat) al).1;rw [Nat.zero_add] at this;exact this
def uL (M:MV) (i:Ins):Int:=if i.op=1 then Uz.wrap i.imm else if i.op=2 then Uz.wrap (M.pc+Uz.wrap i.imm) else mA i.op (M.x.getD i.a.toNat 0) (if (fg i.op).toList=[82] then M.x.getD i.b.toNat 0 else Uz.wrap i.imm)
theorem Dx (i:Ins) (wd:Int) (C:jg i) (h:Tq B g w0 M A (t0 M i wd) w) (n:Gd M):Calls prog 153 #[.p g 0] w λe w'=>e=.returned (.u (uL M i))/\Tq B g w0 M A (t0 M i wd) w':=by
 obtain ⟨H,F,G,s,y,l,z,m,D,E,_⟩:=C;have c:=n.x32;have k:=n.ux i.a.toNat;have u:=n.ux i.b.toNat;have x:U (Uz.wrap i.imm):=bG _;have q:=λW (h:Tq B g w0 M A (t0 M i wd) W)=>OZ h c y l;have r:=λW (h:Tq B g w0 M A (t0 M i wd) W)=>QI h c z m;have j:=λW (h:Tq B g w0 M A (t0 M i wd) W)=>rf h.row;unfold uL;refine cn (S:=Tq B g w0 M A (t0 M i wd)) (args:=[.p g 0]) [] func153 ?_;refine aL 0 1 ?_;by_cases o:i.op=1;·rw [if_pos o];exact bm (t:=2) (v:=.u (Uz.wrap i.imm)) (Tq.eng (dr:=true)) {eq:=[(12,au (show (i.op==1)=true by simp;omega))],cv:=[(14,rT j)]} 100 h λw' h=>⟨rfl,h⟩
 rw [if_neg o];have a:(i.op==1)=false:=by simp;omega
 by_cases p:i.op=2;·rw [if_pos p];exact bm (t:=2) (v:=.u (Uz.wrap (M.pc+Uz.wrap i.imm))) (Tq.eng (dr:=true)) {eq:=[(12,au a),(16,au (show (i.op==2)=true by simp;omega))],cv:=[(23,rT j)]} 100 h λw' h=>⟨rfl,h⟩
 rw [if_neg p];have b:(i.op==2)=false:=by simp;omega
 have f:=λW (_:Tq B g w0 M A (t0 M i wd) W)=>xy i.op (rN al al) W;cases d:((fg i.op).toList==(⟨#[82]⟩:ByteArray).toList) with
 | true =>rw [if_pos (show (fg i.op).toList=[82] from (eq_of_beq d).trans a8)];exact bm (t:=2) (v:=.u (mA i.op (M.x.getD i.a.toNat 0) (M.x.getD i.b.toNat 0))) (Tq.eng (dr:=true)) {eq:=[(12,au a),(16,au b),(33,au d)],cv:=[(26,rT j),(32,KX f),(35,rT r),(43,rT q),(45,KX λW _=>rQ i.op _ _ (rN al al) k.1 k.2 u.1 u.2 W)]} 200 h λw' h=>⟨rfl,h⟩
 | false =>rw [if_neg (show ¬ (fg i.op).toList=[82] from λe=>by rw [e] at d;exact absurd d a8)];exact bm (t:=2) (v:=.u (mA i.op (M.x.getD i.a.toNat 0) (Uz.wrap i.imm))) (Tq.eng (dr:=true)) {eq:=[(12,au a),(16,au b),(33,au d)],cv:=[(26,rT j),(32,KX f),(35,rT r),(43,rT q),(45,KX λW _=>rQ i.op _ _ (rN al al) k.1 k.2 x.1 x.2 W)]} 200 h λw' h=>⟨rfl,h⟩
end
end Go.Proofs.YtjifdmoehfbihaaGreatDoor
