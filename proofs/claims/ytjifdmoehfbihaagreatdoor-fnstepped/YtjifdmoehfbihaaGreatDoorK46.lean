/- Own lemmas. -/
import Derived.Test.YtjifdmoehfbihaaGreatDoorAut
import Derived.Test.YtjifdmoehfbihaaGreatDoorK41
set_option maxRecDepth 100000
set_option maxHeartbeats 12800000
namespace Go.Proofs.YtjifdmoehfbihaaGreatDoor
open Go.RowKit Tryz
set_option linter.unusedVariables false
theorem Ad (x:Int) (h:U x) (w:World):Calls prog 78 #[.u x] w λe a=>∃ (g i c d f:Int) (t:Bool),e=.returned (.tuple #[.agg #[.i g,.i i,.i c,.i d,.i f],.bool t])/\Bw w a:=by obtain ⟨j,t,b,_,_⟩:=Ng x;exact (oC x h.1 h.2 w).mono λe a k=>⟨j.op,j.rd,j.a,j.b,j.imm,t,by rw [k.1,b],k.2⟩
theorem Ae (i:Ins) (w:World):Calls prog 165 #[.agg #[.i i.op,.i i.rd,.i i.a,.i i.b,.i i.imm]] w λe u=>∃ (x:Int) (t:Bool),e=.returned (.tuple #[.u x,.bool t])/\U x/\Bw w u:=by
 by_cases Q:rl i.op=true/\Qp i=true
 ·obtain ⟨ho,H⟩:=Q
  have X:1<=i.op/\i.op<=98:=of_decide_eq_true ho
  simp only [Qp,Bool.and_eq_true,decide_eq_true_eq] at H
  obtain ⟨⟨R1,R2⟩,R3⟩:=H
  obtain ⟨F,q,a,b,p⟩:=i
  simp only at X R1 R2 R3 ⊢
  obtain ⟨k,hk⟩:∃ k:Nat,F=(k:Int)+1:=⟨(F-1).toNat,ab⟩
  have hk2:k<98:=ab
  subst hk
  have I:=eu ((k:Int)+1) 1 98
  have J:=eu q 0 31
  have L:=eu a 0 31
  have N:=eu b 0 31
  rw [decide_eq_true ab] at I J L N
  have H1:Hid (∀ w:World,CE 51 #[.i ((k:Int)+1),.i 1,.i 98] w (.bool true)):=I
  have H2:Hid (∀ w:World,CE 51 #[.i q,.i 0,.i 31] w (.bool true)):=J
  have H3:Hid (∀ w:World,CE 51 #[.i a,.i 0,.i 31] w (.bool true)):=L
  have H4:Hid (∀ w:World,CE 51 #[.i b,.i 0,.i 31] w (.bool true)):=N
  clear I J L N ho
  go_enter func165,ntmps165
  go_wp2_with fail
  refine (nV _).mono ?_
  rintro e l ⟨rfl,V,O⟩
  have E:Bw w l:=(bal _ _).trans (O.mono cp)
  have K:Hid (l.heap[w.heap.size]?=some (.cells #[.i ((k:Int)+1),.i q,.i a,.i b,.i p] 69 (0,0))):=by
   show _=_
   rw [O.block _ cp];exact heap_alloc_new _ _
  have q0:l.cell? ⟨w.heap.size,0,none⟩=some (.i ((k:Int)+1)):=(cell_of_row _ _ _ _ _ _ K.out).trans rfl
  have q1:l.cell? ⟨w.heap.size,1,none⟩=some (.i q):=(cell_of_row _ _ _ _ _ _ K.out).trans rfl
  have q2:l.cell? ⟨w.heap.size,2,none⟩=some (.i a):=(cell_of_row _ _ _ _ _ _ K.out).trans rfl
  have q3:l.cell? ⟨w.heap.size,3,none⟩=some (.i b):=(cell_of_row _ _ _ _ _ _ K.out).trans rfl
  obtain ⟨g,hg⟩:∃ g,g=(w.alloc (.cells #[.i ((k:Int)+1),.i q,.i a,.i b,.i p] 69)).heap.size:=⟨_,rfl⟩
  rw [<- hg] at V ⊢
  clear O hg
  obtain ⟨r,Y⟩:∃ r,r=bT k:=⟨_,rfl⟩
  obtain ⟨C0,C1,C2,C3,C4⟩:=V.out.2 k hk2 r Y
  obtain ⟨nm,f,o,z,m⟩:=r
  simp only at C0 C1 C2 C3 C4
  have C:∀ c:Obj,Bw l (l.alloc c):=λc=>(Below.refl _ _).alloc (Nat.le_refl _) c
  have Q1:∀ c:Obj,(l.alloc c).cell? ⟨w.heap.size,1,none⟩=some (.i q):=λc=>(cell_of_row _ _ _ _ _ _ (de (C c) K.out)).trans rfl
  have Q2:∀ c:Obj,(l.alloc c).cell? ⟨w.heap.size,2,none⟩=some (.i a):=λc=>(cell_of_row _ _ _ _ _ _ (de (C c) K.out)).trans rfl
  have Q3:∀ c:Obj,(l.alloc c).cell? ⟨w.heap.size,3,none⟩=some (.i b):=λc=>(cell_of_row _ _ _ _ _ _ (de (C c) K.out)).trans rfl
  have Q4:∀ c:Obj,(l.alloc c).cell? ⟨w.heap.size,4,none⟩=some (.i p):=λc=>(cell_of_row _ _ _ _ _ _ (de (C c) K.out)).trans rfl
  clear C Y V
  obtain ⟨s,Z⟩:∃ s,s=f.str:=⟨_,rfl⟩
  rw [<- Z] at C1
  have HS:Hid (s=f.str):=Z
  clear Z X R1 R2 R3
  go_wp2_with fail
  refine (H1.out _).mono ?_
  rintro e R ⟨rfl,d⟩
  have j:=d.symm
  subst j
  go_wp2_with fail
  refine (H2.out _).mono ?_
  rintro e R ⟨rfl,d⟩
  have j:=d.symm
  subst j
  go_wp2_with fail
  refine (H3.out _).mono ?_
  rintro e R ⟨rfl,d⟩
  have j:=d.symm
  subst j
  go_wp2_with fail
  refine (H4.out _).mono ?_
  rintro e R ⟨rfl,d⟩
  have j:=d.symm
  subst j
  go_upto_if 63 with fail
  go_cut [7] from 10 (λy wc=>∃ x:Int,y=.u x/\Hid (U x)/\wc=l.alloc (.cells #[.string nm,.string s,.u o,.i z,.u m] 152))
  case first =>
   by_cases hz:0<z
   ·have dz:decide (0<z)=true:=by simpa using hz
    go_wp2_with fail
    go_meet
    exact ⟨_,rfl,af _ _ _,rfl⟩
   ·have dz:decide (0<z)=false:=by simpa using hz
    go_wp2_with fail
    go_meet
    exact ⟨_,rfl,af _ _ _,rfl⟩
  case rest =>
   obtain ⟨x,rfl,hx,rfl⟩:=hcut
   have Z:=HS.out
   subst Z
   clear HS
   generalize IntKind.u64.wrap p=M at *
   repeat ((fail_if_success (show Code.wp _ (Code.block 0 _) _ _ _));first | go_values | go_skip | go_guarded | go_step | go_upon | go_back | go_simp)
   go_cut [7] from 10 (λy wc=>∃ x:Int,y=.u x/\Hid (U x)/\wc=l.alloc (.cells #[.string nm,.string f.str,.u o,.i z,.u m] 152))
   case first =>
    cases f
    all_goals (
     as_aux_lemma =>
      simp only [Fm.str] at C1 ⊢
      go_wp2_with fail
      go_meet
      exact ⟨_,rfl,(by first | exact af _ _ _ | exact hx.out),rfl⟩)
   case rest =>
    obtain ⟨x,rfl,hx,rfl⟩:=hcut
    go_wp2_with fail
    refine (Ad _ hx.out _).mono ?_
    rintro e G ⟨jo,jr,ja,jb,ji,t,rfl,P⟩
    have T:Hid (G.heap[w.heap.size]?=some (.cells #[.i ((k:Int)+1),.i q,.i a,.i b,.i p] 69 (0,0))):=de P (de (bal _ _) K.out)
    have B:Bw w G:=E.trans ((((Below.refl l.heap.size l).alloc (Nat.le_refl _) _).trans (P.mono cp)).mono E.size)
    have A:∀ c:Obj,Bw G (G.alloc c):=λc=>(Below.refl _ _).alloc (Nat.le_refl _) c
    have E0:∀ c:Obj,(G.alloc c).cell? ⟨w.heap.size,0,none⟩=some (.i ((k:Int)+1)):=λc=>(cell_of_row _ _ _ _ _ _ (de (A c) T.out)).trans rfl
    have E1:∀ c:Obj,(G.alloc c).cell? ⟨w.heap.size,1,none⟩=some (.i q):=λc=>(cell_of_row _ _ _ _ _ _ (de (A c) T.out)).trans rfl
    have E2:∀ c:Obj,(G.alloc c).cell? ⟨w.heap.size,2,none⟩=some (.i a):=λc=>(cell_of_row _ _ _ _ _ _ (de (A c) T.out)).trans rfl
    have E3:∀ c:Obj,(G.alloc c).cell? ⟨w.heap.size,3,none⟩=some (.i b):=λc=>(cell_of_row _ _ _ _ _ _ (de (A c) T.out)).trans rfl
    have E4:∀ c:Obj,(G.alloc c).cell? ⟨w.heap.size,4,none⟩=some (.i p):=λc=>(cell_of_row _ _ _ _ _ _ (de (A c) T.out)).trans rfl
    clear A P q0 q1 q2 q3 Q1 Q2 Q3 Q4 C0 C1 C2 C3 C4 H1 H2 H3 H4 K E
    cases t with
    | false =>
      as_aux_lemma =>
       go_wp2_with fail
       go_ret2
       exact ⟨_,_,rfl,⟨bb,bb⟩,B.alloc B.size _⟩
    | true =>
      obtain ⟨nb,W⟩:∃ nb,(!(jo==(k:Int)+1&&jr==q&&ja==a&&jb==b&&ji==p))=nb:=⟨_,rfl⟩
      have S:Hid ((!(jo==(k:Int)+1&&jr==q&&ja==a&&jb==b&&ji==p))=nb):=W
      clear W
      cases nb with
      | true =>
        as_aux_lemma =>
         go_wp2_with (refine oD rfl _ _ _ rfl rfl rfl true S.out ?_)
         go_ret2
         exact ⟨_,_,rfl,⟨bb,bb⟩,B.alloc B.size _⟩
      | false =>
        as_aux_lemma =>
         go_wp2_with (refine oD rfl _ _ _ rfl rfl rfl false S.out ?_)
         go_ret2
         exact ⟨_,_,rfl,hx.out,B.alloc B.size _⟩
 ·obtain ⟨F,q,a,b,p⟩:=i
  have D:(decide (1<=F/\F<=98)&&(decide (0<=q/\q<=31)&&decide (0<=a/\a<=31)&&decide (0<=b/\b<=31)))=false:=by
   rw [Bool.eq_false_iff];intro h;rw [Bool.and_eq_true] at h;exact Q h
  simp only
  obtain ⟨t1,ht1⟩:∃ t,t=decide (1<=F/\F<=98):=⟨_,rfl⟩
  obtain ⟨t2,ht2⟩:∃ t,t=decide (0<=q/\q<=31):=⟨_,rfl⟩
  obtain ⟨t3,ht3⟩:∃ t,t=decide (0<=a/\a<=31):=⟨_,rfl⟩
  obtain ⟨t4,ht4⟩:∃ t,t=decide (0<=b/\b<=31):=⟨_,rfl⟩
  have I:=eu F 1 98
  have J:=eu q 0 31
  have L:=eu a 0 31
  have N:=eu b 0 31
  rw [<- ht1] at I D
  rw [<- ht2] at J D
  rw [<- ht3] at L D
  rw [<- ht4] at N D
  have H1:Hid (∀ w:World,CE 51 #[.i F,.i 1,.i 98] w (.bool t1)):=I
  have H2:Hid (∀ w:World,CE 51 #[.i q,.i 0,.i 31] w (.bool t2)):=J
  have H3:Hid (∀ w:World,CE 51 #[.i a,.i 0,.i 31] w (.bool t3)):=L
  have H4:Hid (∀ w:World,CE 51 #[.i b,.i 0,.i 31] w (.bool t4)):=N
  clear I J L N ht1 ht2 ht3 ht4 Q
  go_enter func165,ntmps165
  go_wp2_with fail
  refine (nV _).mono ?_
  rintro e l ⟨rfl,V,O⟩
  have E:Bw w l:=(bal _ _).trans (O.mono cp)
  have K:l.heap[w.heap.size]?=some (.cells #[.i F,.i q,.i a,.i b,.i p] 69 (0,0)):=by
   rw [O.block _ cp];exact heap_alloc_new _ _
  have q0:l.cell? ⟨w.heap.size,0,none⟩=some (.i F):=(cell_of_row _ _ _ _ _ _ K).trans rfl
  have q1:l.cell? ⟨w.heap.size,1,none⟩=some (.i q):=(cell_of_row _ _ _ _ _ _ K).trans rfl
  have q2:l.cell? ⟨w.heap.size,2,none⟩=some (.i a):=(cell_of_row _ _ _ _ _ _ K).trans rfl
  have q3:l.cell? ⟨w.heap.size,3,none⟩=some (.i b):=(cell_of_row _ _ _ _ _ _ K).trans rfl
  clear K O V
  cases t1<;>cases t2<;>cases t3<;>cases t4
  case true.true.true.true=>cases D
  all_goals (
   as_aux_lemma =>
    clear D
    go_wp2_with (go_at_call 51;first | (with_reducible refine (H1.out _).mono ?_;rintro e R ⟨rfl,d⟩;have j:=d.symm;subst j) | (with_reducible refine (H2.out _).mono ?_;rintro e R ⟨rfl,d⟩;have j:=d.symm;subst j) | (with_reducible refine (H3.out _).mono ?_;rintro e R ⟨rfl,d⟩;have j:=d.symm;subst j) | (with_reducible refine (H4.out _).mono ?_;rintro e R ⟨rfl,d⟩;have j:=d.symm;subst j))
    go_ret2
    exact ⟨_,_,rfl,⟨bb,bb⟩,E⟩)
theorem Af (D:DV) (a1:Option Addr) (c1:Nat) (a2:Option Addr) (c2:Nat) (f:Option Addr) (o:Nat) (b2:Option Addr) (p:Nat) (w:World) (q:Sl .u8 w a1 D.xs) (r:Sl .u8 w a2 D.ys) (s:Sl .u8 w f D.xs) (h4:Sl .u8 w b2 D.ys):CB 64 #[.agg #[.u D.t,.u D.cm,.bool D.so,.slice a1 D.xs.length c1,.slice a2 D.ys.length c2,.i D.ir],.agg #[.u D.t,.u D.cm,.bool D.so,.slice f D.xs.length o,.slice b2 D.ys.length p,.i D.ir]] w (.bool true):=by have d:∀ b c,Bw w ((w.alloc b).alloc c):=λb c=>((Below.refl _ _).alloc (Nat.le_refl _) b).alloc cp c;have g:∀ b c,(convert 24 9 (.slice a1 D.xs.length c1)).run prog ((w.alloc b).alloc c)=.ok (.string (strOfNums D.xs)) ((w.alloc b).alloc c):=λb c=>oO _ _ _ _ _ rfl (q.below (d b c));have j:∀ b c,(convert 24 9 (.slice a2 D.ys.length c2)).run prog ((w.alloc b).alloc c)=.ok (.string (strOfNums D.ys)) ((w.alloc b).alloc c):=λb c=>oO _ _ _ _ _ rfl (r.below (d b c));have l:∀ b c,(convert 24 9 (.slice f D.xs.length o)).run prog ((w.alloc b).alloc c)=.ok (.string (strOfNums D.xs)) ((w.alloc b).alloc c):=λb c=>oO _ _ _ _ _ rfl (s.below (d b c));have m:∀ b c,(convert 24 9 (.slice b2 D.ys.length p)).run prog ((w.alloc b).alloc c)=.ok (.string (strOfNums D.ys)) ((w.alloc b).alloc c):=λb c=>oO _ _ _ _ _ rfl (h4.below (d b c));clear q r s h4;obtain ⟨t,A,F,u,y,B⟩:=D;dsimp only at g j l m ⊢;generalize strOfNums u=G at *;generalize strOfNums y=H at *;generalize u.length=C at *;generalize y.length=E at *;go_enter func64,ntmps64;go_wp2_with fail;go_ret;exact ⟨rfl,d _ _⟩
theorem PV (a:Option Addr) (n cap:Nat) (w:World):CE 20 #[.slice a n cap] w (.bool (decide (4096<n))):=by
 by_cases h:4096<n;·have F:Hid (decide (4096<n)=true):=(by show decide (4096<n)=true;simpa using h);have d:decide ((4096:Int)<(n:Int))=true:=bh;clear h;go_enter func20,ntmps20;exact yn
 ·have F:Hid (decide (4096<n)=false):=(by show decide (4096<n)=false;simpa using h);have d:decide ((4096:Int)<(n:Int))=false:=bh;clear h;go_enter func20,ntmps20;exact yn
theorem PW {w:World} {a:Option Addr} {n cap:Nat} {zs:List Int} (h:Ak .u8 w a n cap zs) (hn:n<=4096):∃ b,Code w a n b:=by obtain ⟨b,c,d,e,_⟩:=h.sl;exact ⟨b,c,hn,d,e⟩
end Go.Proofs.YtjifdmoehfbihaaGreatDoor
