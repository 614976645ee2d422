/- Own lemmas. -/
import Derived.Test.YtfagphfjfhpmjaaGreatDoorAuj
import Derived.Test.YtfagphfjfhpmjaaGreatDoorJ05
import Derived.Deep.Cut
import Derived.Lib.TrailingZeros
set_option maxRecDepth 100000
set_option maxHeartbeats 1600000
namespace Go.Proofs.YtfagphfjfhpmjaaGreatDoor
open Go.RowKit Tryz Go.Conc
open IntKind renaming u64->Uz
set_option linter.unusedVariables false
variable {w:Nat} {c a n:World} {o:Obj} {k:Option Nat} {J:List Value} (b:List Int) (d:Option Addr) (f Q e:Nat) (g:List Int) (j:World)
theorem lQ.refl:lQ f j j:=⟨rfl,λ_ _=>rfl,λ_ _ _ h=>h⟩
theorem lQ.trans (h:lQ w c a) (k:lQ w a n):lQ w c n:=⟨k.size.trans h.size,λj d=>(k.else_ j d).trans (h.else_ j d),λB w1 b e=>k.below B w1 b (h.below B w1 b e)⟩
theorem nR.push {wr:World} (h:nR w (w+1) c wr) (m:w<c.heap.size) (f:lQ w wr a) (w1:(a.alloc o).grownBy n k) (hr:∀ row,k=some row->c.heap.size<=row):nR w (w+1) c n:=by have b:=f.below w wr (Nat.le_refl _) (Below.refl _ _);have i:=w1.size;have j:=f.size;have l:=h.size;rw [World.size_alloc] at i;refine ⟨w1.os.trans (b.os.trans h.os),w1.tape.trans (b.tape.trans h.tape),w1.output.trans (b.output.trans h.output),ab,λrow g d=>?_⟩;rw [w1.block row (by rw [World.size_alloc];omega) (λe=>by have:=hr row e.symm;omega),Below.heap_alloc a o row ab,f.else_ row ab,h.block row g d]
theorem Il {cap:Nat} {cl:Bool} (h:dg c w cap J cl) (b:(c.alloc o).grownBy a k) (hr:∀ row,k=some row->w<row):dg a w cap J cl :=
 pQ h ((b.block w (by rw [World.size_alloc];have:=h.lt;omega) (λe=>by have:=hr w e.symm;omega)).trans (Below.heap_alloc c o w h.lt))
theorem xF (h:f<b.length):(b.take f).map (Value.int .u8)++[.int .u8 (b.getD f 0)]=(b.take (f+1)).map (Value.int .u8):=by
 have a:b.take (f+1)=b.take f++[b.getD f 0]:=by rw [List.take_succ_eq_append_getElem h];simp [List.getD,List.getElem?_eq_getElem h]
 rw [a,List.map_append];rfl
theorem Im (h:f<b.length):(b.drop f).map (Value.int .u8)=.int .u8 (b.getD f 0)::(b.drop (f+1)).map (Value.int .u8):=by rw [List.drop_eq_getElem_cons h,List.map_cons];simp [List.getD,List.getElem?_eq_getElem h]
theorem sD (a:Option Addr) (n J:Nat) (zs:List Int) (c w:World) (hz:zs.length=n) (hn:n<=1048576) (d:n<=Q) (q:Sl .u8 c a zs) (m:Bw c w) (o:c.heap.size<=f) (C:dg w f Q [] false): Calls prog 305 #[.chan (some f),.slice a n J] w λe D=>e=.returned (.tuple #[])/\dg D f Q (zs.map (Value.int .u8)) false/\lQ f w D:=by
 have B:Hid (Bw c w/\c.heap.size<=f):=⟨m,o⟩;have H:Hid (Sl .u8 c a zs):=q;have E:Hid (dg w f Q [] false):=C;have r:Hid (zs.length=n):=hz;have HR:Hid (n<=Q):=d;clear m o q C hz d;go_enter func305,ntmps305;go_wp2_with fail;go_loopw [8] (λi wr=>∃ k:Nat,k<=n/\i=.i k/\Hid (dg wr f Q ((zs.take k).map (Value.int .u8)) false)/\Hid (lQ f w wr))
  (λi _=>n-(intOf i).toNat)
 case atStart=>exact ⟨0,Nat.zero_le _,rfl,E.out,lQ.refl _ _⟩
 case round =>
  obtain ⟨k,M,rfl,g,j⟩:=hrel;by_cases u:k<n
  ·obtain ⟨b,A,rfl,I,p⟩:=H.out k (by rw [r.out];exact u);have K:wr.cell? ⟨b,A+k,none⟩=some (.int .u8 (zs.getD k 0)):=((j.out.below _ _ B.out.2 B.out.1).cell (by exact I)).trans p;clear p;have F:Hid ((zs.take k).map (Value.int .u8)++[.int .u8 (zs.getD k 0)]=(zs.take (k+1)).map (Value.int .u8)):=(by exact xF zs k (by have:=r.out;omega));have G:((zs.take k).map (Value.int .u8)).length<Q:=(by have:=r.out;have:=HR.out;simp;omega);go_upto_region 3 with fail
   refine gV ?_;intro L l;unfold mW;refine jV rfl rfl ?_;simp [go_sem,Act.put];refine jV rfl rfl ?_;simp [go_sem,Act.put];refine tT (c:=f) (v:=.int .u8 (zs.getD k 0)) (z:=.tuple #[]) rfl rfl (by simp [go_sem,scase]) g.out G ?_;intro N s y;simp only [Act.put];refine mC (l.out _ _ _ ?_);clear l;go_wp2_with fail;go_roundw;case rel=>exact ⟨k+1,ab,by go_num,by rw [<- F.out];exact s,j.out.trans y⟩
   case measure=>simp [intOf];omega
  ·have t:k=n:=ab;subst t;rw [<- r.out,List.take_length] at g;go_wp2_with fail;refine bodyPost_end (results_none rfl _ _ _) rfl ?_;exact ⟨rfl,g.out,j.out⟩
theorem kL (hn:g.length<=1048576) (M:dg j f Q (g.map (Value.int .u8)) true): Calls prog 306 #[.chan (some f)] j λe N=>∃ (zs:Option Addr) (w:Nat),e=.returned (.slice zs g.length w)/\N.ownsRow j.heap.size 5 1 (.slice zs g.length w) g.length (g.map (Value.int .u8))/\nR f (f+1) j N:=by
 have L:Hid (dg j f Q (g.map (Value.int .u8)) true):=M
 have O:Hid (g.length<=1048576):=hn
 clear M hn
 go_enter func306,ntmps306
 go_wp2_with fail
 go_loopw [3] (λy wr=>∃ (k:Nat) (zs:Option Addr) (w:Nat),k<=g.length/\y=.slice zs k w/\Hid (wr.ownsRow j.heap.size 5 1 (.slice zs k w) k ((g.take k).map (Value.int .u8)))/\Hid (dg wr f Q ((g.drop k).map (Value.int .u8)) true)/\Hid (nR f (f+1) j wr))
  (λ_ wr=>yc wr f)
 case atStart=>exact ⟨0,none,0,Nat.zero_le _,rfl,⟨rfl,.inl ⟨rfl,rfl⟩⟩,L.out,nR.refl _ _ _⟩
 case round =>
  obtain ⟨k,zs,w,W,rfl,p,m,u⟩:=hrel
  by_cases E:k<g.length
  ·have cap:=ak (xF g k E)
   have d:dg wr f Q (.int .u8 (g.getD k 0)::(g.drop (k+1)).map (Value.int .u8)) true:=by rw [<- Im g k E];exact m.out
   have l:=ak d
   clear d m
   have s:=ak (L.out.lt)
   generalize g.getD k 0=b at *
   refine wp_seq (gV ?_)
   intro S c
   unfold mW
   refine tU (c:=f) (z:=.int .u8 0) true rfl rfl (by simp [go_sem,rcase]) l.out ?_
   intro G C o
   simp only [got,if_true]
   refine jV rfl rfl ?_
   simp [go_sem,Act.put]
   refine mC (c.out _ _ _ ?_)
   clear c
   simp only [Exit.then]
   have P:Hid ((G.alloc (.cells #[.int .u8 b] 5)).ownsRow j.heap.size 5 1 (.slice zs k w) k ((g.take k).map (Value.int .u8))):=du (ew p.out (λq e=>o.else_ q (by have:=(p.out.lt q e).1;have:=s.out;omega))) (bal _ _)
   have A:=ak (AH G b)
   have T:=ak (show j.heap.size<=G.heap.size by rw [o.size];exact u.out.size)
   have H:=ak C
   have I:=ak o
   clear C o
   go_wp2_with (first
    | (at_builtin;refine qb rfl (.tmp 9) (.tmp 11) rfl j.heap.size k (.slice zs k w) (g.take k) rfl P.out (by have:=O.out;omega) ⟨G.heap.size,0,none⟩ 1 b rfl A.out (by have:=T.out;simp only [World.size_alloc];omega) ?_;intro U V X F B J;have R:=ak F;have K:=ak B;clear F B J))
   have r:∀ q,(Value.slice zs k w).ownBlock=some q->j.heap.size<=q:=λq e=>(p.out.lt q e).1
   have D:=Il H.out K.out (λq e=>Nat.lt_of_lt_of_le s.out (r q e))
   go_roundw
   case rel=>exact ⟨k+1,U,V,ab,rfl,(by rw [<- cap.out];have h:=R.out;rw [List.map_append] at h;exact h),D,u.out.push s.out I.out K.out r⟩
   case measure=>rw [D.len,l.out.len];simp
  ·have t:g.length=k:=by omega
   have d:dg wr f Q [] true:=by
    have h:=m.out
    rw [<- t,List.drop_length] at h
    exact h
   have l:=ak d
   clear d m
   refine wp_seq (gV ?_)
   intro S c
   unfold mW
   refine tV (c:=f) (z:=.int .u8 0) true rfl rfl (by simp [go_sem,rcase]) l.out ?_
   simp only [got,if_true]
   refine jV rfl rfl ?_
   simp [go_sem,Act.put]
   refine mC (c.out _ _ _ ?_)
   clear c
   simp only [Exit.then]
   go_wp2_with fail
   go_ret
   refine ⟨zs,w,(by rw [t];rfl),?_,u.out⟩
   have h:=p.out
   rw [<- t,List.take_length] at h
   exact h
theorem Ky (hm:f<=1048576) (w:World):(Instr.makeChan 326 (.i f)).run prog w=.ok (.chan (some w.heap.size)) (w.alloc (.chan f #[] false 0 0 false)):=by obtain ⟨a,c,d,e,b⟩:=info_parts info5;exact run_makeChan underlying326 c .i64 f ab (by rw [b];omega)
def fd (zs:List Int) (b:Int) (a:Nat):List Int:=if zs.length<a then zs++[b] else zs
theorem qy {w3:World} {v:Value} {w1:Nat} (f:w1=c.heap.size) (w2:lQ w1 (c.alloc o) a) (b:lQ w1 a n) (d:nR w1 (w1+1) n w3) (g:w3.ownsRow n.heap.size 5 1 v w J):w3.ownsRow c.heap.size 5 1 v w J/\Bw c w3:=by subst f;have h:=w2.size;have i:=b.size;have j:=d.size;rw [World.size_alloc] at h;have e:=b.below _ _ (Nat.le_refl _) (w2.below _ _ (Nat.le_refl _) ((Below.refl c.heap.size c).alloc (Nat.le_refl _) o));exact ⟨dG g ab,e.trans (d.below (Nat.le_refl _) ab)⟩
theorem ot (b:Int) (w:World) (hz:g.length=f) (hm:e<=4096) (hn:f<=e) (r:Sl .u8 w d g): Calls prog 272 #[.slice d f Q,.int .u8 b,.i e] w λn F=>∃ (t:Option Addr) (u:Nat),n=.returned (.slice t (fd g b e).length u)/\F.ownsRow w.heap.size 5 1 (.slice t (fd g b e).length u) (fd g b e).length ((fd g b e).map (Value.int .u8))/\Bw w F:=by
 have O:Hid (∀ p,Bw w p->dg p w.heap.size e [] false->Calls prog 305 #[.chan (some w.heap.size),.slice d f Q] p λn F=>n=.returned (.tuple #[])/\dg F w.heap.size e (g.map (Value.int .u8)) false/\lQ w.heap.size p F):=λp U W=>sD _ _ _ _ _ g w p hz ab hn r U (Nat.le_refl _) W;have X:=Ky e ab;have M:Hid (∀ o,Bw w (w.alloc o)):=λo=>(Below.refl _ _).alloc (Nat.le_refl _) o;have N:Hid (∀ m,dg (w.alloc (.chan m #[] false 0 0 false)) w.heap.size m [] false):=λm=>⟨0,0,heap_alloc_new _ _⟩;by_cases G:f<e
 ·have s:Hid (fd g b e=g++[b]):=(by show _=_;unfold fd;rw [hz,if_pos G]);have I:Hid ((fd g b e).length<=1048576):=(by show _<=_;rw [s.out];simp;omega);have R:Hid ((g.map (Value.int .u8)).length<e):=(by show _<_;simp;omega);have S:Hid (g.map (Value.int .u8)++[.int .u8 b]=(fd g b e).map (Value.int .u8)):=(by show _=_;rw [s.out,List.map_append];rfl);clear s;generalize fd g b e=V at *;have T:decide (f<e)=true:=a8;clear G r hz hn hm;go_enter func272,ntmps272;go_wp2_with fail;refine (O.out _ (M.out _) (N.out _)).mono ?_;rintro n p ⟨rfl,zs,j⟩;have H:=ak zs;have J:=ak j;clear zs j;go_upto_region 4 with fail
  refine gV ?_;intro QC A;unfold mW;refine jV rfl rfl ?_;simp [go_sem,Act.put];refine jV rfl rfl ?_;simp [go_sem,Act.put];refine tT (c:=w.heap.size) (v:=.int .u8 b) (z:=.tuple #[]) rfl rfl (by simp [go_sem,scase]) H.out R.out ?_;intro w2 B D;simp only [Act.put];refine mC (A.out _ _ _ ?_);clear A;obtain ⟨L,K,a,l⟩:=ye (P:=prog) B;rw [S.out] at a;have q:=ak (J.out.trans (D.trans l));have HR:=ak (kL w.heap.size e V L I.out a);clear B D a l;try simp only [Exit.then]
  go_wp2_with fail;refine (HR.out).mono ?_;rintro n Y ⟨t,u,rfl,E,C⟩;have y:=ak (qy rfl q.out (lQ.refl _ _) C E);clear E C;go_wp2_with fail;go_ret;exact ⟨t,u,rfl,y.out.1,y.out.2⟩
 ·have s:Hid (fd g b e=g):=(by show _=_;unfold fd;rw [hz,if_neg G]);have I:Hid (g.length<=1048576):=(by show _<=_;omega);generalize fd g b e=V at *;have T:decide (f<e)=false:=a8;have Z:Hid (g.length=f):=hz;clear G r hz hn hm;go_enter func272,ntmps272;go_wp2_with fail;refine (O.out _ (M.out _) (N.out _)).mono ?_;rintro n p ⟨rfl,zs,j⟩;obtain ⟨L,K,a,l⟩:=ye (P:=prog) zs;have q:=ak (j.trans l);have HR:=ak (kL w.heap.size e g L I.out a);clear zs j a l;go_wp2_with fail;refine (HR.out).mono ?_;rintro n Y ⟨t,u,rfl,E,C⟩;have y:=ak (qy rfl q.out (lQ.refl _ _) C E);clear E C;go_wp2_with fail;go_ret;exact ⟨t,u,(by rw [s.out];rfl),(by rw [s.out];exact y.out.1),y.out.2⟩
theorem rz (hz:g.length=f) (hn:f<=4096) (B:Sl .u8 j d g): Calls prog 314 #[.slice d f Q] j λe D=>∃ (r:Option Addr) (s:Nat),e=.returned (.tuple #[.int .u8 (g.getD 0 0),.slice r (g.drop 1).length s])/\D.ownsRow j.heap.size 5 1 (.slice r (g.drop 1).length s) (g.drop 1).length ((g.drop 1).map (Value.int .u8))/\Bw j D:=by
 have I:Hid (∀ p,Bw j p->dg p j.heap.size f [] false->Calls prog 305 #[.chan (some j.heap.size),.slice d f Q] p λe D=>e=.returned (.tuple #[])/\dg D j.heap.size f (g.map (Value.int .u8)) false/\lQ j.heap.size p D):=λp N O=>sD _ _ _ _ _ g j p hz ab (Nat.le_refl _) B N (Nat.le_refl _) O;have J:=Ky f ab;have G:Hid (∀ o,Bw j (j.alloc o)):=λo=>(Below.refl _ _).alloc (Nat.le_refl _) o;have H:Hid (∀ m,dg (j.alloc (.chan m #[] false 0 0 false)) j.heap.size m [] false):=λm=>⟨0,0,heap_alloc_new _ _⟩;have L:Hid ((g.drop 1).length<=1048576):=by show _<=_;simp;omega
 clear B;cases g with
 | nil =>
   clear hz hn;go_enter func314,ntmps314;go_wp2_with fail;refine (I.out _ (G.out _) (H.out _)).mono ?_;rintro e p ⟨rfl,a,zs⟩;obtain ⟨K,F,n,w⟩:=ye (P:=prog) a;have q:=ak (zs.trans w);have l:=ak n;clear a zs n w;go_upto_region 4 with fail
   refine gV ?_;intro M b;unfold mW;refine jV rfl rfl ?_;simp [go_sem,Act.put];refine tV (c:=j.heap.size) (z:=.int .u8 0) false rfl rfl (by simp [go_sem,rcase]) l.out ?_;simp [got];refine jV rfl rfl ?_;simp [go_sem,Act.put];refine mC (b.out _ _ _ ?_);clear b;have HR:=ak (kL j.heap.size f [] K bc l.out);try simp only [Exit.then]
   go_wp2_with fail;refine (HR.out).mono ?_;rintro e S ⟨r,s,rfl,C,y⟩;have t:=ak (qy rfl q.out (lQ.refl _ _) y C);clear C y;go_wp2_with fail;refine bodyPost_ret (results_tmp2 rfl _ _ _) rfl ?_;exact ⟨r,s,rfl,t.out.1,t.out.2⟩
 | cons z g =>
   clear hz hn;go_enter func314,ntmps314;go_wp2_with fail;refine (I.out _ (G.out _) (H.out _)).mono ?_;rintro e p ⟨rfl,a,zs⟩;obtain ⟨K,F,n,w⟩:=ye (P:=prog) a;have q:=ak (zs.trans w);have l:=ak n;clear a zs n w;go_upto_region 4 with fail
   refine gV ?_;intro M b;unfold mW;refine jV rfl rfl ?_;simp [go_sem,Act.put];refine tU (c:=j.heap.size) (z:=.int .u8 0) false rfl rfl (by simp [go_sem,rcase]) l.out ?_;intro R u A;have E:=ak (q.out.trans A);have HR:=ak (kL j.heap.size f g R L.out u);clear u A;simp [got];refine jV rfl rfl ?_;simp [go_sem,Act.put];refine mC (b.out _ _ _ ?_);clear b;try simp only [Exit.then]
   go_wp2_with fail;refine (HR.out).mono ?_;rintro e S ⟨r,s,rfl,C,y⟩;have t:=ak (qy rfl E.out (lQ.refl _ _) y C);clear C y;go_wp2_with fail;refine bodyPost_ret (results_tmp2 rfl _ _ _) rfl ?_;exact ⟨r,s,rfl,t.out.1,t.out.2⟩
end Go.Proofs.YtfagphfjfhpmjaaGreatDoor
namespace Go.Proofs.YtfagphfjfhpmjaaGreatDoor
open Go.RowKit Tryz
open IntKind renaming u64->Uz
set_option linter.unusedVariables false
variable {b w:Int} {a c:World} {x t:Nat} {j:Obj} {l:Option Addr} {n:List Int} (d:DV) (f m:Int) (g:Bool) (k:Option Addr) (p D:Nat) (B:Option Addr) (o q:Nat) (s:Int) (E:List Int) (r:World)
theorem Kz:CE 313 #[.u 33554432,.i 4] r (.bool true):=by go_enter func313,ntmps313;exact a01
theorem KA:CE 313 #[.u 33570816,.i 8] r (.bool true):=by go_enter func313,ntmps313;exact a01
theorem KB:CE 313 #[.u 33603576,.i 8] r (.bool true):=by go_enter func313,ntmps313;exact a01
theorem KD:CE 313 #[.u 268435456,.i 1] r (.bool true):=by go_enter func313,ntmps313;exact a01
theorem KE:CE 313 #[.u 268435457,.i 1] r (.bool true):=by go_enter func313,ntmps313;exact a01
theorem KF:CE 313 #[.u 268435461,.i 1] r (.bool true):=by go_enter func313,ntmps313;exact a01
theorem xG:Calls prog 76 #[.u f,.i 0,.i 1] r λe b=>e=.returned (.u (bits .and .u64 f 1))/\b=r.drew:=by
 go_enter func76,ntmps76;go_wp2_with fail;go_region;all_goals go_wp2_with fail
 all_goals go_ret
 all_goals exact ⟨rfl,rfl⟩
theorem BA:CE 310 #[.bool g] r (.u (gv g)):=by
 cases g with
 | false =>go_enter func310,ntmps310;exact a01
 | true =>go_enter func310,ntmps310;exact a01
theorem BC:(binOp .eql 24 (.slice k p D) (.slice none 0 0)).run prog r=.ok (.bool k.isNone) r:=by simp only [binOp];simp [run_equal_slice_nil r 24 5 k p D underlying24]
theorem kT (hz:E.length=p) (hn:p<=1048576) (f:Sl .u8 r k E): Calls prog 49 #[.slice k p D] r λe q=>∃ (m:Option Addr) (o:Nat),e=.returned (.slice m p o)/\q.ownsRow r.heap.size 5 1 (.slice m p o) p (E.map (Value.int .u8))/\Bw r q:=by
 cases k with
 | none =>
   have A:E=[]:=by
    cases E with
    | nil=>rfl
    | cons z E=>obtain ⟨b,C,e,_⟩:=f 0 bc;cases e
   subst A
   simp only [List.length_nil] at hz
   subst hz
   clear f hn
   have d:=BC none 0 D
   simp only [Option.isNone] at d
   go_enter func49,ntmps49
   go_wp2_with fail
   go_ret
   exact ⟨none,0,rfl,⟨rfl,.inl ⟨rfl,rfl⟩⟩,Below.refl _ _⟩
 | some n =>
   have B:=jL r r.heap.size (Nat.le_refl _) (.cells #[] 5 (0,0)) rfl
   have s:Hid (Sl .u8 (r.alloc (.cells #[] 5 (0,0))) (some n) E):=f.below (bal _ _)
   have l:Hid (E.length=p/\p<=1048576):=⟨hz,hn⟩
   clear f hz hn
   have d:=BC (some n) p D
   simp only [Option.isNone] at d
   go_enter func49,ntmps49
   go_wp2_with (first
    | (at_builtin;refine io rfl (.tmp 5) (.tmp 6) rfl r.heap.size _ rfl B (some n) p D E rfl l.out.1 l.out.2 s.out bc ?_;intro u y c j g;have w:=ak (PK g rfl);have t:=ak j;clear j g))
   go_ret
   exact ⟨u,y,rfl,t.out,w.out⟩
theorem lE (z:Bool) (O:Option Addr) (b Z:Nat) (C:Option Addr) (d J:Nat) (y:Int) (xs ys:List Int) (w:World) (hx:xs.length=b) (hy:ys.length=d) (F:b<=1048576) (G:d<=1048576) (H:Sl .u8 w O xs) (I:Sl .u8 w C ys): Calls prog 105 #[.agg #[.u f,.u m,.bool z,.slice O b Z,.slice C d J,.i y]] w λe c=>∃ (t:Option Addr) (j:Nat) (o:Option Addr) (q:Nat),e=.returned (.agg #[.u f,.u m,.bool z,.slice t b j,.slice o d q,.i y]) /\ aZ w.heap.size c.heap.size c (fC t b j xs o d q ys)/\Bw w c:=by have L:Hid (∀ c,Bw w c->Calls prog 49 #[.slice O b Z] c λe cm=>∃ (B:Option Addr) (D:Nat),e=.returned (.slice B b D)/\cm.ownsRow c.heap.size 5 1 (.slice B b D) b (xs.map (Value.int .u8))/\Bw c cm):=λc P=>kT _ _ _ xs c hx F (H.below P);have M:Hid (∀ c,Bw w c->Calls prog 49 #[.slice C d J] c λe cm=>∃ (B:Option Addr) (D:Nat),e=.returned (.slice B d D)/\cm.ownsRow c.heap.size 5 1 (.slice B d D) d (ys.map (Value.int .u8))/\Bw c cm):=λc P=>kT _ _ _ ys c hy G (I.below P);have E:∀ Q R,Bw w ((w.alloc Q).alloc R):=λQ R=>((Below.refl _ _).alloc (Nat.le_refl _) Q).alloc bc R;clear H I hx hy F G;go_enter func105,ntmps105;go_wp2_with fail;refine (L.out _ (E _ _)).mono ?_;rintro e T ⟨t,j,rfl,s,r⟩;obtain ⟨K,r1⟩:=jH r;have X:=ak K;have R1:=ak r1;have B1:=ak (aa (E _ _) r);have U:=r.size;simp only [World.size_alloc] at U s;have Z1:=ak U;have A1:=ak ((aZ.nil (w.heap.size+1+1) (w.heap.size+1+1) T).snoc (aw t b j xs) _ T.heap.size s (Nat.le_refl _) (Nat.le_refl _) (Nat.le_refl _) ab);obtain ⟨p0,p1,p2,p3,p4,p5⟩:=aH K;have f3:=dh K 3;have A:(T.setCell ⟨w.heap.size,3,none⟩ (.slice t b j)).heap[w.heap.size]?=some (.cells #[.u f,.u m,.bool z,.slice t b j,.slice C d J,.i y] 30 (0,0)):=bC X.out 3 (.slice t b j);have S:=(aH A).2.2.2.2.1;have W:=ak (B1.out.setCell (p:=⟨w.heap.size,3,none⟩) (Nat.le_refl _) (.slice t b j));clear K r1 r U s A;go_wp2_with fail;refine (M.out _ W.out).mono ?_;rintro e w2 ⟨o,q,rfl,u,l⟩;have V:=l.size;rw [aO] at V u;have Y:Hid (w2.heap[w.heap.size]?=some (.cells #[.u f,.u m,.bool z,.slice t b j,.slice C d J,.i y] 30 (0,0))):=aB l (bC X.out 3 (.slice t b j));have N:=ak (aB l (dS R1.out ⟨w.heap.size,3,none⟩ (.slice t b j) a9));have B2:=ak (aa W.out l);have A2:=ak (((A1.out.set ⟨w.heap.size,3,none⟩ (.slice t b j) (.inl a9)).below l).snoc (aw o d q ys) _ w2.heap.size u (Nat.le_refl _) (by have:=Z1.out;omega) (Nat.le_refl _) V);clear p0 p1 p2 p3 p4 p5 f3 S;obtain ⟨p0,p1,p2,p3,p4,p5⟩:=aH Y.out;have f4:=dh Y.out 4;obtain ⟨s0,s1,s2,s3,s4,s5⟩:=aH N.out;obtain ⟨y0,y1,y2,y3,y4,y5⟩:=kY N.out;clear u l V;go_wp2_with fail;have T1:=dS N.out ⟨w.heap.size,4,none⟩ (.slice o d q) a9;have A3:=(A2.out.set ⟨w.heap.size,4,none⟩ (.slice o d q) (.inl a9)).put6 (w.heap.size+1) (.inl ab) (.u f) (.u m) (.bool z) (.slice t b j) (.slice o d q) (.i y);have B3:=cK (B2.out.setCell (p:=⟨w.heap.size,4,none⟩) (Nat.le_refl _) (.slice o d q)) (g:=w.heap.size+1) ab (.u f) (.u m) (.bool z) (.slice t b j) (.slice o d q) (.i y);exact bodyPost_ret (results_cell_row results105 _ _ _ _ _ _ _ rfl (eH T1 _ _ _ _ _ _) underlying30 rfl aT) rfl ⟨t,j,o,q,rfl,A3.low ab eh,B3⟩
theorem P5: CB 315 #[.agg #[.u f,.u m,.bool g,.slice k p D,.slice B o q,.i s],.u 33554432] r (.u (gv g)):=by have b:∀ w,Bw r (r.alloc w):=λw=>(Below.refl _ _).alloc (Nat.le_refl _) w;have t:Hid (∀ r,CE 310 #[.bool g] r (.u (gv g))):=BA g;generalize gv g=v at *;go_enter func315,ntmps315;go_wp2_with fail;refine (t.out _).mono ?_;rintro e u ⟨rfl,c⟩;subst c;go_wp2_with fail;go_ret;exact ⟨rfl,b _⟩
theorem P6: CB 315 #[.agg #[.u f,.u m,.bool g,.slice k p D,.slice B o q,.i s],.u 33570816] r (.u m):=by have t:∀ d,Bw r (r.alloc d):=λd=>(Below.refl _ _).alloc (Nat.le_refl _) d;go_enter func315,ntmps315;go_wp2_with fail;go_ret;exact ⟨rfl,t _⟩
theorem P7: CB 315 #[.agg #[.u f,.u m,.bool g,.slice k p D,.slice B o q,.i s],.u 33603576] r (.u f):=by have t:∀ d,Bw r (r.alloc d):=λd=>(Below.refl _ _).alloc (Nat.le_refl _) d;go_enter func315,ntmps315;go_wp2_with fail;go_ret;exact ⟨rfl,t _⟩
theorem P8: CB 315 #[.agg #[.u f,.u m,.bool g,.slice k p D,.slice B o q,.i s],.u 268435457] r (.u (Uz.wrap s)):=by have j:∀ l,Bw r (r.alloc l):=λl=>(Below.refl _ _).alloc (Nat.le_refl _) l;go_enter func315,ntmps315;go_wp2_with fail;go_ret;exact ⟨rfl,j _⟩
theorem P9: CB 315 #[.agg #[.u f,.u m,.bool g,.slice k p D,.slice B o q,.i s],.u 268435461] r (.u (Uz.wrap (32+gv (decide (0<p))))):=by
 have d:∀ j,Bw r (r.alloc j):=λj=>(Below.refl _ _).alloc (Nat.le_refl _) j;rcases Nat.eq_zero_or_pos p with c | c;·subst c;go_enter func315,ntmps315;go_wp2_with fail;go_ret;exact ⟨rfl,d _⟩
 ·have F:Hid (Uz.wrap (32+gv (decide (0<p)))=33):=(by show _=_;rw [decide_eq_true c];rfl);generalize Uz.wrap (32+gv (decide (0<p)))=v at *;have l:decide (0<p)=true:=a8;clear c;go_enter func315,ntmps315;go_wp2_with fail;go_ret;exact ⟨a7,d _⟩
theorem vc {o2:Obj}:Bw a ((a.alloc j).alloc o2):=((Below.refl _ _).alloc (Nat.le_refl _) j).alloc bc o2
theorem zg (h:kP x t b=true):x<=16/\t<=4096/\0<=b/\b<=1:=by unfold kP at h;simp only [Bool.and_eq_true,decide_eq_true_eq] at h;exact ⟨h.1.1,h.1.2,h.2.1,h.2.2⟩
theorem KG (a:0<=f) (b:f<=255):Uz.wrap f=f:=by simp [IntKind.wrap,IntKind.signed,IntKind.bits];omega
theorem In {n:TypeId} {v:Value} {xs:List Value} (h:a.ownsRow x n 1 v t xs) (p:Addr) (B:Value) (w:p.block<x):(a.setCell p B).ownsRow x n 1 v t xs :=
 ew h (λk e=>Below.heap_setCell a p B k (by have:=(h.lt k e).1;omega))
def ou (w:World):Prop:=∀ j,j<64->w.cell? ⟨0,j,none⟩=some (.int .u8 (Lib.deBruijn64tab.getD j 0))
theorem ou.lt (h:ou a):0<a.heap.size:=World.block_lt_of_cell? _ _ (h 0 ab)
theorem ou.from (h:ou a) (hb:Below x a c) (hn:0<x):ou c:=λj w=>(hb.cell (p:=⟨0,j,none⟩) hn).trans (h j w)
theorem ou.below (h:ou a) (hb:Bw a c):ou c:=h.from hb h.lt
theorem Qa (hx:p<18446744073709551616) (d:p≠0) (b:p &&& (18446744073709551616-p)=D): Uz.wrap (bits BinOp.and IntKind.u64 (p:Int) (Uz.wrap (-(p:Int)))*285870213051353865)/288230376151711744=((D*285870213051353865%18446744073709551616/288230376151711744:Nat):Int):=by
 have c:Uz.wrap (-(p:Int))=((18446744073709551616-p:Nat):Int):=by rw [IntKind.wrap_u64];omega
 rw [c,bits_and_u64_nat p _ hx ab,b,IntKind.wrap_u64];omega
theorem NC (d:((p:Int)==0)=false) (key:Uz.wrap (bits BinOp.and IntKind.u64 (p:Int) (Uz.wrap (-(p:Int)))*285870213051353865)/288230376151711744=(o:Int)) (g:o<64) (hk:D<64) (c:r.cell? ⟨0,o,none⟩=some (.int .u8 D)): CE 243 #[.u p] r (.i D):=by go_enter func243,ntmps243;go_wp2_with (simp only [key]);go_ret;exact a0g
theorem ND:CE 243 #[.u 0] r (.i 64):=by go_enter func243,ntmps243;exact z0
theorem Qb (hx:p<18446744073709551616) (w:World) (h:ou w): CE 243 #[.u p] w (.i (Lib.ctz 64 p)):=by
 by_cases b:p=0;·subst b;exact ND w
 ·obtain ⟨c,g⟩:=Lib.lowest_bit 64 p b hx;obtain ⟨f,d⟩:=Lib.deBruijn64_at _ g;have a:=h _ f;rw [d] at a;exact NC p _ _ w a8 (Qa p _ hx b c) f g a
theorem NE:(jq d p).2.1.xs.length<=d.xs.length/\(jq d p).2.1.ys.length<=d.ys.length:=by
 unfold jq;split;all_goals first
  | exact ⟨Nat.le_refl _,Nat.le_refl _⟩
  | (refine ⟨?_,Nat.le_refl _⟩;dsimp only;rw [List.length_drop];omega)
  | exact ⟨Nat.zero_le _,Nat.zero_le _⟩
theorem FD (a:d.xs.length<=1048576) (D:d.ys.length<=4096):∀ k:Nat,(fL d f k).1.xs.length<=1048576/\(fL d f k).1.ys.length<=1048576:=by
 intro k;have b:d.ys.length<=1048576:=ab
 match k with
 | 0=>simp only [fL];exact ⟨a,b⟩
 | 1=>simp only [fL];exact ⟨a,b⟩
 | 2=>simp only [fL];exact ⟨a,b⟩
 | 3 =>
   simp only [fL];refine ⟨a,?_⟩;by_cases c:d.ys.length<4096;·rw [if_pos c,List.length_append,List.length_singleton];omega
   ·rw [if_neg c];exact b
 | 4=>simp only [fL];exact ⟨a,b⟩
 | 5=>simp only [fL];exact ⟨a,b⟩
 | k+6=>simp only [fL,zeroD];exact ⟨Nat.zero_le _,Nat.zero_le _⟩
inductive MF where | second | sum | xor | and | or | smin | smax | umin | umax
deriving DecidableEq
def MF.v:MF->Int->Int->Int
 | .second,a,b=>b
 | .sum,a,b=>Uz.wrap (a+b)
 | .xor,a,b=>bits .xor .u64 a b
 | .and,a,b=>bits .and .u64 a b
 | .or,a,b=>bits .or .u64 a b
 | .smin,a,b=>if wrap64 b<wrap64 a then b else a
 | .smax,a,b=>if wrap64 a<wrap64 b then b else a
 | .umin,a,b=>if b<a then b else a
 | .umax,a,b=>if a<b then b else a
def NF:List MF:=[.second,.sum,.xor,.and,.or,.smin,.smax,.umin,.umax]
def mu (k:Nat):MF:=NF.getD k .second
def rA (op:Int):Bool:=decide (65<=op/\op<=73)||decide (76<=op/\op<=84)
def i7 (op a b:Int):Int :=
 if 76<=op/\op<=84 then (mu (op-76).toNat).v a b
 else if 65<=op/\op<=73 then (mu (op-65).toNat).v (av 32 a) (av 32 b)%4294967296 else 0
theorem kq (a:0<=b) (c:b<18446744073709551616):Uz.wrap (wrap64 b)=b:=by rw [IntKind.wrap_u64];unfold wrap64;omega
theorem D4 (c:0<=w) (d:w<18446744073709551616) (e:0<=b) (f:b<18446744073709551616) (h:wrap64 w=wrap64 b):w=b:=by unfold wrap64 at h;omega
theorem vd (a:0<=b) (u:b<18446744073709551616):av 64 b=b:=by
 have e:(2:Int)^(64-64)=1:=a6
 unfold av;rw [e,IntKind.wrap_u64,IntKind.wrap_u64];unfold wrap64;omega
theorem ve (a:0<=b) (u:b<18446744073709551616):bits .and .u64 b 18446744073709551615=b:=by obtain ⟨n,rfl⟩:=Int.eq_ofNat_of_zero_le a;have h:=u64_and_nat n 18446744073709551615 ab ab;have e:n &&& 18446744073709551615=n%18446744073709551616:=Nat.and_two_pow_sub_one_eq_mod n 64;rw [e] at h;refine Eq.trans h ?_;omega
theorem fq:av 32 f%4294967296=f%4294967296:=by rw [lX];split<;>omega
theorem ox:av 32 (f%4294967296)=av 32 f:=kh ab
theorem NG (c:0<=w) (k:w<18446744073709551616) (d:0<=b) (l:b<18446744073709551616):bits .xor .u64 w b%4294967296=bits .xor .u64 (w%4294967296) (b%4294967296):=by
 obtain ⟨n,rfl⟩:=Int.eq_ofNat_of_zero_le c;obtain ⟨m,rfl⟩:=Int.eq_ofNat_of_zero_le d;have h:=u64_xor_nat n m ab ab;have j:=u64_xor_nat (n%4294967296) (m%4294967296) ab ab;have e:=@Nat.xor_mod_two_pow n m 32;have f:((n:Int)%4294967296)=((n%4294967296:Nat):Int):=ab
 have g:((m:Int)%4294967296)=((m%4294967296:Nat):Int):=ab
 rw [h,f,g,j];have i:(n ^^^ m)%4294967296=n%4294967296 ^^^ m%4294967296:=e;rw [<- i];omega
theorem NH (c:0<=w) (k:w<18446744073709551616) (d:0<=b) (l:b<18446744073709551616):bits .and .u64 w b%4294967296=bits .and .u64 (w%4294967296) (b%4294967296):=by
 obtain ⟨n,rfl⟩:=Int.eq_ofNat_of_zero_le c;obtain ⟨m,rfl⟩:=Int.eq_ofNat_of_zero_le d;have h:=u64_and_nat n m ab ab;have j:=u64_and_nat (n%4294967296) (m%4294967296) ab ab;have e:=@Nat.and_mod_two_pow n m 32;have f:((n:Int)%4294967296)=((n%4294967296:Nat):Int):=ab
 have g:((m:Int)%4294967296)=((m%4294967296:Nat):Int):=ab
 rw [h,f,g,j];have i:(n &&& m)%4294967296=n%4294967296 &&& m%4294967296:=e;rw [<- i];omega
theorem Qc (c:0<=w) (k:w<18446744073709551616) (d:0<=b) (l:b<18446744073709551616):bits .or .u64 w b%4294967296=bits .or .u64 (w%4294967296) (b%4294967296):=by
 obtain ⟨n,rfl⟩:=Int.eq_ofNat_of_zero_le c;obtain ⟨m,rfl⟩:=Int.eq_ofNat_of_zero_le d;have h:=u64_or_nat n m ab ab;have j:=u64_or_nat (n%4294967296) (m%4294967296) ab ab;have e:=@Nat.or_mod_two_pow n m 32;have f:((n:Int)%4294967296)=((n%4294967296:Nat):Int):=ab
 have g:((m:Int)%4294967296)=((m%4294967296:Nat):Int):=ab
 rw [h,f,g,j];have i:(n ||| m)%4294967296=n%4294967296 ||| m%4294967296:=e
 rw [<- i];omega
theorem vf:av 32 f<av 32 m↔f%4294967296<m%4294967296:=by rw [lX,lX];split<;>split<;>omega
theorem BF (hk:x<9) (a b:Int):i7 ((x:Int)+76) a b=(mu x).v a b:=by
 have e:((x:Int)+76-76).toNat=x:=ab
 simp only [i7,e];rw [if_pos ab]
theorem FF (hk:x<9) (a b:Int):i7 ((x:Int)+65) a b=(mu x).v (av 32 a) (av 32 b)%4294967296:=by
 have e:((x:Int)+65-65).toNat=x:=ab
 simp only [i7,e];rw [if_neg ab,if_pos ab]
theorem D5:MF.second.v (av 32 f) (av 32 m)%4294967296=m%4294967296:=fq m
theorem NI:MF.sum.v (av 32 f) (av 32 m)%4294967296=Uz.wrap (f%4294967296+m%4294967296)%4294967296:=by have c:=fq f;have d:=fq m;simp only [MF.v,jO];omega
theorem KH:MF.xor.v (av 32 f) (av 32 m)%4294967296=bits .xor .u64 (f%4294967296) (m%4294967296):=by have h:=NG (bg f).1 (bg f).2 (bg m).1 (bg m).2;rw [fq,fq] at h;exact h
theorem KJ:MF.and.v (av 32 f) (av 32 m)%4294967296=bits .and .u64 (f%4294967296) (m%4294967296):=by have h:=NH (bg f).1 (bg f).2 (bg m).1 (bg m).2;rw [fq,fq] at h;exact h
theorem NJ:MF.or.v (av 32 f) (av 32 m)%4294967296=bits .or .u64 (f%4294967296) (m%4294967296):=by have h:=Qc (bg f).1 (bg f).2 (bg m).1 (bg m).2;rw [fq,fq] at h;exact h
theorem qz (c:Prop) [Decidable c]:(if c then av 32 m else av 32 f)%4294967296=if c then m%4294967296 else f%4294967296:=by split<;>exact fq _
theorem MF.pos (f:MF) {a b:Int} (d:0<=a) (e:a<18446744073709551616) (c:0<=b) (g:b<18446744073709551616):0<=f.v a b:=by
 cases f with
 | second=>exact c
 | sum=>simp only [MF.v];rw [IntKind.wrap_u64];omega
 | xor =>obtain ⟨n,rfl⟩:=Int.eq_ofNat_of_zero_le d;obtain ⟨m,rfl⟩:=Int.eq_ofNat_of_zero_le c;simp only [MF.v];rw [u64_xor_nat n m ab ab];omega
 | and =>obtain ⟨n,rfl⟩:=Int.eq_ofNat_of_zero_le d;obtain ⟨m,rfl⟩:=Int.eq_ofNat_of_zero_le c;simp only [MF.v];rw [u64_and_nat n m ab ab];omega
 | or =>obtain ⟨n,rfl⟩:=Int.eq_ofNat_of_zero_le d;obtain ⟨m,rfl⟩:=Int.eq_ofNat_of_zero_le c;simp only [MF.v];rw [u64_or_nat n m ab ab];omega
 | smin=>simp only [MF.v];split<;>assumption
 | smax=>simp only [MF.v];split<;>assumption
 | umin=>simp only [MF.v];split<;>assumption
 | umax=>simp only [MF.v];split<;>assumption
theorem BG (h:rA b=false) (a op:Int):i7 b a op=0:=by
 have c:¬ (65<=b/\b<=73)/\¬ (76<=b/\b<=84):=by simpa [rA] using h
 simp only [i7];rw [if_neg c.2,if_neg c.1]
theorem xH (h:rA b=true):∃ k:Nat,k<9/\(b=(k:Int)+76\/b=(k:Int)+65):=by
 have a:(65<=b/\b<=73)\/(76<=b/\b<=84):=by simpa [rA] using h
 rcases a with a|a;·exact ⟨(b-65).toNat,ab,Or.inr ab⟩
 ·exact ⟨(b-76).toNat,ab,Or.inl ab⟩
/- The nine,as the model picks: of words,and of low halves. -/
theorem FG (c:0<=w) (d:w<18446744073709551616) (e:0<=b) (f:b<18446744073709551616):MF.smin.v w b=if wrap64 w<wrap64 b then w else b:=by
 simp only [MF.v];split<;>split;·omega
 ·rfl
 ·rfl
 ·exact D4 c d e f ab
theorem FH:MF.umin.v f m=if f<m then f else m:=by simp only [MF.v];split<;>split<;>omega
theorem KK:MF.smin.v (av 32 f) (av 32 m)%4294967296=if wrap64 (av 32 f)<wrap64 (av 32 m) then f%4294967296 else m%4294967296:=by rw [FG (bg f).1 (bg f).2 (bg m).1 (bg m).2];exact qz m f _
theorem KL:MF.smax.v (av 32 f) (av 32 m)%4294967296=if wrap64 (av 32 f)<wrap64 (av 32 m) then m%4294967296 else f%4294967296:=qz f m _
theorem KM:MF.umin.v (av 32 f) (av 32 m)%4294967296=if f%4294967296<m%4294967296 then f%4294967296 else m%4294967296:=by rw [FH,qz m f];simp only [vf]
theorem KN:MF.umax.v (av 32 f) (av 32 m)%4294967296=if f%4294967296<m%4294967296 then m%4294967296 else f%4294967296:=by rw [show MF.umax.v (av 32 f) (av 32 m)=if av 32 f<av 32 m then av 32 m else av 32 f from rfl,qz f m];simp only [vf]
theorem KO (u:Value) (e:TypeId) (j:Nat) (x:Value) (h:[u][j]?=some x):(r.alloc (.cells #[u] e (0,0))).cell? ((⟨r.heap.size,0,none⟩:Addr).add j)=some x:=by
 have b:j=0:=by
  rcases Nat.eq_zero_or_pos j with a|a;·exact a
  ·rw [List.getElem?_eq_none a8] at h;cases h
 subst b;have c:(r.alloc (.cells #[u] e (0,0))).heap[r.heap.size]?=some (.cells #[u] e (0,0)):=heap_alloc_new _ _;simp at h;subst h;show (r.alloc (.cells #[u] e (0,0))).cell? ⟨r.heap.size,0,none⟩=some u;simp only [World.cell?,c];rfl
theorem rB {o2:Obj}:Bw a ((a.alloc j).alloc o2):=((Below.refl _ _).alloc (Nat.le_refl _) j).alloc bc o2
theorem zh (D:DV) (L:Option Addr) (P:Nat) (M:Option Addr) (Q:Nat) (n:Int) (w:World) (m:D.xs.length<=1048576) (p:D.ys.length<=1048576) (r:Sl .u8 w L D.xs) (s:Sl .u8 w M D.ys):Calls prog 83 #[.agg #[.u D.t,.u D.cm,.bool D.so,.slice L D.xs.length P,.slice M D.ys.length Q,.i D.ir],.i n] w λe g=>∃ (y:Option Addr) (A:Nat) (z:Option Addr) (B:Nat),e=.returned (.agg (il (gy D n) y A z B)) /\ aZ w.heap.size g.heap.size g (vO (gy D n) y A z B)/\Bw w g:=by
 have c:Hid (∀ w,CB 70 #[.agg #[.u D.t,.u D.cm,.bool D.so,.slice L D.xs.length P,.slice M D.ys.length Q,.i D.ir]] w (.bool (kP D.xs.length D.ys.length D.ir))):=λw=>mi _ _ _ _ _ _ _ _ _ _ w m p;have q:Hid (∀ g,Bw w g->Calls prog 88 #[.agg #[.u D.t,.u D.cm,.bool D.so,.slice L D.xs.length P,.slice M D.ys.length Q,.i D.ir]] g λe G=>∃ (y:Option Addr) (A:Nat) (z:Option Addr) (B:Nat),e=.returned (.agg #[.u D.t,.u D.cm,.bool D.so,.slice y D.xs.length A,.slice z D.ys.length B,.i D.ir])/\aZ g.heap.size G.heap.size G (fC y D.xs.length A D.xs z D.ys.length B D.ys)/\Bw g G):=λg W=>pG _ _ _ _ _ _ _ _ _ _ D.xs D.ys g rfl rfl m p (r.below W) (s.below W);cases d:kP D.xs.length D.ys.length D.ir with
 | false =>have F:gy D n=zeroD:=(by unfold gy;rw [d];rfl);rw [F];rw [d] at c;clear r s m p q F d;obtain ⟨t,V,so,J,K,X⟩:=D;dsimp only at c ⊢;generalize J.length=Y at *;generalize K.length=Z at *;go_enter func83,ntmps83;go_wp2_with fail;refine (c.out _).mono ?_;rintro e N ⟨rfl,b⟩;obtain ⟨E,j⟩:=jH b;have R1:=ak j;have H:=ak (aa rB b);obtain ⟨s0,s1,s2,s3,s4,s5⟩:=aH j;obtain ⟨y0,y1,y2,y3,y4,y5⟩:=kY j;clear E j b;go_wp2_with fail;exact bodyPost_ret (results_cell_row results83 _ _ _ _ _ _ _ rfl (eH R1.out _ _ _ _ _ _) underlying30 rfl aT) rfl ⟨none,0,none,0,rfl,gO _ _ _,cK H.out ab _ _ _ _ _ _⟩
 | true =>
   rw [d] at c;cases u:decide (n<0) with
   | true =>have F:gy D n=zeroD:=(by unfold gy;rw [d,u];rfl);rw [F];clear r s m p q F d;obtain ⟨t,V,so,J,K,X⟩:=D;dsimp only at c ⊢;generalize J.length=Y at *;generalize K.length=Z at *;go_enter func83,ntmps83;go_wp2_with fail;refine (c.out _).mono ?_;rintro e N ⟨rfl,b⟩;obtain ⟨E,j⟩:=jH b;have R1:=ak j;have H:=ak (aa rB b);obtain ⟨s0,s1,s2,s3,s4,s5⟩:=aH j;obtain ⟨y0,y1,y2,y3,y4,y5⟩:=kY j;clear E j b;go_wp2_with fail;exact bodyPost_ret (results_cell_row results83 _ _ _ _ _ _ _ rfl (eH R1.out _ _ _ _ _ _) underlying30 rfl aT) rfl ⟨none,0,none,0,rfl,gO _ _ _,cK H.out ab _ _ _ _ _ _⟩
   | false =>obtain ⟨R,C⟩:∃ R,Uz.wrap (D.t+Uz.wrap n)=R:=⟨_,rfl⟩;have F:gy D n=⟨R,D.cm,D.so,D.xs,D.ys,D.ir⟩:=(by unfold gy;rw [d,u,C];rfl);rw [F];have T:=ak C;clear r s m p F d C;obtain ⟨t,V,so,J,K,X⟩:=D;dsimp only [il,vO] at c q T ⊢;generalize J.length=Y at *;generalize K.length=Z at *;go_enter func83,ntmps83;go_wp2_with fail;refine (c.out _).mono ?_;rintro e N ⟨rfl,b⟩;obtain ⟨E,j⟩:=jH b;have R0:=ak E;have R1:=ak j;have H:=ak (aa rB b);obtain ⟨p0,p1,p2,p3,p4,p5⟩:=aH E;clear E j b;go_wp2_with fail;refine (q.out _ H.out).mono ?_;rintro e w2 ⟨y,A,z,B,rfl,I,l⟩;have O:=ak I;have S0:=ak (aB l R0.out);have f:=ak (aB l R1.out);have S:=ak (aa H.out l);have U:=ak (show w.heap.size+1<N.heap.size/\N.heap.size<=w2.heap.size from ⟨(Array.getElem?_eq_some_iff.1 R1.out).1,l.size⟩);have u0:=λo=>(aH (ah S0.out o)).1;have s0:=λo=>(aH (ah f.out o)).1;have s1:=λo=>(aH (ah f.out o)).2.1;have s2:=λo=>(aH (ah f.out o)).2.2.1;have s3:=λo=>(aH (ah f.out o)).2.2.2.1;have s4:=λo=>(aH (ah f.out o)).2.2.2.2.1;have s5:=λo=>(aH (ah f.out o)).2.2.2.2.2;have y0:=λo=>dh (ah f.out o) 0;have y1:=λo=>dh (ah f.out o) 1;have y2:=λo=>dh (ah f.out o) 2;have y3:=λo=>dh (ah f.out o) 3;have y4:=λo=>dh (ah f.out o) 4;have y5:=λo=>dh (ah f.out o) 5;clear I l p0 p1 p2 p3 p4 p5;go_wp2_with fail;rw [T.out];exact bodyPost_ret (results_cell_row results83 _ _ _ _ _ _ _ rfl (eH (ah f.out _) _ _ _ _ _ _) underlying30 rfl aT) rfl ⟨y,A,z,B,rfl,(((O.out.below (bal _ _)).put6 (w.heap.size+1) (.inl U.out.1) _ _ _ _ _ _).low (by have:=U.out;omega) (by simp only [aO,World.size_alloc];omega)),cK (S.out.alloc S.out.size _) ab _ _ _ _ _ _⟩
theorem aZ.pushIn {s o:Nat} {b:Option Addr} {xs w':Nat} {ys:List Int} (h:aZ x t a (fC l s o n b xs w' ys)) (B:t<=a.heap.size) (E:a.grownBy c (Value.slice l s o).ownBlock) {f:Option Addr} {m g:Nat} {zs:List Int} (u:c.ownsRow x 5 1 (.slice f m g) m (zs.map (Value.int .u8))) (j:(Value.slice f m g).ownBlock=(Value.slice l s o).ownBlock\/(Value.slice f m g).ownBlock=some a.heap.size):aZ x c.heap.size c (fC f m g zs b xs w' ys):=by
 have i:=(List.pairwise_cons.1 h.ne).1 (aw b xs w' ys) (List.mem_singleton.2 rfl);have p:=h.own (aw b xs w' ys) x9;have q:=h.hi (aw b xs w' ys) x9;refine ⟨λr w=>?_,λr w k e=>?_,List.pairwise_cons.2 ⟨λr w k e d=>?_,List.pairwise_singleton _ _⟩⟩
 ·rcases List.mem_cons.1 w with rfl|w;·exact u
  ·rw [List.mem_singleton.1 w];exact ew p (λk e=>E.block k (p.lt k e).2 (λd=>i k d.symm e))
 ·rcases List.mem_cons.1 w with rfl|w;·exact (u.lt k e).2
  ·rw [List.mem_singleton.1 w] at e;have:=(p.lt k e).2;have:=E.size;omega
 ·rw [List.mem_singleton.1 w] at d;rcases j with j|j;·exact i k (j.symm.trans e) d
  ·have v:some a.heap.size=some k:=j.symm.trans e;cases v;have:=q _ d;omega
theorem aZ.setNe {g d:Nat} {c:Option Addr} {i f:Nat} {ys:List Int} (h:aZ x t a (fC l g d n c i f ys)) (p:Addr) (v:Value) (j:∀ k,(Value.slice l g d).ownBlock=some k->k≠p.block) (b:∀ k,(Value.slice c i f).ownBlock=some k->k≠p.block):aZ x t (a.setCell p v) (fC l g d n c i f ys):=by
 refine ⟨λr w=>ew (h.own r w) (λk e=>Below.heap_setCell a p v k ?_),h.hi,h.ne⟩;rcases List.mem_cons.1 w with rfl | w;·exact j k e
 ·rw [List.mem_singleton.1 w] at e;exact b k e
theorem KP (o:Obj) (b:Int) (j:Nat) (u:Value) (h:[Value.int .u8 b][j]?=some u):((r.alloc o).alloc (.cells #[.int .u8 b] 5)).cell? ((⟨r.heap.size+1,0,none⟩:Addr).add j)=some u:=by have a:=AH (r.alloc o) b j u h;rw [World.size_alloc] at a;exact a
theorem zj (c1:Nat) (a2:Option Addr) (c2:Nat) (b:Int) (w:World) (I:d.xs.length<=1048576) (J:d.ys.length<=1048576) (P:Sl .u8 w k d.xs) (Q:Sl .u8 w a2 d.ys): Calls prog 84 #[.agg #[.u d.t,.u d.cm,.bool d.so,.slice k d.xs.length c1,.slice a2 d.ys.length c2,.i d.ir],.int .u8 b] w λe B=>∃ (m:Option Addr) (r:Nat) (q:Option Addr) (s:Nat),e=.returned (.agg (il (gM d b) m r q s)) /\ aZ w.heap.size B.heap.size B (vO (gM d b) m r q s)/\Bw w B:=by
 have y:Hid (∀ w,CB 70 #[.agg #[.u d.t,.u d.cm,.bool d.so,.slice k d.xs.length c1,.slice a2 d.ys.length c2,.i d.ir]] w (.bool (kP d.xs.length d.ys.length d.ir))):=λw=>mi _ _ _ _ _ _ _ _ _ _ w I J
 have E:Hid (∀ B,Bw w B->Calls prog 88 #[.agg #[.u d.t,.u d.cm,.bool d.so,.slice k d.xs.length c1,.slice a2 d.ys.length c2,.i d.ir]] B λe Y=>∃ (m:Option Addr) (r:Nat) (q:Option Addr) (s:Nat),e=.returned (.agg #[.u d.t,.u d.cm,.bool d.so,.slice m d.xs.length r,.slice q d.ys.length s,.i d.ir])/\aZ B.heap.size Y.heap.size Y (fC m d.xs.length r d.xs q d.ys.length s d.ys)/\Bw B Y):=λB hb=>pG _ _ _ _ _ _ _ _ _ _ d.xs d.ys B rfl rfl I J (P.below hb) (Q.below hb)
 cases z:kP d.xs.length d.ys.length d.ir with
 | false =>
   have F:gM d b=zeroD:=by unfold gM;rw [z];rfl
   rw [F]
   rw [z] at y
   clear P Q I J E F z
   obtain ⟨t,S,U,N,Z,T⟩:=d
   dsimp only at y ⊢
   generalize N.length=l at *
   generalize Z.length=K at *
   go_enter func84,ntmps84
   go_wp2_with fail
   refine (y.out _).mono ?_
   rintro e M ⟨rfl,D⟩
   obtain ⟨R,L⟩:=jH D
   have R1:=ak L
   have V:=ak (aa rB D)
   obtain ⟨s0,s1,s2,s3,s4,s5⟩:=aH L
   obtain ⟨y0,y1,y2,y3,y4,y5⟩:=kY L
   clear R L D
   go_wp2_with fail
   exact bodyPost_ret (results_cell_row results84 _ _ _ _ _ _ _ rfl (eH R1.out _ _ _ _ _ _) underlying30 rfl aT) rfl ⟨none,0,none,0,rfl,gO _ _ _,cK V.out ab _ _ _ _ _ _⟩
 | true =>
   rw [z] at y
   by_cases hl:d.xs.length<16
   ·have F:gM d b=⟨d.t,d.cm,d.so,d.xs++[b],d.ys,d.ir⟩:=by unfold gM;rw [z,if_pos rfl,if_pos hl]
    have el:(d.xs++[b]).length=d.xs.length+1:=by rw [List.length_append];rfl
    rw [F]
    dsimp only [il,vO]
    rw [el]
    have dl:decide ((d.xs.length:Int)<16)=true:=by simp;omega
    have HN:Hid (d.xs.length<16):=hl
    clear P Q I J F z el hl
    obtain ⟨t,S,U,N,Z,T⟩:=d
    dsimp only at y E HN dl ⊢
    generalize N.length=l at *
    generalize Z.length=K at *
    go_enter func84,ntmps84
    go_wp2_with fail
    refine (y.out _).mono ?_
    rintro e M ⟨rfl,D⟩
    obtain ⟨R,L⟩:=jH D
    have R0:=ak R
    have R1:=ak L
    have V:=ak (aa rB D)
    obtain ⟨p0,p1,p2,p3,p4,p5⟩:=aH R
    clear R L D
    go_wp2_with fail
    refine (E.out _ V.out).mono ?_
    rintro e g ⟨m,r,q,s,rfl,G,f⟩
    have C:=ak G
    have S0:=ak (aB f R0.out)
    have c:=ak (aB f R1.out)
    have B2:=ak (aa V.out f)
    have A:=ak (show w.heap.size+1<M.heap.size/\M.heap.size<=g.heap.size from ⟨(Array.getElem?_eq_some_iff.1 R1.out).1,f.size⟩)
    have u0:=λo=>(aH (ah S0.out o)).1
    have s0:=λo=>(aH (ah c.out o)).1
    have s1:=λo=>(aH (ah c.out o)).2.1
    have s2:=λo=>(aH (ah c.out o)).2.2.1
    have s3:=λo=>(aH (ah c.out o)).2.2.2.1
    have s4:=λo=>(aH (ah c.out o)).2.2.2.2.1
    have s5:=λo=>(aH (ah c.out o)).2.2.2.2.2
    have y0:=λo=>dh (ah c.out o) 0
    have y1:=λo=>dh (ah c.out o) 1
    have y2:=λo=>dh (ah c.out o) 2
    have y3:=λo=>dh (ah c.out o) 3
    have y4:=λo=>dh (ah c.out o) 4
    have y5:=λo=>dh (ah c.out o) 5
    clear G f p0 p1 p2 p3 p4 p5
    have FMW:Hid (aZ M.heap.size g.heap.size ((g.alloc (.cells #[.u t,.u S,.bool U,.slice m l r,.slice q K s,.i T] 30)).alloc (.cells #[.int .u8 b] 5)) (fC m l r N q K s Z)):=C.out.below ((bal _ _).alloc bc _)
    have O:((g.alloc (.cells #[.u t,.u S,.bool U,.slice m l r,.slice q K s,.i T] 30)).alloc (.cells #[.int .u8 b] 5)).ownsRow M.heap.size 5 1 (.slice m l r) l (N.map (Value.int .u8)):=FMW.out.own (aw m l r N) x9
    have HOWN:=ak O
    have hlt:=λa1 e=>O.lt a1 e
    have HNW:∀ j u,[Value.int .u8 b][j]?=some u->((g.alloc (.cells #[.u t,.u S,.bool U,.slice m l r,.slice q K s,.i T] 30)).alloc (.cells #[.int .u8 b] 5)).cell? ((⟨g.heap.size+1,0,none⟩:Addr).add j)=some u:=KP g _ b
    have HNEW:=ak HNW
    have FHI:=ak (λa1 e=>C.out.hi (aw m l r N) x9 a1 e)
    have FLO:=ak (λa1 e=>(O.lt a1 e).1)
    have nd1:¬ g.heap.size=w.heap.size+1:=by have:=A.out;omega
    have nd2:¬ w.heap.size+1=g.heap.size:=by have:=A.out;omega
    clear O HNW hlt
    go_upto_region 5 with fail
    go_wp2_with (first
     | (at_builtin;refine qb rfl (.tmp 17) (.tmp 19) rfl M.heap.size l (.slice m l r) N rfl HOWN.out (by have:=HN.out;omega) ⟨g.heap.size+1,0,none⟩ 1 b rfl HNEW.out i5 ?_;intro f1 g1 w3 ow3 H X;have NE1:Hid (∀ a1,(Value.slice f1 (l+1) g1).ownBlock=some a1->a1≠g.heap.size):=(λa1 e=>by rcases X with h | h;(have:=FHI.out a1 (h.symm.trans e);omega);(rw [h] at e;simp only [World.size_alloc,Option.some.injEq] at e;omega));have A3:=ak (FMW.out.pushIn bv H ow3 X);have W:∀ a1,(a1<M.heap.size\/g.heap.size<=a1)->some a1≠(Value.slice m l r).ownBlock:=(λa1 hk e=>by have h5:=FHI.out a1 e.symm;have h6:=FLO.out a1 e.symm;omega);have V5:w3.heap[g.heap.size]?=some (.cells #[.u t,.u S,.bool U,.slice m l r,.slice q K s,.i T] 30 (0,0)):=(H.block _ bv (W _ (.inr (Nat.le_refl _)))).trans (ah (heap_alloc_new g _) _);have V1:=ak ((H.block _ i5 (W _ (.inl A.out.1))).trans (ah (ah c.out _) _));have B3:=ak (B2.out.trans (Below.grown (((Below.refl w.heap.size g).alloc (by have:=A.out;omega) _).alloc i5 _) H i5 (λa1 hk=>by have h6:=FLO.out a1 hk;have:=A.out;omega)));obtain ⟨x0,x1,x2,x3,x4,x5⟩:=aH V5;have xf:=dh V5 3;have Z3:=ak (show g.heap.size<w3.heap.size from (Array.getElem?_eq_some_iff.1 V5).1);clear u0 s0 s1 s2 s3 s4 s5 y0 y1 y2 y3 y4 y5;obtain ⟨s0,s1,s2,s3,s4,s5⟩:=aH V1.out;obtain ⟨y0,y1,y2,y3,y4,y5⟩:=kY V1.out;clear H ow3 X W V5))
    have NE2:∀ a1,(Value.slice q K s).ownBlock=some a1->a1≠g.heap.size:=λa1 e=>by have:=C.out.hi (aw q K s Z) x9 a1 e;omega
    have A4:=(A3.out.setNe ⟨g.heap.size,3,none⟩ (.slice f1 (l+1) g1) NE1.out NE2).put6 (w.heap.size+1) (.inl A.out.1) (.u t) (.u S) (.bool U) (.slice f1 (l+1) g1) (.slice q K s) (.i T)
    have T1:=eH (dS V1.out ⟨g.heap.size,3,none⟩ (.slice f1 (l+1) g1) nd2) (.u t) (.u S) (.bool U) (.slice f1 (l+1) g1) (.slice q K s) (.i T)
    exact bodyPost_ret (results_cell_row results84 _ _ _ _ _ _ _ rfl T1 underlying30 rfl aT) rfl ⟨f1,g1,q,s,rfl,A4.low (by have:=A.out;omega) eh,cK (B3.out.setCell (p:=⟨g.heap.size,3,none⟩) (by have:=A.out;dsimp only;omega) _) ab _ _ _ _ _ _⟩
   ·have F:gM d b=d:=by unfold gM;rw [z,if_pos rfl,if_neg hl]
    rw [F]
    have dl:decide ((d.xs.length:Int)<16)=false:=by simp;omega
    clear P Q I J F z hl
    obtain ⟨t,S,U,N,Z,T⟩:=d
    dsimp only [il,vO] at y E dl ⊢
    generalize N.length=l at *
    generalize Z.length=K at *
    go_enter func84,ntmps84
    go_wp2_with fail
    refine (y.out _).mono ?_
    rintro e M ⟨rfl,D⟩
    obtain ⟨R,L⟩:=jH D
    have R0:=ak R
    have R1:=ak L
    have V:=ak (aa rB D)
    obtain ⟨p0,p1,p2,p3,p4,p5⟩:=aH R
    clear R L D
    go_wp2_with fail
    refine (E.out _ V.out).mono ?_
    rintro e g ⟨m,r,q,s,rfl,G,f⟩
    have C:=ak G
    have S0:=ak (aB f R0.out)
    have c:=ak (aB f R1.out)
    have B2:=ak (aa V.out f)
    have A:=ak (show w.heap.size+1<M.heap.size/\M.heap.size<=g.heap.size from ⟨(Array.getElem?_eq_some_iff.1 R1.out).1,f.size⟩)
    have u0:=λo=>(aH (ah S0.out o)).1
    have s0:=λo=>(aH (ah c.out o)).1
    have s1:=λo=>(aH (ah c.out o)).2.1
    have s2:=λo=>(aH (ah c.out o)).2.2.1
    have s3:=λo=>(aH (ah c.out o)).2.2.2.1
    have s4:=λo=>(aH (ah c.out o)).2.2.2.2.1
    have s5:=λo=>(aH (ah c.out o)).2.2.2.2.2
    have y0:=λo=>dh (ah c.out o) 0
    have y1:=λo=>dh (ah c.out o) 1
    have y2:=λo=>dh (ah c.out o) 2
    have y3:=λo=>dh (ah c.out o) 3
    have y4:=λo=>dh (ah c.out o) 4
    have y5:=λo=>dh (ah c.out o) 5
    clear G f p0 p1 p2 p3 p4 p5
    go_wp2_with fail
    exact bodyPost_ret (results_cell_row results84 _ _ _ _ _ _ _ rfl (eH (ah c.out _) _ _ _ _ _ _) underlying30 rfl aT) rfl ⟨m,r,q,s,rfl,(((C.out.below (bal _ _)).put6 (w.heap.size+1) (.inl A.out.1) _ _ _ _ _ _).low (by have:=A.out;omega) (by simp only [aO,World.size_alloc];omega)),cK (B2.out.alloc B2.out.size _) ab _ _ _ _ _ _⟩
end Go.Proofs.YtfagphfjfhpmjaaGreatDoor
