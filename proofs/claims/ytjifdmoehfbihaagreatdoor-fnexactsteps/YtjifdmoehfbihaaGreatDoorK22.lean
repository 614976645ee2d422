/- Own lemmas. -/
import Derived.Test.YtjifdmoehfbihaaGreatDoorAut
import Derived.Test.YtjifdmoehfbihaaGreatDoorK08
import Derived.Test.YtjifdmoehfbihaaGreatDoorK11
import Derived.Deep.Cut
import Derived.Lib.TrailingZeros
set_option maxRecDepth 100000
set_option maxHeartbeats 1600000
namespace Go.Proofs.YtjifdmoehfbihaaGreatDoor
open Go.RowKit Tryz Go.Conc
open IntKind renaming u64->Uz
set_option linter.unusedVariables false
theorem kP.refl (c:Nat) (w:World):kP c w w:=⟨rfl,λ_ _=>rfl,λ_ _ _ h=>h⟩
theorem kP.trans {c:Nat} {w w1 w2:World} (h:kP c w w1) (k:kP c w1 w2):kP c w w2:=⟨k.size.trans h.size,λj d=>(k.else_ j d).trans (h.else_ j d),λB a b e=>k.below B a b (h.below B a b e)⟩
theorem nb.push {c:Nat} {w wr w1 w3:World} {o:Obj} {row:Option Nat} (h:nb c (c+1) w wr) (m:c<w.heap.size) (f:kP c wr w1) (a:(w1.alloc o).grownBy w3 row) (hr:∀ k,row=some k->w.heap.size<=k):nb c (c+1) w w3:=by have b:=f.below c wr (Nat.le_refl _) (Below.refl _ _);have i:=a.size;have j:=f.size;have l:=h.size;rw [World.size_alloc] at i;refine ⟨a.os.trans (b.os.trans h.os),a.tape.trans (b.tape.trans h.tape),a.output.trans (b.output.trans h.output),al,λk g d=>?_⟩;rw [a.block k (by rw [World.size_alloc];omega) (λe=>by have:=hr k e.symm;omega),Below.heap_alloc w1 o k al,f.else_ k al,h.block k g d]
theorem Gn {c cap:Nat} {a:List Value} {cl:Bool} {w1 w3:World} {o:Obj} {row:Option Nat} (h:cT w1 c cap a cl) (b:(w1.alloc o).grownBy w3 row) (hr:∀ k,row=some k->c<k):cT w3 c cap a cl :=
 oW h ((b.block c (by rw [World.size_alloc];have:=h.lt;omega) (λe=>by have:=hr c e.symm;omega)).trans (Below.heap_alloc w1 o c h.lt))
theorem wC (zs:List Int) (k:Nat) (h:k<zs.length):(zs.take k).map (Value.int .u8)++[.int .u8 (zs.getD k 0)]=(zs.take (k+1)).map (Value.int .u8):=by
 have a:zs.take (k+1)=zs.take k++[zs.getD k 0]:=by rw [List.take_succ_eq_append_getElem h];simp [List.getD,List.getElem?_eq_getElem h]
 rw [a,List.map_append];rfl
theorem Gp (zs:List Int) (k:Nat) (h:k<zs.length):(zs.drop k).map (Value.int .u8)=.int .u8 (zs.getD k 0)::(zs.drop (k+1)).map (Value.int .u8):=by rw [List.drop_eq_getElem_cons h,List.map_cons];simp [List.getD,List.getElem?_eq_getElem h]
theorem rE (c cap:Nat) (a:Option Addr) (n I:Nat) (zs:List Int) (w0 w:World) (hz:zs.length=n) (hn:n<=1048576) (d:n<=cap) (p:Sl .u8 w0 a zs) (l:Bw w0 w) (m:w0.heap.size<=c) (B:cT w c cap [] false):Calls prog 293 #[.chan (some c),.slice a n I] w λe C=>e=.returned (.tuple #[])/\cT C c cap (zs.map (Value.int .u8)) false/\kP c w C:=by
 have A:Hid (Bw w0 w/\w0.heap.size<=c):=⟨l,m⟩;have G:Hid (Sl .u8 w0 a zs):=p;have D:Hid (cT w c cap [] false):=B;have q:Hid (zs.length=n):=hz;have HR:Hid (n<=cap):=d;clear l m p B hz d;go_enter func293,ntmps293;go_wp2_with fail;go_loopw [8] (λi wr=>∃ k:Nat,k<=n/\i=.i k/\Hid (cT wr c cap ((zs.take k).map (Value.int .u8)) false)/\Hid (kP c w wr))
  (λi _=>n-(intOf i).toNat)
 case atStart=>exact ⟨0,Nat.zero_le _,rfl,D.out,kP.refl _ _⟩
 case round =>
  obtain ⟨k,L,rfl,f,g⟩:=hrel;by_cases t:k<n
  ·obtain ⟨b,y,rfl,H,o⟩:=G.out k (by rw [q.out];exact t);have J:wr.cell? ⟨b,y+k,none⟩=some (.int .u8 (zs.getD k 0)):=((g.out.below _ _ A.out.2 A.out.1).cell (by exact H)).trans o;clear o;have E:Hid ((zs.take k).map (Value.int .u8)++[.int .u8 (zs.getD k 0)]=(zs.take (k+1)).map (Value.int .u8)):=(by exact wC zs k (by have:=q.out;omega));have F:((zs.take k).map (Value.int .u8)).length<cap:=(by have:=q.out;have:=HR.out;simp;omega);go_upto_region 3 with fail
   refine gn ?_;intro K j;unfold mn;refine jv rfl rfl ?_;simp [go_sem,Act.put];refine jv rfl rfl ?_;simp [go_sem,Act.put];refine sM (c:=c) (v:=.int .u8 (zs.getD k 0)) (z:=.tuple #[]) rfl rfl (by simp [go_sem,scase]) f.out F ?_;intro M r u;simp only [Act.put];refine lI (j.out _ _ _ ?_);clear j;go_wp2_with fail;go_roundw;case rel=>exact ⟨k+1,al,by go_num,by rw [<- E.out];exact r,g.out.trans u⟩
   case measure=>simp [intOf];omega
  ·have s:k=n:=al;subst s;rw [<- q.out,List.take_length] at f;go_wp2_with fail;refine bodyPost_end (results_none rfl _ _ _) rfl ?_;exact ⟨rfl,f.out,g.out⟩
theorem j9 (c cap:Nat) (zs:List Int) (w:World) (hn:zs.length<=1048576) (M:cT w c cap (zs.map (Value.int .u8)) true):Calls prog 294 #[.chan (some c)] w λe N=>∃ (g:Option Addr) (j:Nat),e=.returned (.slice g zs.length j)/\N.ownsRow w.heap.size 5 1 (.slice g zs.length j) zs.length (zs.map (Value.int .u8))/\nb c (c+1) w N:=by
 have L:Hid (cT w c cap (zs.map (Value.int .u8)) true):=M
 have O:Hid (zs.length<=1048576):=hn
 clear M hn
 go_enter func294,ntmps294
 go_wp2_with fail
 go_loopw [3] (λy wr=>∃ (k:Nat) (g:Option Addr) (j:Nat),k<=zs.length/\y=.slice g k j/\Hid (wr.ownsRow w.heap.size 5 1 (.slice g k j) k ((zs.take k).map (Value.int .u8)))/\Hid (cT wr c cap ((zs.drop k).map (Value.int .u8)) true)/\Hid (nb c (c+1) w wr))
  (λ_ wr=>xe wr c)
 case atStart=>exact ⟨0,none,0,Nat.zero_le _,rfl,⟨rfl,.inl ⟨rfl,rfl⟩⟩,L.out,nb.refl _ _ _⟩
 case round =>
  obtain ⟨k,g,j,W,rfl,p,m,u⟩:=hrel
  by_cases E:k<zs.length
  ·have Q:=ak (wC zs k E)
   have d:cT wr c cap (.int .u8 (zs.getD k 0)::(zs.drop (k+1)).map (Value.int .u8)) true:=by rw [<- Gp zs k E];exact m.out
   have l:=ak d
   clear d m
   have s:=ak (L.out.lt)
   generalize zs.getD k 0=b at *
   refine wp_seq (gn ?_)
   intro S f
   unfold mn
   refine sN (c:=c) (z:=.int .u8 0) true rfl rfl (by simp [go_sem,rcase]) l.out ?_
   intro G C o
   simp only [got,if_true]
   refine jv rfl rfl ?_
   simp [go_sem,Act.put]
   refine lI (f.out _ _ _ ?_)
   clear f
   simp only [Exit.then]
   have P:Hid ((G.alloc (.cells #[.int .u8 b] 5)).ownsRow w.heap.size 5 1 (.slice g k j) k ((zs.take k).map (Value.int .u8))):=dF (gM p.out (λq e=>o.else_ q (by have:=(p.out.lt q e).1;have:=s.out;omega))) (bal _ _)
   have A:=ak (Im G b)
   have T:=ak (show w.heap.size<=G.heap.size by rw [o.size];exact u.out.size)
   have H:=ak C
   have I:=ak o
   clear C o
   go_wp2_with (first
    | (at_builtin;refine xu rfl (.tmp 9) (.tmp 11) rfl w.heap.size k (.slice g k j) (zs.take k) rfl P.out (by have:=O.out;omega) ⟨G.heap.size,0,none⟩ 1 b rfl A.out (by have:=T.out;simp only [World.size_alloc];omega) ?_;intro U V X F B J;have R:=ak F;have K:=ak B;clear F B J))
   have r:∀ q,(Value.slice g k j).ownBlock=some q->w.heap.size<=q:=λq e=>(p.out.lt q e).1
   have D:=Gn H.out K.out (λq e=>Nat.lt_of_lt_of_le s.out (r q e))
   go_roundw
   case rel=>exact ⟨k+1,U,V,al,rfl,(by rw [<- Q.out];have h:=R.out;rw [List.map_append] at h;exact h),D,u.out.push s.out I.out K.out r⟩
   case measure=>rw [D.len,l.out.len];simp
  ·have t:zs.length=k:=by omega
   have d:cT wr c cap [] true:=by
    have h:=m.out
    rw [<- t,List.drop_length] at h
    exact h
   have l:=ak d
   clear d m
   refine wp_seq (gn ?_)
   intro S f
   unfold mn
   refine sO (c:=c) (z:=.int .u8 0) true rfl rfl (by simp [go_sem,rcase]) l.out ?_
   simp only [got,if_true]
   refine jv rfl rfl ?_
   simp [go_sem,Act.put]
   refine lI (f.out _ _ _ ?_)
   clear f
   simp only [Exit.then]
   go_wp2_with fail
   go_ret
   refine ⟨g,j,(by rw [t];rfl),?_,u.out⟩
   have h:=p.out
   rw [<- t,List.take_length] at h
   exact h
theorem Jp (a:Nat) (hm:a<=1048576) (w:World):(Instr.makeChan 303 (.i a)).run prog w=.ok (.chan (some w.heap.size)) (w.alloc (.chan a #[] false 0 0 false)):=by obtain ⟨f,c,d,e,b⟩:=info_parts info5;exact run_makeChan underlying303 c .i64 a al (by rw [b];omega)
def gJ (zs:List Int) (b:Int) (a:Nat):List Int:=if zs.length<a then zs++[b] else zs
theorem pQ {w w1 w2 w3:World} {o:Obj} {v:Value} {n:Nat} {xs:List Value} {c:Nat} (f:c=w.heap.size) (a:kP c (w.alloc o) w1) (b:kP c w1 w2) (d:nb c (c+1) w2 w3) (g:w3.ownsRow w2.heap.size 5 1 v n xs):w3.ownsRow w.heap.size 5 1 v n xs/\Bw w w3:=by subst f;have h:=a.size;have i:=b.size;have j:=d.size;rw [World.size_alloc] at h;have e:=b.below _ _ (Nat.le_refl _) (a.below _ _ (Nat.le_refl _) ((Below.refl w.heap.size w).alloc (Nat.le_refl _) o));exact ⟨dp g al,e.trans (d.below (Nat.le_refl _) al)⟩
theorem ue (a:Option Addr) (n Q d:Nat) (zs:List Int) (b:Int) (w:World) (hz:zs.length=n) (hm:d<=4096) (hn:n<=d) (r:Sl .u8 w a zs):Calls prog 292 #[.slice a n Q,.int .u8 b,.i d] w λe F=>∃ (t:Option Addr) (u:Nat),e=.returned (.slice t (gJ zs b d).length u)/\F.ownsRow w.heap.size 5 1 (.slice t (gJ zs b d).length u) (gJ zs b d).length ((gJ zs b d).map (Value.int .u8))/\Bw w F:=by
 have O:Hid (∀ p,Bw w p->cT p w.heap.size d [] false->Calls prog 293 #[.chan (some w.heap.size),.slice a n Q] p λe F=>e=.returned (.tuple #[])/\cT F w.heap.size d (zs.map (Value.int .u8)) false/\kP w.heap.size p F):=λp U W=>rE _ _ _ _ _ zs w p hz al hn r U (Nat.le_refl _) W;have X:=Jp d al;have M:Hid (∀ o,Bw w (w.alloc o)):=λo=>(Below.refl _ _).alloc (Nat.le_refl _) o;have N:Hid (∀ m,cT (w.alloc (.chan m #[] false 0 0 false)) w.heap.size m [] false):=λm=>⟨0,0,heap_alloc_new _ _⟩;by_cases G:n<d
 ·have s:Hid (gJ zs b d=zs++[b]):=(by show _=_;unfold gJ;rw [hz,if_pos G]);have I:Hid ((gJ zs b d).length<=1048576):=(by show _<=_;rw [s.out];simp;omega);have R:Hid ((zs.map (Value.int .u8)).length<d):=(by show _<_;simp;omega);have S:Hid (zs.map (Value.int .u8)++[.int .u8 b]=(gJ zs b d).map (Value.int .u8)):=(by show _=_;rw [s.out,List.map_append];rfl);clear s;generalize gJ zs b d=V at *;have T:decide (n<d)=true:=a7;clear G r hz hn hm;go_enter func292,ntmps292;go_wp2_with fail;refine (O.out _ (M.out _) (N.out _)).mono ?_;rintro e p ⟨rfl,g,j⟩;have H:=ak g;have J:=ak j;clear g j;go_upto_region 4 with fail
  refine gn ?_;intro QC A;unfold mn;refine jv rfl rfl ?_;simp [go_sem,Act.put];refine jv rfl rfl ?_;simp [go_sem,Act.put];refine sM (c:=w.heap.size) (v:=.int .u8 b) (z:=.tuple #[]) rfl rfl (by simp [go_sem,scase]) H.out R.out ?_;intro w2 B D;simp only [Act.put];refine lI (A.out _ _ _ ?_);clear A;obtain ⟨L,K,f,l⟩:=xf (P:=prog) B;rw [S.out] at f;have q:=ak (J.out.trans (D.trans l));have HR:=ak (j9 w.heap.size d V L I.out f);clear B D f l;try simp only [Exit.then]
  go_wp2_with fail;refine (HR.out).mono ?_;rintro e Y ⟨t,u,rfl,E,C⟩;have y:=ak (pQ rfl q.out (kP.refl _ _) C E);clear E C;go_wp2_with fail;go_ret;exact ⟨t,u,rfl,y.out.1,y.out.2⟩
 ·have s:Hid (gJ zs b d=zs):=(by show _=_;unfold gJ;rw [hz,if_neg G]);have I:Hid (zs.length<=1048576):=(by show _<=_;omega);generalize gJ zs b d=V at *;have T:decide (n<d)=false:=a7;have Z:Hid (zs.length=n):=hz;clear G r hz hn hm;go_enter func292,ntmps292;go_wp2_with fail;refine (O.out _ (M.out _) (N.out _)).mono ?_;rintro e p ⟨rfl,g,j⟩;obtain ⟨L,K,f,l⟩:=xf (P:=prog) g;have q:=ak (j.trans l);have HR:=ak (j9 w.heap.size d zs L I.out f);clear g j f l;go_wp2_with fail;refine (HR.out).mono ?_;rintro e Y ⟨t,u,rfl,E,C⟩;have y:=ak (pQ rfl q.out (kP.refl _ _) C E);clear E C;go_wp2_with fail;go_ret;exact ⟨t,u,(by rw [s.out];rfl),(by rw [s.out];exact y.out.1),y.out.2⟩
theorem qB (a:Option Addr) (n J:Nat) (zs:List Int) (w:World) (hz:zs.length=n) (hn:n<=4096) (B:Sl .u8 w a zs):Calls prog 290 #[.slice a n J] w λe D=>∃ (r:Option Addr) (s:Nat),e=.returned (.tuple #[.int .u8 (zs.getD 0 0),.slice r (zs.drop 1).length s])/\D.ownsRow w.heap.size 5 1 (.slice r (zs.drop 1).length s) (zs.drop 1).length ((zs.drop 1).map (Value.int .u8))/\Bw w D:=by
 have I:Hid (∀ p,Bw w p->cT p w.heap.size n [] false->Calls prog 293 #[.chan (some w.heap.size),.slice a n J] p λe D=>e=.returned (.tuple #[])/\cT D w.heap.size n (zs.map (Value.int .u8)) false/\kP w.heap.size p D):=λp N O=>rE _ _ _ _ _ zs w p hz al (Nat.le_refl _) B N (Nat.le_refl _) O;have Q:=Jp n al;have G:Hid (∀ o,Bw w (w.alloc o)):=λo=>(Below.refl _ _).alloc (Nat.le_refl _) o;have H:Hid (∀ m,cT (w.alloc (.chan m #[] false 0 0 false)) w.heap.size m [] false):=λm=>⟨0,0,heap_alloc_new _ _⟩;have L:Hid ((zs.drop 1).length<=1048576):=by show _<=_;simp;omega
 clear B;cases zs with
 | nil =>
   clear hz hn;go_enter func290,ntmps290;go_wp2_with fail;refine (I.out _ (G.out _) (H.out _)).mono ?_;rintro e p ⟨rfl,d,g⟩;obtain ⟨K,F,f,j⟩:=xf (P:=prog) d;have q:=ak (g.trans j);have l:=ak f;clear d g f j;go_upto_region 4 with fail
   refine gn ?_;intro M b;unfold mn;refine jv rfl rfl ?_;simp [go_sem,Act.put];refine sO (c:=w.heap.size) (z:=.int .u8 0) false rfl rfl (by simp [go_sem,rcase]) l.out ?_;simp [got];refine jv rfl rfl ?_;simp [go_sem,Act.put];refine lI (b.out _ _ _ ?_);clear b;have HR:=ak (j9 w.heap.size n [] K bc l.out);try simp only [Exit.then]
   go_wp2_with fail;refine (HR.out).mono ?_;rintro e S ⟨r,s,rfl,C,y⟩;have t:=ak (pQ rfl q.out (kP.refl _ _) y C);clear C y;go_wp2_with fail;refine bodyPost_ret (results_tmp2 rfl _ _ _) rfl ?_;exact ⟨r,s,rfl,t.out.1,t.out.2⟩
 | cons z zs =>
   clear hz hn;go_enter func290,ntmps290;go_wp2_with fail;refine (I.out _ (G.out _) (H.out _)).mono ?_;rintro e p ⟨rfl,d,g⟩;obtain ⟨K,F,f,j⟩:=xf (P:=prog) d;have q:=ak (g.trans j);have l:=ak f;clear d g f j;go_upto_region 4 with fail
   refine gn ?_;intro M b;unfold mn;refine jv rfl rfl ?_;simp [go_sem,Act.put];refine sN (c:=w.heap.size) (z:=.int .u8 0) false rfl rfl (by simp [go_sem,rcase]) l.out ?_;intro R u A;have E:=ak (q.out.trans A);have HR:=ak (j9 w.heap.size n zs R L.out u);clear u A;simp [got];refine jv rfl rfl ?_;simp [go_sem,Act.put];refine lI (b.out _ _ _ ?_);clear b;try simp only [Exit.then]
   go_wp2_with fail;refine (HR.out).mono ?_;rintro e S ⟨r,s,rfl,C,y⟩;have t:=ak (pQ rfl E.out (kP.refl _ _) y C);clear C y;go_wp2_with fail;refine bodyPost_ret (results_tmp2 rfl _ _ _) rfl ?_;exact ⟨r,s,rfl,t.out.1,t.out.2⟩
end Go.Proofs.YtjifdmoehfbihaaGreatDoor
namespace Go.Proofs.YtjifdmoehfbihaaGreatDoor
open Go.RowKit Tryz
open IntKind renaming u64->Uz
set_option linter.unusedVariables false
theorem jy (t cm:Int) (C:Bool) (s:Option Addr) (b y:Nat) (u:Option Addr) (c z:Nat) (d:Int) (w:World) (f:b<=1048576) (g:c<=1048576):CB 70 #[.agg #[.u t,.u cm,.bool C,.slice s b y,.slice u c z,.i d]] w (.bool (kq b c d)):=by
 have q:∀ o,Bw w (w.alloc o):=λo=>(Below.refl _ _).alloc (Nat.le_refl _) o;have F:kq b c d=(decide (b<=16)&&decide (c<=4096)&&decide (0<=d/\d<=1)):=rfl;by_cases j:b<=16
 ·have A:decide ((b:Int)<=16)=true:=a7;by_cases m:c<=4096
  ·have B:decide ((c:Int)<=4096)=true:=a7;by_cases p:d=0;·have l:Hid (kq b c d=true):=(by show _=_;rw [F,decide_eq_true j,decide_eq_true m,p];rfl);subst p;generalize kq b c 0=v at *;clear F j m f g;go_enter func70,ntmps70;go_wp2_with fail;go_ret;exact ⟨v9,q _⟩
   ·by_cases r:d=1;·have l:Hid (kq b c d=true):=(by show _=_;rw [F,decide_eq_true j,decide_eq_true m,r];rfl);subst r;generalize kq b c 1=v at *;clear F j m p f g;go_enter func70,ntmps70;go_wp2_with fail;go_ret;exact ⟨v9,q _⟩
    ·have l:Hid (kq b c d=false):=(by show _=_;rw [F,decide_eq_true j,decide_eq_true m,decide_eq_false al];rfl);have E:(d==0)=false:=(by simpa using p);have G:(d==1)=false:=(by simpa using r);generalize kq b c d=v at *;clear F j m p r f g;exact a0o
  ·have B:decide ((c:Int)<=4096)=false:=a7;have l:Hid (kq b c d=false):=(by show _=_;rw [F,decide_eq_true j,decide_eq_false m];rfl);generalize kq b c d=v at *;clear F j m f g;exact a0o
 ·have A:decide ((b:Int)<=16)=false:=a7;have l:Hid (kq b c d=false):=(by show _=_;rw [F,decide_eq_false j];rfl);generalize kq b c d=v at *;clear F j f g;exact a0o
theorem Jq (w:World):CE 289 #[.u 33554432,.i 4] w (.bool true):=by go_enter func289,ntmps289;exact a02
theorem Jr (w:World):CE 289 #[.u 33570816,.i 8] w (.bool true):=by go_enter func289,ntmps289;exact a02
theorem Js (w:World):CE 289 #[.u 33603576,.i 8] w (.bool true):=by go_enter func289,ntmps289;exact a02
theorem Jt (w:World):CE 289 #[.u 268435456,.i 1] w (.bool true):=by go_enter func289,ntmps289;exact a02
theorem Ju (w:World):CE 289 #[.u 268435457,.i 1] w (.bool true):=by go_enter func289,ntmps289;exact a02
theorem Jv (w:World):CE 289 #[.u 268435461,.i 1] w (.bool true):=by go_enter func289,ntmps289;exact a02
theorem Jw (addr size:Int) (c:addr=33554432->¬ size=4) (k1:addr=33570816->¬ size=8) (d:addr=33603576->¬ size=8) (f:addr=268435456->¬ size=1) (g:addr=268435457->¬ size=1) (j:addr=268435461->¬ size=1) (w:World):CE 289 #[.u addr,.i size] w (.bool false):=by
 cases m:(addr==33554432) with
 | true =>have b:addr=33554432:=(by simpa using m);have l:(size==4)=false:=(by simpa using c b);exact a0p
 | false =>
   cases o:(addr==33570816) with
   | true =>have b:addr=33570816:=(by simpa using o);have l:(size==8)=false:=(by simpa using k1 b);exact a0p
   | false =>
     cases p:(addr==33603576) with
     | true =>have b:addr=33603576:=(by simpa using p);have l:(size==8)=false:=(by simpa using d b);exact a0p
     | false =>
       cases q:(addr==268435456) with
       | true =>have b:addr=268435456:=(by simpa using q);have l:(size==1)=false:=(by simpa using f b);exact a0p
       | false =>
         cases r:(addr==268435457) with
         | true =>have b:addr=268435457:=(by simpa using r);have l:(size==1)=false:=(by simpa using g b);exact a0p
         | false =>
           cases s:(addr==268435461) with
           | true =>have b:addr=268435461:=(by simpa using s);have l:(size==1)=false:=(by simpa using j b);exact a0p
           | false =>clear c k1 d f g j;go_enter func289,ntmps289;exact a02
theorem wE (x:Int) (w:World):Calls prog 66 #[.u x,.i 0,.i 1] w λe b=>e=.returned (.u (bits .and .u64 x 1))/\b=w.drew:=by
 go_enter func66,ntmps66;go_wp2_with fail;go_region;all_goals go_wp2_with fail
 all_goals go_ret
 all_goals exact ⟨rfl,rfl⟩
theorem Al (b:Bool) (w:World):CE 286 #[.bool b] w (.u (fd b)):=by
 cases b with
 | false =>go_enter func286,ntmps286;exact a02
 | true =>go_enter func286,ntmps286;exact a02
theorem Am (a:Option Addr) (n c:Nat) (w:World):(binOp .eql 24 (.slice a n c) (.slice none 0 0)).run prog w=.ok (.bool a.isNone) w:=by simp only [binOp];simp [run_equal_slice_nil w 24 5 a n c underlying24]
theorem oe (a:Option Addr) (n c:Nat) (zs:List Int) (w:World) (hz:zs.length=n) (hn:n<=1048576) (f:Sl .u8 w a zs):Calls prog 39 #[.slice a n c] w λe q=>∃ (m:Option Addr) (o:Nat),e=.returned (.slice m n o)/\q.ownsRow w.heap.size 5 1 (.slice m n o) n (zs.map (Value.int .u8))/\Bw w q:=by
 cases a with
 | none =>
   have A:zs=[]:=by
    cases zs with
    | nil=>rfl
    | cons z zs=>obtain ⟨b,C,e,_⟩:=f 0 bc;cases e
   subst A
   simp only [List.length_nil] at hz
   subst hz
   clear f hn
   have d:=Am none 0 c
   simp only [Option.isNone] at d
   go_enter func39,ntmps39
   go_wp2_with fail
   go_ret
   exact ⟨none,0,rfl,⟨rfl,.inl ⟨rfl,rfl⟩⟩,Below.refl _ _⟩
 | some p =>
   have B:=ji w w.heap.size (Nat.le_refl _) (.cells #[] 5 (0,0)) rfl
   have s:Hid (Sl .u8 (w.alloc (.cells #[] 5 (0,0))) (some p) zs):=f.below (bal _ _)
   have l:Hid (zs.length=n/\n<=1048576):=⟨hz,hn⟩
   clear f hz hn
   have d:=Am (some p) n c
   simp only [Option.isNone] at d
   go_enter func39,ntmps39
   go_wp2_with (first
    | (at_builtin;refine gD rfl (.tmp 5) (.tmp 6) rfl w.heap.size _ rfl B (some p) n c zs rfl l.out.1 l.out.2 s.out bc ?_;intro u y D j g;have r:=ak (NZ g rfl);have t:=ak j;clear j g))
   go_ret
   exact ⟨u,y,rfl,t.out,r.out⟩
theorem oQ (t cm:Int) (z:Bool) (O:Option Addr) (b Z:Nat) (C:Option Addr) (d J:Nat) (y:Int) (xs ys:List Int) (w:World) (hx:xs.length=b) (hy:ys.length=d) (F:b<=1048576) (G:d<=1048576) (H:Sl .u8 w O xs) (I:Sl .u8 w C ys):Calls prog 89 #[.agg #[.u t,.u cm,.bool z,.slice O b Z,.slice C d J,.i y]] w λe c=>∃ (f:Option Addr) (j:Nat) (o:Option Addr) (q:Nat),e=.returned (.agg #[.u t,.u cm,.bool z,.slice f b j,.slice o d q,.i y]) /\ bp w.heap.size c.heap.size c (iB f b j xs o d q ys)/\Bw w c:=by have L:Hid (∀ c,Bw w c->Calls prog 39 #[.slice O b Z] c λe m=>∃ (B:Option Addr) (D:Nat),e=.returned (.slice B b D)/\m.ownsRow c.heap.size 5 1 (.slice B b D) b (xs.map (Value.int .u8))/\Bw c m):=λc P=>oe _ _ _ xs c hx F (H.below P);have M:Hid (∀ c,Bw w c->Calls prog 39 #[.slice C d J] c λe m=>∃ (B:Option Addr) (D:Nat),e=.returned (.slice B d D)/\m.ownsRow c.heap.size 5 1 (.slice B d D) d (ys.map (Value.int .u8))/\Bw c m):=λc P=>oe _ _ _ ys c hy G (I.below P);have E:∀ Q R,Bw w ((w.alloc Q).alloc R):=λQ R=>((Below.refl _ _).alloc (Nat.le_refl _) Q).alloc bc R;clear H I hx hy F G;go_enter func89,ntmps89;go_wp2_with fail;refine (L.out _ (E _ _)).mono ?_;rintro e T ⟨f,j,rfl,s,r⟩;obtain ⟨K,r1⟩:=sT r;have X:=ak K;have R1:=ak r1;have B1:=ak (aa (E _ _) r);have U:=r.size;simp only [World.size_alloc] at U s;have Z1:=ak U;have A1:=ak ((bp.nil (w.heap.size+1+1) (w.heap.size+1+1) T).snoc (aB f b j xs) _ T.heap.size s (Nat.le_refl _) (Nat.le_refl _) (Nat.le_refl _) al);obtain ⟨p0,p1,p2,p3,p4,p5⟩:=cH K;have f3:=gO K 3;have A:(T.setCell ⟨w.heap.size,3,none⟩ (.slice f b j)).heap[w.heap.size]?=some (.cells #[.u t,.u cm,.bool z,.slice f b j,.slice C d J,.i y] 30 (0,0)):=bo X.out 3 (.slice f b j);have S:=(cH A).2.2.2.2.1;have W:=ak (B1.out.setCell (p:=⟨w.heap.size,3,none⟩) (Nat.le_refl _) (.slice f b j));clear K r1 r U s A;go_wp2_with fail;refine (M.out _ W.out).mono ?_;rintro e w2 ⟨o,q,rfl,u,l⟩;have V:=l.size;rw [aY] at V u;have Y:Hid (w2.heap[w.heap.size]?=some (.cells #[.u t,.u cm,.bool z,.slice f b j,.slice C d J,.i y] 30 (0,0))):=an l (bo X.out 3 (.slice f b j));have N:=ak (an l (eg R1.out ⟨w.heap.size,3,none⟩ (.slice f b j) a9));have B2:=ak (aa W.out l);have A2:=ak (((A1.out.set ⟨w.heap.size,3,none⟩ (.slice f b j) (.inl a9)).below l).snoc (aB o d q ys) _ w2.heap.size u (Nat.le_refl _) (by have:=Z1.out;omega) (Nat.le_refl _) V);clear p0 p1 p2 p3 p4 p5 f3 S;obtain ⟨p0,p1,p2,p3,p4,p5⟩:=cH Y.out;have f4:=gO Y.out 4;obtain ⟨s0,s1,s2,s3,s4,s5⟩:=cH N.out;obtain ⟨y0,y1,y2,y3,y4,y5⟩:=vI N.out;clear u l V;go_wp2_with fail;have T1:=eg N.out ⟨w.heap.size,4,none⟩ (.slice o d q) a9;have A3:=(A2.out.set ⟨w.heap.size,4,none⟩ (.slice o d q) (.inl a9)).put6 (w.heap.size+1) (.inl al) (.u t) (.u cm) (.bool z) (.slice f b j) (.slice o d q) (.i y);have B3:=jh (B2.out.setCell (p:=⟨w.heap.size,4,none⟩) (Nat.le_refl _) (.slice o d q)) (g:=w.heap.size+1) al (.u t) (.u cm) (.bool z) (.slice f b j) (.slice o d q) (.i y);exact bodyPost_ret (results_cell_row results89 _ _ _ _ _ _ _ rfl (lL T1 _ _ _ _ _ _) underlying30 rfl bu) rfl ⟨f,j,o,q,rfl,A3.low al ib,B3⟩
theorem Ot (t cm:Int) (b:Bool) (g:Option Addr) (r l:Nat) (j:Option Addr) (s m:Nat) (q:Int) (w:World):CB 291 #[.agg #[.u t,.u cm,.bool b,.slice g r l,.slice j s m,.i q],.u 33554432] w (.u (fd b)):=by have p:∀ o,Bw w (w.alloc o):=λo=>(Below.refl _ _).alloc (Nat.le_refl _) o;have f:Hid (∀ w,CE 286 #[.bool b] w (.u (fd b))):=Al b;generalize fd b=v at *;go_enter func291,ntmps291;go_wp2_with fail;refine (f.out _).mono ?_;rintro e u ⟨rfl,c⟩;subst c;go_wp2_with fail;go_ret;exact ⟨rfl,p _⟩
theorem Ou (t cm:Int) (p:Bool) (b:Option Addr) (l d:Nat) (c:Option Addr) (m f:Nat) (j:Int) (w:World):CB 291 #[.agg #[.u t,.u cm,.bool p,.slice b l d,.slice c m f,.i j],.u 33570816] w (.u cm):=by have g:∀ o,Bw w (w.alloc o):=λo=>(Below.refl _ _).alloc (Nat.le_refl _) o;go_enter func291,ntmps291;go_wp2_with fail;go_ret;exact ⟨rfl,g _⟩
theorem Ow (t cm:Int) (p:Bool) (b:Option Addr) (l d:Nat) (c:Option Addr) (m f:Nat) (j:Int) (w:World):CB 291 #[.agg #[.u t,.u cm,.bool p,.slice b l d,.slice c m f,.i j],.u 33603576] w (.u t):=by have g:∀ o,Bw w (w.alloc o):=λo=>(Below.refl _ _).alloc (Nat.le_refl _) o;go_enter func291,ntmps291;go_wp2_with fail;go_ret;exact ⟨rfl,g _⟩
theorem Ox (t cm:Int) (p:Bool) (c:Option Addr) (l f:Nat) (d:Option Addr) (m g:Nat) (b:Int) (w:World):CB 291 #[.agg #[.u t,.u cm,.bool p,.slice c l f,.slice d m g,.i b],.u 268435457] w (.u (Uz.wrap b)):=by have j:∀ o,Bw w (w.alloc o):=λo=>(Below.refl _ _).alloc (Nat.le_refl _) o;go_enter func291,ntmps291;go_wp2_with fail;go_ret;exact ⟨rfl,j _⟩
theorem Oy (t cm:Int) (q:Bool) (f:Option Addr) (b j:Nat) (g:Option Addr) (p l:Nat) (m:Int) (w:World):CB 291 #[.agg #[.u t,.u cm,.bool q,.slice f b j,.slice g p l,.i m],.u 268435461] w (.u (Uz.wrap (32+fd (decide (0<b))))):=by
 have d:∀ o,Bw w (w.alloc o):=λo=>(Below.refl _ _).alloc (Nat.le_refl _) o;rcases Nat.eq_zero_or_pos b with c | c;·subst c;go_enter func291,ntmps291;go_wp2_with fail;go_ret;exact ⟨rfl,d _⟩
 ·have F:Hid (Uz.wrap (32+fd (decide (0<b)))=33):=(by show _=_;rw [decide_eq_true c];rfl);generalize Uz.wrap (32+fd (decide (0<b)))=v at *;have s:decide (0<b)=true:=a7;clear c;go_enter func291,ntmps291;go_wp2_with fail;go_ret;exact ⟨a6,d _⟩
theorem El {b c:Nat} {a:Int} (h:kq b c a=true):b<=16/\c<=4096/\0<=a/\a<=1:=by unfold kq at h;simp only [Bool.and_eq_true,decide_eq_true_eq] at h;exact ⟨h.1.1,h.1.2,h.2.1,h.2.2⟩
theorem Jy (v:Int) (a:0<=v) (b:v<=255):Uz.wrap v=v:=by simp [IntKind.wrap,IntKind.signed,IntKind.bits];omega
theorem vi (D:DV) (O:Option Addr) (Q:Nat) (P:Option Addr) (R:Nat) (w:World) (E:D.xs.length<=1048576) (G:D.ys.length<=1048576):CB 110 #[.agg #[.u D.t,.u D.cm,.bool D.so,.slice O D.xs.length Q,.slice P D.ys.length R,.i D.ir]] w (.u (g9 D)):=by
 have c:Hid (∀ w,CB 70 #[.agg #[.u D.t,.u D.cm,.bool D.so,.slice O D.xs.length Q,.slice P D.ys.length R,.i D.ir]] w (.bool (kq D.xs.length D.ys.length D.ir))):=λw=>jy _ _ _ _ _ _ _ _ _ _ w E G;have m:∀ o,Bw w (w.alloc o):=λo=>(Below.refl _ _).alloc (Nat.le_refl _) o;have F:g9 D=if kq D.xs.length D.ys.length D.ir=true then cU D else 0:=rfl
 have d:cU D=Uz.wrap (Uz.wrap (Uz.wrap (8*fd D.so)+Uz.wrap (128*fd (decide (D.cm<=D.t))))+Uz.wrap (2048*fd ((D.ir==1)&&decide (0<D.xs.length)))):=rfl;generalize g9 D=v at *;generalize cU D=u at *;generalize kq D.xs.length D.ys.length D.ir=q at *;cases q with
 | false =>have J:Hid (v=0):=F;clear F d;obtain ⟨t,K,S,M,N,H⟩:=D;dsimp only at c E G ⊢;generalize M.length=I at *;generalize N.length=T at *;go_enter func110,ntmps110;go_wp2_with fail;refine (c.out _).mono ?_;rintro e p ⟨rfl,b⟩;go_wp2_with fail;go_ret;exact ⟨by rw [J.out];rfl,aa (m _) b⟩
 | true =>
   have J:v=u:=F;clear F;obtain ⟨t,K,S,M,N,H⟩:=D;dsimp only at c d E G ⊢;generalize M.length=I at *;generalize N.length=T at *;rw [<- J] at d;clear J E G;cases S with
   | false =>
     cases l:decide (K<=t) with
     | false =>
       cases j:(H==1) with
       | false =>skip;·have g:Hid (v=0):=(by show _=_;rw [d,l,j];rfl);clear d;go_enter func110,ntmps110;go_wp2_with fail;refine (c.out _).mono ?_;rintro e p ⟨rfl,b⟩;obtain ⟨s,y,z,A,B,C⟩:=cH (an b (heap_alloc_new w _));exact a0q
       | true =>
         cases r:decide (0<I) with
         | false =>have g:Hid (v=0):=ih;clear d;go_enter func110,ntmps110;go_wp2_with fail;refine (c.out _).mono ?_;rintro e p ⟨rfl,b⟩;obtain ⟨s,y,z,A,B,C⟩:=cH (an b (heap_alloc_new w _));exact a0q
         | true =>have g:Hid (v=2048):=ih;clear d;go_enter func110,ntmps110;go_wp2_with fail;refine (c.out _).mono ?_;rintro e p ⟨rfl,b⟩;obtain ⟨s,y,z,A,B,C⟩:=cH (an b (heap_alloc_new w _));exact a0q
     | true =>
       cases j:(H==1) with
       | false =>skip;·have g:Hid (v=128):=(by show _=_;rw [d,l,j];rfl);clear d;go_enter func110,ntmps110;go_wp2_with fail;refine (c.out _).mono ?_;rintro e p ⟨rfl,b⟩;obtain ⟨s,y,z,A,B,C⟩:=cH (an b (heap_alloc_new w _));exact a0q
       | true =>
         cases r:decide (0<I) with
         | false =>have g:Hid (v=128):=ih;clear d;go_enter func110,ntmps110;go_wp2_with fail;refine (c.out _).mono ?_;rintro e p ⟨rfl,b⟩;obtain ⟨s,y,z,A,B,C⟩:=cH (an b (heap_alloc_new w _));exact a0q
         | true =>have g:Hid (v=2176):=ih;clear d;go_enter func110,ntmps110;go_wp2_with fail;refine (c.out _).mono ?_;rintro e p ⟨rfl,b⟩;obtain ⟨s,y,z,A,B,C⟩:=cH (an b (heap_alloc_new w _));exact a0q
   | true =>
     cases l:decide (K<=t) with
     | false =>
       cases j:(H==1) with
       | false =>skip;·have g:Hid (v=8):=(by show _=_;rw [d,l,j];rfl);clear d;go_enter func110,ntmps110;go_wp2_with fail;refine (c.out _).mono ?_;rintro e p ⟨rfl,b⟩;obtain ⟨s,y,z,A,B,C⟩:=cH (an b (heap_alloc_new w _));exact a0q
       | true =>
         cases r:decide (0<I) with
         | false =>have g:Hid (v=8):=ih;clear d;go_enter func110,ntmps110;go_wp2_with fail;refine (c.out _).mono ?_;rintro e p ⟨rfl,b⟩;obtain ⟨s,y,z,A,B,C⟩:=cH (an b (heap_alloc_new w _));exact a0q
         | true =>have g:Hid (v=2056):=ih;clear d;go_enter func110,ntmps110;go_wp2_with fail;refine (c.out _).mono ?_;rintro e p ⟨rfl,b⟩;obtain ⟨s,y,z,A,B,C⟩:=cH (an b (heap_alloc_new w _));exact a0q
     | true =>
       cases j:(H==1) with
       | false =>skip;·have g:Hid (v=136):=(by show _=_;rw [d,l,j];rfl);clear d;go_enter func110,ntmps110;go_wp2_with fail;refine (c.out _).mono ?_;rintro e p ⟨rfl,b⟩;obtain ⟨s,y,z,A,B,C⟩:=cH (an b (heap_alloc_new w _));exact a0q
       | true =>
         cases r:decide (0<I) with
         | false =>have g:Hid (v=136):=ih;clear d;go_enter func110,ntmps110;go_wp2_with fail;refine (c.out _).mono ?_;rintro e p ⟨rfl,b⟩;obtain ⟨s,y,z,A,B,C⟩:=cH (an b (heap_alloc_new w _));exact a0q
         | true =>have g:Hid (v=2184):=ih;clear d;go_enter func110,ntmps110;go_wp2_with fail;refine (c.out _).mono ?_;rintro e p ⟨rfl,b⟩;obtain ⟨s,y,z,A,B,C⟩:=cH (an b (heap_alloc_new w _));exact a0q
def qb (w:World):Prop:=∀ j,j<64->w.cell? ⟨0,j,none⟩=some (.int .u8 (Lib.deBruijn64tab.getD j 0))
theorem qb.lt {w:World} (h:qb w):0<w.heap.size:=World.block_lt_of_cell? _ _ (h 0 al)
theorem qb.from {w w':World} {n:Nat} (h:qb w) (hb:Below n w w') (hn:0<n):qb w':=λj a=>(hb.cell (p:=⟨0,j,none⟩) hn).trans (h j a)
theorem qb.below {w w':World} (h:qb w) (hb:Bw w w'):qb w':=h.from hb h.lt
theorem Oz (x a:Nat) (hx:x<18446744073709551616) (d:x≠0) (b:x &&& (18446744073709551616-x)=a):Uz.wrap (bits BinOp.and IntKind.u64 (x:Int) (Uz.wrap (-(x:Int)))*285870213051353865)/288230376151711744=((a*285870213051353865%18446744073709551616/288230376151711744:Nat):Int):=by
 have c:Uz.wrap (-(x:Int))=((18446744073709551616-x:Nat):Int):=by rw [IntKind.wrap_u64];omega
 rw [c,bits_and_u64_nat x _ hx al,b,IntKind.wrap_u64];omega
theorem L4 (x k b:Nat) (w:World) (d:((x:Int)==0)=false) (key:Uz.wrap (bits BinOp.and IntKind.u64 (x:Int) (Uz.wrap (-(x:Int)))*285870213051353865)/288230376151711744=(b:Int)) (g:b<64) (hk:k<64) (c:w.cell? ⟨0,b,none⟩=some (.int .u8 k)):CE 223 #[.u x] w (.i k):=by go_enter func223,ntmps223;go_wp2_with (simp only [key]);go_ret;exact a0h
theorem L7 (w:World):CE 223 #[.u 0] w (.i 64):=by go_enter func223,ntmps223;exact a00
theorem OA (x:Nat) (hx:x<18446744073709551616) (w:World) (h:qb w):CE 223 #[.u x] w (.i (Lib.ctz 64 x)):=by
 by_cases b:x=0;·subst b;exact L7 w
 ·obtain ⟨c,g⟩:=Lib.lowest_bit 64 x b hx;obtain ⟨f,d⟩:=Lib.deBruijn64_at _ g;have a:=h _ f;rw [d] at a;exact L4 x _ _ w a7 (Oz x _ hx b c) f g a
theorem L8 (D:DV) (k:Nat):(jc D k).2.1.xs.length<=D.xs.length/\(jc D k).2.1.ys.length<=D.ys.length:=by
 unfold jc;split;all_goals first
  | exact ⟨Nat.le_refl _,Nat.le_refl _⟩
  | (refine ⟨?_,Nat.le_refl _⟩;dsimp only;rw [List.length_drop];omega)
  | exact ⟨Nat.zero_le _,Nat.zero_le _⟩
theorem Em (D:DV) (x:Int) (a:D.xs.length<=1048576) (d:D.ys.length<=4096):∀ k:Nat,(fy D x k).1.xs.length<=1048576/\(fy D x k).1.ys.length<=1048576:=by
 intro k;have b:D.ys.length<=1048576:=al
 match k with
 | 0=>simp only [fy];exact ⟨a,b⟩
 | 1=>simp only [fy];exact ⟨a,b⟩
 | 2=>simp only [fy];exact ⟨a,b⟩
 | 3 =>
   simp only [fy];refine ⟨a,?_⟩;by_cases c:D.ys.length<4096;·rw [if_pos c,List.length_append,List.length_singleton];omega
   ·rw [if_neg c];exact b
 | 4=>simp only [fy];exact ⟨a,b⟩
 | 5=>simp only [fy];exact ⟨a,b⟩
 | k+6=>simp only [fy,zeroD];exact ⟨Nat.zero_le _,Nat.zero_le _⟩
inductive MF where | second | sum | xor | and | or | smin | smax | umin | umax
deriving DecidableEq
def MF.v:MF->Int->Int->Int
 | .second,a,b=>b
 | .sum,a,b=>Uz.wrap (a+b)
 | .xor,a,b=>bits .xor .u64 a b
 | .and,a,b=>bits .and .u64 a b
 | .or,a,b=>bits .or .u64 a b
 | .smin,a,b=>if wrap64 b<wrap64 a then b else a
 | .smax,a,b=>if wrap64 a<wrap64 b then b else a
 | .umin,a,b=>if b<a then b else a
 | .umax,a,b=>if a<b then b else a
def L9:List MF:=[.second,.sum,.xor,.and,.or,.smin,.smax,.umin,.umax]
def lE (k:Nat):MF:=L9.getD k .second
def qC (op:Int):Bool:=decide (65<=op/\op<=73)||decide (76<=op/\op<=84)
def iu (op a b:Int):Int :=
 if 76<=op/\op<=84 then (lE (op-76).toNat).v a b
 else if 65<=op/\op<=73 then (lE (op-65).toNat).v (aq 32 a) (aq 32 b)%4294967296 else 0
theorem jJ {a:Int} (b:0<=a) (c:a<18446744073709551616):Uz.wrap (wrap64 a)=a:=by rw [IntKind.wrap_u64];unfold wrap64;omega
theorem C3 {a b:Int} (c:0<=a) (d:a<18446744073709551616) (e:0<=b) (f:b<18446744073709551616) (h:wrap64 a=wrap64 b):a=b:=by unfold wrap64 at h;omega
theorem uf {u:Int} (a:0<=u) (b:u<18446744073709551616):aq 64 u=u:=by
 have e:(2:Int)^(64-64)=1:=a5
 unfold aq;rw [e,IntKind.wrap_u64,IntKind.wrap_u64];unfold wrap64;omega
theorem ug {u:Int} (a:0<=u) (b:u<18446744073709551616):bits .and .u64 u 18446744073709551615=u:=by obtain ⟨n,rfl⟩:=Int.eq_ofNat_of_zero_le a;have h:=u64_and_nat n 18446744073709551615 al al;have e:n &&& 18446744073709551615=n%18446744073709551616:=Nat.and_two_pow_sub_one_eq_mod n 64;rw [e] at h;refine Eq.trans h ?_;omega
theorem eM (x:Int):aq 32 x%4294967296=x%4294967296:=by rw [kU];split<;>omega
theorem nS (x:Int):aq 32 (x%4294967296)=aq 32 x:=jG al
theorem Ma {a b:Int} (c:0<=a) (k:a<18446744073709551616) (d:0<=b) (l:b<18446744073709551616):bits .xor .u64 a b%4294967296=bits .xor .u64 (a%4294967296) (b%4294967296):=by
 obtain ⟨n,rfl⟩:=Int.eq_ofNat_of_zero_le c;obtain ⟨m,rfl⟩:=Int.eq_ofNat_of_zero_le d;have h:=u64_xor_nat n m al al;have j:=u64_xor_nat (n%4294967296) (m%4294967296) al al;have e:=@Nat.xor_mod_two_pow n m 32;have f:((n:Int)%4294967296)=((n%4294967296:Nat):Int):=al
 have g:((m:Int)%4294967296)=((m%4294967296:Nat):Int):=al
 rw [h,f,g,j];have i:(n ^^^ m)%4294967296=n%4294967296 ^^^ m%4294967296:=e;rw [<- i];omega
theorem Mb {a b:Int} (c:0<=a) (k:a<18446744073709551616) (d:0<=b) (l:b<18446744073709551616):bits .and .u64 a b%4294967296=bits .and .u64 (a%4294967296) (b%4294967296):=by
 obtain ⟨n,rfl⟩:=Int.eq_ofNat_of_zero_le c;obtain ⟨m,rfl⟩:=Int.eq_ofNat_of_zero_le d;have h:=u64_and_nat n m al al;have j:=u64_and_nat (n%4294967296) (m%4294967296) al al;have e:=@Nat.and_mod_two_pow n m 32;have f:((n:Int)%4294967296)=((n%4294967296:Nat):Int):=al
 have g:((m:Int)%4294967296)=((m%4294967296:Nat):Int):=al
 rw [h,f,g,j];have i:(n &&& m)%4294967296=n%4294967296 &&& m%4294967296:=e;rw [<- i];omega
theorem OB {a b:Int} (c:0<=a) (k:a<18446744073709551616) (d:0<=b) (l:b<18446744073709551616):bits .or .u64 a b%4294967296=bits .or .u64 (a%4294967296) (b%4294967296):=by
 obtain ⟨n,rfl⟩:=Int.eq_ofNat_of_zero_le c;obtain ⟨m,rfl⟩:=Int.eq_ofNat_of_zero_le d;have h:=u64_or_nat n m al al;have j:=u64_or_nat (n%4294967296) (m%4294967296) al al;have e:=@Nat.or_mod_two_pow n m 32;have f:((n:Int)%4294967296)=((n%4294967296:Nat):Int):=al
 have g:((m:Int)%4294967296)=((m%4294967296:Nat):Int):=al
 rw [h,f,g,j];have i:(n ||| m)%4294967296=n%4294967296 ||| m%4294967296:=e
 rw [<- i];omega
theorem uh (a b:Int):aq 32 a<aq 32 b↔a%4294967296<b%4294967296:=by rw [kU,kU];split<;>split<;>omega
theorem An {k:Nat} (hk:k<9) (a b:Int):iu ((k:Int)+76) a b=(lE k).v a b:=by
 have e:((k:Int)+76-76).toNat=k:=al
 simp only [iu,e];rw [if_pos al]
theorem En {k:Nat} (hk:k<9) (a b:Int):iu ((k:Int)+65) a b=(lE k).v (aq 32 a) (aq 32 b)%4294967296:=by
 have e:((k:Int)+65-65).toNat=k:=al
 simp only [iu,e];rw [if_neg al,if_pos al]
theorem C4 (a b:Int):MF.second.v (aq 32 a) (aq 32 b)%4294967296=b%4294967296:=eM b
theorem Mc (a b:Int):MF.sum.v (aq 32 a) (aq 32 b)%4294967296=Uz.wrap (a%4294967296+b%4294967296)%4294967296:=by have c:=eM a;have d:=eM b;simp only [MF.v,jm];omega
theorem Jz (a b:Int):MF.xor.v (aq 32 a) (aq 32 b)%4294967296=bits .xor .u64 (a%4294967296) (b%4294967296):=by have h:=Ma (aS a).1 (aS a).2 (aS b).1 (aS b).2;rw [eM,eM] at h;exact h
theorem JA (a b:Int):MF.and.v (aq 32 a) (aq 32 b)%4294967296=bits .and .u64 (a%4294967296) (b%4294967296):=by have h:=Mb (aS a).1 (aS a).2 (aS b).1 (aS b).2;rw [eM,eM] at h;exact h
theorem Md (a b:Int):MF.or.v (aq 32 a) (aq 32 b)%4294967296=bits .or .u64 (a%4294967296) (b%4294967296):=by have h:=OB (aS a).1 (aS a).2 (aS b).1 (aS b).2;rw [eM,eM] at h;exact h
theorem pR (a b:Int) (c:Prop) [Decidable c]:(if c then aq 32 b else aq 32 a)%4294967296=if c then b%4294967296 else a%4294967296:=by split<;>exact eM _
theorem MF.pos (f:MF) {a b:Int} (d:0<=a) (e:a<18446744073709551616) (c:0<=b) (g:b<18446744073709551616):0<=f.v a b:=by
 cases f with
 | second=>exact c
 | sum=>simp only [MF.v];rw [IntKind.wrap_u64];omega
 | xor =>obtain ⟨n,rfl⟩:=Int.eq_ofNat_of_zero_le d;obtain ⟨m,rfl⟩:=Int.eq_ofNat_of_zero_le c;simp only [MF.v];rw [u64_xor_nat n m al al];omega
 | and =>obtain ⟨n,rfl⟩:=Int.eq_ofNat_of_zero_le d;obtain ⟨m,rfl⟩:=Int.eq_ofNat_of_zero_le c;simp only [MF.v];rw [u64_and_nat n m al al];omega
 | or =>obtain ⟨n,rfl⟩:=Int.eq_ofNat_of_zero_le d;obtain ⟨m,rfl⟩:=Int.eq_ofNat_of_zero_le c;simp only [MF.v];rw [u64_or_nat n m al al];omega
 | smin=>simp only [MF.v];split<;>assumption
 | smax=>simp only [MF.v];split<;>assumption
 | umin=>simp only [MF.v];split<;>assumption
 | umax=>simp only [MF.v];split<;>assumption
theorem Ao {op:Int} (h:qC op=false) (a b:Int):iu op a b=0:=by
 have c:¬ (65<=op/\op<=73)/\¬ (76<=op/\op<=84):=by simpa [qC] using h
 simp only [iu];rw [if_neg c.2,if_neg c.1]
theorem wG {op:Int} (h:qC op=true):∃ k:Nat,k<9/\(op=(k:Int)+76\/op=(k:Int)+65):=by
 have a:(65<=op/\op<=73)\/(76<=op/\op<=84):=by simpa [qC] using h
 rcases a with a|a;·exact ⟨(op-65).toNat,al,Or.inr al⟩
 ·exact ⟨(op-76).toNat,al,Or.inl al⟩
/- The nine,as the model picks: of words,and of low halves. -/
theorem Eo {a b:Int} (c:0<=a) (d:a<18446744073709551616) (e:0<=b) (f:b<18446744073709551616):MF.smin.v a b=if wrap64 a<wrap64 b then a else b:=by
 simp only [MF.v];split<;>split;·omega
 ·rfl
 ·rfl
 ·exact C3 c d e f al
theorem Ep (a b:Int):MF.umin.v a b=if a<b then a else b:=by simp only [MF.v];split<;>split<;>omega
theorem JB (a b:Int):MF.smin.v (aq 32 a) (aq 32 b)%4294967296=if wrap64 (aq 32 a)<wrap64 (aq 32 b) then a%4294967296 else b%4294967296:=by rw [Eo (aS a).1 (aS a).2 (aS b).1 (aS b).2];exact pR b a _
theorem JC (a b:Int):MF.smax.v (aq 32 a) (aq 32 b)%4294967296=if wrap64 (aq 32 a)<wrap64 (aq 32 b) then b%4294967296 else a%4294967296:=pR a b _
theorem JD (a b:Int):MF.umin.v (aq 32 a) (aq 32 b)%4294967296=if a%4294967296<b%4294967296 then a%4294967296 else b%4294967296:=by rw [Ep,pR b a];simp only [uh]
theorem JE (a b:Int):MF.umax.v (aq 32 a) (aq 32 b)%4294967296=if a%4294967296<b%4294967296 then b%4294967296 else a%4294967296:=by rw [show MF.umax.v (aq 32 a) (aq 32 b)=if aq 32 a<aq 32 b then aq 32 b else aq 32 a from rfl,pR a b];simp only [uh]
end Go.Proofs.YtjifdmoehfbihaaGreatDoor
