/- Own lemmas. -/
import Derived.Test.YtfagphfjfhpmjaaGreatDoorAut
import Derived.Test.YtfagphfjfhpmjaaGreatDoorK10
set_option maxRecDepth 100000
set_option maxHeartbeats 6400000
namespace Go.Proofs.YtfagphfjfhpmjaaGreatDoor
open Go.RowKit Tryz
open IntKind renaming u64->Uz
set_option linter.unusedVariables false
variable {l:List Int} {x:Nat} {n:World} {m:TypeId} {w:Int} (k:List Int) (p:Option Addr) (e y:Nat) (a:List Int) (c v s t b:Int) (f:World) (g M:Nat)
structure Vw where
 at_:Int
 num:Int
 rd:Int
 wr:Int
 ok:Bool
def Vw.cells (v:Vw):Array Value:=#[.i v.num,.u v.rd,.u v.wr]
def dj (n m:Int):Nat->Nat->Vw
 | 0,_=>⟨-1,0,0,0,false⟩
 | f+1,k=>if ((ge k).1==n)=true then ⟨k,n,18446744073709551615,18446744073709551615,true⟩
   else if ((ge k).2.sees&&(nS (ge k).2==n))=true then ⟨k,nS (ge k).2,vQ m (ge k).2,vS m (ge k).2,true⟩ else dj n m f (k+1)
theorem Jr (hk:g<22) (r:Int × CK) (hr:r=ge g) (h:(r.1==c)=true):dj c v (22-g) g=⟨g,c,18446744073709551615,18446744073709551615,true⟩:=by subst hr;rw [show 22-g=(22-(g+1))+1 from ab,dj,if_pos h]
theorem ET (hk:g<22) (r:Int × CK) (hr:r=ge g) (h:(r.1==c)=false) (a:r.2.sees=true) (b:(nS r.2==c)=true):dj c v (22-g) g=⟨g,nS r.2,vQ v r.2,vS v r.2,true⟩:=by subst hr;rw [show 22-g=(22-(g+1))+1 from ab,dj,if_neg (by rw [h];decide),a,b];rfl
theorem vU (hk:g<22) (r:Int × CK) (hr:r=ge g) (h:(r.1==c)=false) (a:(r.2.sees&&(nS r.2==c))=false):dj c v (22-g) g=dj c v (22-(g+1)) (g+1):=by subst hr;rw [show 22-g=(22-(g+1))+1 from ab,dj,if_neg (by rw [h];decide),a,if_neg bc]
theorem EU (k:CK) (hk:k.sees=true) (w:World):(method 453 k.ty k.val "loop.example/g00134/impl.view").run prog w=.ok (k.viewF,k.val) w:=by cases k<;>first | (cases hk;done) | kernel_rfl
theorem Cf (k:CK) (hk:k.sees=true):(prog.funcs[k.viewF]?).map (λa=>(a.name == "runtime.NumGoroutine",a.body.isSome))=some (false,true):=by cases k<;>first | (cases hk;done) | kernel_rfl
theorem LL (k:CK) (hk:k.sees=true) (a:TypeId) (w:World):(Instr.typeAssert (.iface k.ty k.val) a 319 true).run prog w=.ok (.tuple #[.iface k.ty k.val,.bool true]) w:=by cases k<;>first | (cases hk;done) | exact run_typeAssert_hasB underlying319 ba _ a w
theorem EV (k:CK) (hk:k.sees=false) (a:TypeId) (w:World):(Instr.typeAssert (.iface k.ty k.val) a 319 true).run prog w=.ok (.tuple #[.nilIface,.bool false]) w:=by cases k<;>first | (cases hk;done) | exact run_typeAssert_lacksB underlying319 ba ba _ a w
theorem oK {P:Program} {fn:Func} {s p u:Tmp} {ty:TypeId} (h:fn.results=#[.tmp s,.cell p ty,.tmp u]) (tmps:Array Value) (w:World) (g:Nat) (t:TypeId) (cs:Array Value) (e:Nat × Nat) (d:TypeDesc) (k:tmps.getD p undef=.p g 0) (i:w.heap[g]?=some (.cells cs t e)) (l:P.underlying ty=some d) (hd:(match d with | .struct _ | .array _ _=>true | _=>false)=true) (j:(P.info? ty).map (·.size)=some cs.size):(results fn tmps).run P w=.ok (.tuple #[tmps.getD s undef,.agg cs,tmps.getD u undef]) w:=by
 have f:(results fn tmps).run P w=((asAddr (tmps.getD p undef)).run P w).andThen λa b=>((loadVar ty a).run P b).andThen λv c=>.ok (.tuple #[tmps.getD s undef,v,tmps.getD u undef]) c:=by simp only [results,h];simp [Sem.run_bind,Result.andThen]
 rw [f,k];simp [asAddr,run_loadVar_row w g t ty cs e d i l hd j]
theorem nD {cs:Array Value} {a:Nat × Nat} (h:n.heap[x]?=some (.cells cs m a)) (i:Nat) (v:Value): (n.setCell ⟨x,i,none⟩ v).heap[x]?=some (.cells (cs.setIfInBounds i v) m a):=by simp [World.setCell,Array.getElem?_modify,h]
theorem qX:(prog.info? 308).map (·.size)=some 3:=by kernel_rfl
theorem LO:(#[Value.int .i64 c,.u v,.u s]:Array Value).all (·.oneCell')=true:=by simp [Value.oneCell']
theorem vV: CB 267 #[.i c,.u v] f (.tuple #[.i (dj c v 22 0).at_,.agg (dj c v 22 0).cells,.bool (dj c v 22 0).ok]):=by
 obtain ⟨V,U⟩:∃ V,V=dj c v 22 0:=⟨_,rfl⟩;rw [<- U];obtain ⟨p,l⟩:∃ p,p=f.alloc (.cells #[.i 0,.u 0,.u 0] 308):=⟨_,rfl⟩;have HW0:Hid (p=f.alloc (.cells #[.i 0,.u 0,.u 0] 308)):=l;have W:Hid (dj c v (22-0) 0=V):=U.symm;have J:p.heap[f.heap.size]?=some (.cells #[.i 0,.u 0,.u 0] 308 (0,0)):=by rw [l];exact heap_alloc_new _ _
 have B:Hid (p.heap[f.heap.size]?=some (.cells #[.i 0,.u 0,.u 0] 308 (0,0))):=J;have n:f.heap.size<p.heap.size:=by rw [l];simp
 have t:Hid (Bw f p):=by show Below _ _ _;rw [l];exact bal _ _
 clear U J;go_enter func267,ntmps267;go_wp2_with fail;rw [<- l];clear l;refine (pz _).mono ?_;rintro e w1 ⟨T,rfl,Q,hb⟩;go_wp2_with fail;go_loopw [13] (λi wr=>∃ k:Nat,k<=22/\i=.i k/\Hid (dj c v (22-k) k=V)/\Bw p wr)
  (λi _=>22-(intOf i).toNat)
 case atStart=>exact ⟨0,ab,rfl,W,hb⟩
 case round =>
  obtain ⟨k,hk,rfl,I,b⟩:=hrel;by_cases j:k<22
  ·obtain ⟨r,hr⟩:∃ r,r=ge k:=⟨_,rfl⟩;have HR:Hid (r=ge k):=hr;clear hr;have dk:decide ((k:Int)<22)=true:=bv;have g:wr.heap[f.heap.size]?=some (.cells #[.i 0,.u 0,.u 0] 308 (0,0)):=(by rw [b.block _ n];exact B.out);cases N:(r.1==c) with
   | true =>have F:Hid (V=⟨k,c,18446744073709551615,18446744073709551615,true⟩):=I.out.symm.trans (Jr c v k j r HR.out N);have y:∀ o,(wr.alloc o).heap[f.heap.size]?=some (.cells #[.i 0,.u 0,.u 0] 308 (0,0)):=(by intro o;rw [((Below.refl wr.heap.size wr).alloc (Nat.le_refl _) o).block _ (Nat.lt_of_lt_of_le n b.size)];exact g);have q:Hid (∀ o,(wr.alloc o).heap[f.heap.size]?=some (.cells #[.i 0,.u 0,.u 0] 308 (0,0))):=y;clear g y;go_wp2_with (first | refine gV Q .i64 k j r HR rfl (.tmp 12) (.tmp 13) rfl rfl rfl ?_ | (refine wpList_store_rowTo rfl 308 (.tmp 5) (.tmp 23) rfl rfl f.heap.size #[.i c,.u 18446744073709551615,.u 18446744073709551615] rfl rfl 308 _ (q.out _) qX rfl (LO _ _ _) ?_));refine bodyPost_ret (oK results267 _ _ f.heap.size _ _ _ _ rfl (setRow_heap _ _ _ _ _ _ (q.out _)) underlying308 rfl qX) rfl ⟨bh,?_⟩;exact aF (Below.alloc (aa t.out b) (aa t.out b).size _) (Nat.le_refl _) _
   | false =>
     cases u:r.2.sees with
     | false =>
       have F:Hid (dj c v (22-(k+1)) (k+1)=V):=(vU c v k j r HR.out N (by rw [u];rfl)).symm.trans I.out;have hla:=EV r.2 u;clear g;go_wp2_with (first | refine gV Q .i64 k j r HR rfl (.tmp 12) (.tmp 13) rfl rfl rfl ?_);go_roundw;case rel=>exact ⟨k+1,ab,by go_num,F,b.alloc b.size _⟩
       case measure=>simp [intOf];omega
     | true =>
       have X:=LL r.2 u;have mf:=EU r.2 u;have en:=qW (Cf r.2 u);clear g;go_wp2_with (first | refine gV Q .i64 k j r HR rfl (.tmp 12) (.tmp 13) rfl rfl rfl ?_);refine (LK r.2 u v _).mono ?_;rintro e d ⟨rfl,H⟩;have M:Bw p d:=aa (b.alloc b.size _) H;have A:Hid (Bw p d):=M;have C:d.heap[f.heap.size]?=some (.cells #[.i 0,.u 0,.u 0] 308 (0,0)):=(by rw [M.block _ n];exact B.out);have z:f.heap.size<d.heap.size:=Nat.lt_of_lt_of_le n M.size;have w:Hid (d.heap[f.heap.size]?=some (.cells #[.i 0,.u 0,.u 0] 308 (0,0))):=C;have K:∀ o,(d.alloc o).heap[f.heap.size]?=some (.cells #[.i 0,.u 0,.u 0] 308 (0,0)):=(by intro o;rw [((Below.refl d.heap.size d).alloc (Nat.le_refl _) o).block _ z];exact C);have HG3:Hid (∀ o,(d.alloc o).heap[f.heap.size]?=some (.cells #[.i 0,.u 0,.u 0] 308 (0,0))):=K;have vn:Hid (r.1==c)=Hid (r.1==c):=rfl;obtain ⟨G,s⟩:∃ m,nS r.2=m:=⟨_,rfl⟩;obtain ⟨O,D⟩:∃ m,vQ v r.2=m:=⟨_,rfl⟩;obtain ⟨P,E⟩:∃ m,vS v r.2=m:=⟨_,rfl⟩;have R:Hid ((G==c)=false->Hid (dj c v (22-(k+1)) (k+1)=V)):=λh=>(vU c v k j r HR.out N (by rw [u,s,h];rfl)).symm.trans I.out;have S:Hid ((G==c)=true->Hid (V=⟨k,G,O,P,true⟩)):=λh=>I.out.symm.trans (by rw [ET c v k j r HR.out N u (by rw [s];exact h),s,D,E]);rw [s,D,E];clear vn s D E C K M H mf en X;cases d3:(G==c) with
       | false =>
         have F:=R.out d3;clear R S;go_wp2_with fail;go_roundw;case rel=>exact ⟨k+1,ab,by go_num,F,A.out.alloc A.out.size _⟩
         case measure=>simp [intOf];omega
       | true =>
         have F:=S.out d3;clear R S;have c0:d.cell? ⟨f.heap.size,0,none⟩=some (.i 0):=cell_of_row _ _ _ _ _ _ w.out;have c1:d.cell? ⟨f.heap.size,1,none⟩=some (.u 0):=cell_of_row _ _ _ _ _ _ w.out;have c2:d.cell? ⟨f.heap.size,2,none⟩=some (.u 0):=cell_of_row _ _ _ _ _ _ w.out;have f0:d.frozen? ⟨f.heap.size,0,none⟩=false:=frozen_of_row _ _ _ _ _ w.out;have f1:d.frozen? ⟨f.heap.size,1,none⟩=false:=frozen_of_row _ _ _ _ _ w.out;have f2:d.frozen? ⟨f.heap.size,2,none⟩=false:=frozen_of_row _ _ _ _ _ w.out;go_wp2_with fail;go_region;all_goals go_wp2_with fail
         have L:((((d.setCell ⟨f.heap.size,0,none⟩ (.i G)).setCell ⟨f.heap.size,1,none⟩ (.u O)).setCell ⟨f.heap.size,2,none⟩ (.u P)).alloc (.cells #[.i G,.u O,.u P] 308)).drew.heap[f.heap.size]?=some (.cells #[.i G,.u O,.u P] 308 (0,0)):=(by show (World.alloc _ _).heap[f.heap.size]?=_;rw [(bal _ _).block _ (by simpa [World.setCell] using z)];exact nD (nD (nD w.out 0 _) 1 _) 2 _);refine bodyPost_ret (oK results267 _ _ f.heap.size _ _ _ _ rfl L underlying308 rfl qX) rfl ⟨bh,?_⟩;have Z:=aa t.out A.out;refine Below.drew (Below.alloc (((Z.setCell (Nat.le_refl _) _).setCell (Nat.le_refl _) _).setCell (Nat.le_refl _) _) ?_ _);simpa [World.setCell] using Z.size
  ·have Y:k=22:=ab;subst Y;have F:Hid (V=⟨-1,0,0,0,false⟩):=I.out.symm;have g:wr.heap[f.heap.size]?=some (.cells #[.i 0,.u 0,.u 0] 308 (0,0)):=(by rw [b.block _ n];exact B.out);have q:Hid (wr.heap[f.heap.size]?=some (.cells #[.i 0,.u 0,.u 0] 308 (0,0))):=g;clear g;go_wp2_with (first | (refine wpList_store_rowTo rfl 308 (.tmp 5) (.tmp 41) rfl rfl f.heap.size #[.i 0,.u 0,.u 0] rfl rfl 308 _ q.out qX rfl (LO _ _ _) ?_));refine bodyPost_ret (oK results267 _ _ f.heap.size _ _ _ _ rfl (setRow_heap _ _ _ _ _ _ q.out) underlying308 rfl qX) rfl ⟨bh,?_⟩;exact aF (aa t.out b) (Nat.le_refl _) _
def CK.goodB:CK->Bool
 | .addr e=>decide (e<4) | _=>true
theorem Pg:∀ k,k<22->(ge k).2.goodB=true:=by decide
theorem Js (k:CK) (hk:k.holds=true) (f:k.goodB=true) (a:Option Addr) (cap:Nat) (l:List Int) (x:Int) (w:World) (hz:l.length=22) (hs:Sl .u64 w a l) (hl:∀ j,0<=l.getD j 0/\l.getD j 0<18446744073709551616) (c:0<=x) (d:x<18446744073709551616):CB k.staysF #[k.val,.slice a 22 cap,.u x] w (.u (jC (l.getD 16 0) k x)):=by
 cases k with
 | plain b=>cases hk
 | mst=>cases hk
 | mie=>cases hk
 | mip=>exact Jo a cap x w
 | satp=>exact ER a cap _ x c d w
 | cfg=>exact Jp a cap l x w hz hs hl
 | addr e=>exact ES e (by simpa [CK.goodB] using f) a cap l x w hz hs hl
theorem Cg (k:CK) (hk:k.holds=true) (w:World):(method 453 k.ty k.val "loop.example/g00134/impl.stays").run prog w=.ok (k.staysF,k.val) w:=by cases k<;>first | (cases hk;done) | kernel_rfl
theorem Ab (k:CK) (hk:k.holds=true):(prog.funcs[k.staysF]?).map (λa=>(a.name == "runtime.NumGoroutine",a.body.isSome))=some (false,true):=by cases k<;>first | (cases hk;done) | kernel_rfl
theorem Jt (k:CK) (hk:k.holds=true) (a:TypeId) (w:World):(Instr.typeAssert (.iface k.ty k.val) a 323 true).run prog w=.ok (.tuple #[.iface k.ty k.val,.bool true]) w:=by cases k<;>first | (cases hk;done) | exact run_typeAssert_hasB underlying323 ba _ a w
theorem Ch (k:CK) (hk:k.holds=false) (a:TypeId) (w:World):(Instr.typeAssert (.iface k.ty k.val) a 323 true).run prog w=.ok (.tuple #[.nilIface,.bool false]) w:=by cases k<;>first | (cases hk;done) | exact run_typeAssert_lacksB underlying323 ba ba _ a w
def lM (c:Int) (k:CK) (wr x:Int):Int:=if k.holds=true then bits .andNot .u64 wr (jC c k x) else wr
def kR (l:List Int) (k:Nat) (wr x:Int):Int :=
 bits .or .u64 (bits .andNot .u64 (l.getD k 0) (lM (l.getD 16 0) (ge k).2 wr x)) (bits .and .u64 (hZ (ge k).2 x) (lM (l.getD 16 0) (ge k).2 wr x))
theorem vX (k:CK) (x:Int) (c:0<=x) (d:x<18446744073709551616) (w:World) (p:Addr) (u:Value) (b:w.cell? p=some u) :
 Calls prog k.fitF #[k.val,.u x] w λe a=>e=.returned (.u (hZ k x))/\Bw w a/\a.cell? p=some u :=
 (GL k x c d w).mono λe a h=>⟨h.1,h.2,(h.2.cell (World.block_lt_of_cell? _ _ b)).trans b⟩
theorem EW (t:TypeId) (v:Value) (w:World):(Instr.field 148 (.agg #[.i c,.iface t v]) 1).run prog w=.ok (.iface t v) w:=by kernel_rfl
theorem EX (hk:g<22) (wr x:Int) (w:World) (hz:a.length=22) (hs:Sl .u64 w p a) (hl:∀ j,0<=a.getD j 0/\a.getD j 0<18446744073709551616) (D:0<=x) (E:x<18446744073709551616): CB 270 #[.slice p 22 e,.i g,.u wr,.u x] w (.u (kR a g wr x)):=by
 have k:kR a g wr x=bits .or .u64 (bits .andNot .u64 (a.getD g 0) (lM (a.getD 16 0) (ge g).2 wr x)) (bits .and .u64 (hZ (ge g).2 x) (lM (a.getD 16 0) (ge g).2 wr x)):=rfl;have z:=Pg g hk;have I:=hs g ab;have m:Hid (∀ (K:CK),K.holds=true->K.goodB=true->∀ w,Sl .u64 w p a->CB K.staysF #[K.val,.slice p 22 e,.u x] w (.u (jC (a.getD 16 0) K x))):=λK S U w hs=>Js K S U p e a x w hz hs hl D E;have Q:Hid (Sl .u64 w p a):=hs;obtain ⟨r,L⟩:∃ r,r=ge g:=⟨_,rfl⟩;have HR:Hid (r=ge g):=L;rw [<- L] at k z;obtain ⟨b,c,rfl,u,O⟩:=I;generalize a.getD g 0=y at *;have X:(0:Int)<=(g:Int):=ab
 have Y:(g:Int)<22:=ab
 have mf:=yF r.2;have en:=qW (vT r.2);have V:=EW r.1 r.2.ty r.2.val;clear L hz hl hs;cases d:r.2.holds with
 | false =>have q:lM (a.getD 16 0) r.2 wr x=wr:=(by simp [lM,d]);rw [q] at k;have F:Hid (kR a g wr x=bits .or .u64 (bits .andNot .u64 y wr) (bits .and .u64 (hZ r.2 x) wr)):=k;clear k q m;have Z:=Ch r.2 d;go_enter func270,ntmps270;go_wp2_with fail;refine (pz _).mono ?_;rintro l w1 ⟨T,rfl,C,t⟩;have H:w1.cell? ⟨b,c+g,none⟩=some (.u y):=(t.cell (by exact u)).trans O;go_wp2_with (first | refine gV C .i64 g hk r HR rfl (.tmp 12) (.tmp 13) rfl rfl rfl ?_);go_region_held3 (λf=>f.cell? ⟨b,c+g,none⟩=some (.u y)) (go_keep) (first | (refine (vX r.2 x D E _ ⟨b,c+g,none⟩ (.u y) ?_).mono ?_;(first | assumption | (simp [*]));rintro l w2 ⟨rfl,o,J⟩));go_wp2_with fail;go_ret;exact ⟨bh,aa (w1:=w1.drew) t.drew o⟩
 | true =>obtain ⟨A,cap⟩:∃ A,jC (a.getD 16 0) r.2 x=A:=⟨_,rfl⟩;have q:lM (a.getD 16 0) r.2 wr x=bits .andNot .u64 wr A:=(by unfold lM;rw [if_pos d,cap]);rw [q] at k;obtain ⟨B,M⟩:∃ B,bits .andNot .u64 wr A=B:=⟨_,rfl⟩;rw [M] at k;have F:Hid (kR a g wr x=bits .or .u64 (bits .andNot .u64 y B) (bits .and .u64 (hZ r.2 x) B)):=k;have s:Hid (∀ w,Sl .u64 w (some ⟨b,c,none⟩) a->CB r.2.staysF #[r.2.val,.slice (some ⟨b,c,none⟩) 22 e,.u x] w (.u A)):=(by rw [<- cap];exact m.out r.2 d z);clear k q m cap;have W:=Jt r.2 d;have mf2:=Cg r.2 d;have R:=qW (Ab r.2 d);go_enter func270,ntmps270;go_wp2_with fail;refine (pz _).mono ?_;rintro l w1 ⟨T,rfl,C,t⟩;go_wp2_with (first | refine gV C .i64 g hk r HR rfl (.tmp 12) (.tmp 13) rfl rfl rfl ?_);refine (s.out _ (Q.out.below t)).mono ?_;rintro l P ⟨rfl,G⟩;have N:=aa t G;have H:P.cell? ⟨b,c+g,none⟩=some (.u y):=(N.cell (by exact u)).trans O;go_wp2_with fail;go_region_held3 (λf=>f.cell? ⟨b,c+g,none⟩=some (.u y)) (go_keep) (first | (refine (vX r.2 x D E _ ⟨b,c+g,none⟩ (.u y) ?_).mono ?_;(first | assumption | (simp [*]));rintro l w2 ⟨rfl,o,J⟩));go_wp2_with fail;go_ret;exact ⟨bh,aa (w1:=P.drew) N.drew o⟩
theorem vY (p:Int) (w:World):CE 125 #[.i p] w (.bool (bZ p)):=by
 have F:Hid (bZ p=((p==0)||(p==1)||(p==3))):=(rfl:bZ p=_);cases b:(p==0) with
 | true =>rw [b] at F;exact a0c
 | false =>
   cases c:(p==1) with
   | true =>rw [b,c] at F;exact a0c
   | false =>rw [b,c] at F;exact a0c
def nE (n p:Int):Bool:=bZ p&&decide (bits .and .i64 (n/256) 3<=p)
theorem qY:CE 266 #[.i c,.i v] f (.bool (nE c v)):=by
 have d:Hid (∀ f,CE 125 #[.i v] f (.bool (bZ v))):=vY v;have F:Hid (nE c v=(bZ v&&decide (bits .and .i64 (c/256) 3<=v))):=(rfl:nE c v=_);generalize bZ v=q at *;cases q with
 | false =>go_enter func266,ntmps266;go_wp2_with fail;refine (d.out _).mono ?_;rintro e w ⟨rfl,b⟩;exact a06
 | true =>go_enter func266,ntmps266;go_wp2_with fail;refine (d.out _).mono ?_;rintro e w ⟨rfl,b⟩;exact a06
def tF (n:Int):Bool:=(bits .and .i64 (n/1024) 3==3)
theorem Ac:CE 269 #[.i c] f (.bool (tF c)):=by have F:Hid (tF c=(bits .and .i64 (c/1024) 3==3)):=(rfl:tF c=_);go_enter func269,ntmps269;exact a03
def vZ (n:Int):Bool:=(n==769)||(n==3860)
def xH (n:Int):Int:=if n=769 then 9223372036856090881 else 0
theorem qZ (n:Int) (w:World):CE 268 #[.i n] w (.tuple #[.u (xH n),.bool (vZ n)]):=by
 by_cases b:n=769;·subst b;go_enter func268,ntmps268;go_wp2_with fail;go_ret2;exact a08
 ·by_cases c:n=3860;·subst c;go_enter func268,ntmps268;go_wp2_with fail;go_ret2;exact ⟨rfl,rfl⟩
  ·have f:(n==769)=false:=lh;have g:(n==3860)=false:=kc;have F:Hid (xH n=0/\vZ n=false):=⟨by simp [xH,b],by simp [vZ,b,c]⟩;clear b c;go_enter func268,ntmps268;go_wp2_with fail;go_ret2;exact ⟨by rw [F.out.1,F.out.2];rfl,rfl⟩
theorem rf:f.ownsRow g 22 1 (.slice none 0 0) 0 (([]:List Int).map (Value.int .u64)):=⟨rfl,.inl ⟨rfl,rfl⟩⟩
theorem nT:Calls prog 241 #[] f λe o=>e=.returned (.slice (some ⟨f.heap.size,0,none⟩) 22 22) /\ o.ownsRow f.heap.size 22 1 (.slice (some ⟨f.heap.size,0,none⟩) 22 22) 22 ((List.replicate 22 (0:Int)).map (Value.int .u64))/\Bw f o:=by
 obtain ⟨m,p,j,l,d⟩:=info_parts Bh;have w:m.bytes*22<=281474976710656:=by rw [d];omega
 have g:22<=maxLen:=by unfold maxLen;omega
 clear d;go_enter func241,ntmps241;go_wp2_with (at_make;refine wpList_make_full _ rfl (.const (.i 22)) (.const (.i 22)) 23 rfl f.heap.size 22 m (.u 0) 1 underlying23 p j l .i64 .i64 _ _ 22 rfl rfl rfl rfl w g (Nat.le_refl _) ?_;intro q c b);go_ret;refine ⟨rfl,?_,(Below.refl _ _).grown b (Nat.le_refl _) (by intro k h;cases h)⟩;have e:(List.replicate 22 (0:Int)).map (Value.int .u64)=List.replicate 22 (.u 0):=cp
 rw [e,<- toList_madeCells_one];simpa [Value.cells] using c
theorem Ci:∀ f k,k+f<=22->(dj c v f k).ok=true->∃ j:Nat,j<22/\(dj c v f k).at_=(j:Int):=by
 intro f;induction f with
 | zero=>intro k _ h;cases h
 | succ f a =>
   intro k b;unfold dj;split;·intro _;exact ⟨k,ab,rfl⟩
   ·split;·intro _;exact ⟨k,ab,rfl⟩
    ·exact a (k+1) ab
def EY (m:Nat) (l:List Int) (n p:Int):Bool:=jW m l&&nE n p
def si (m:Nat) (l:List Int) (n p:Int):Bool:=EY m l n p&&((dj n (l.getD 2 0) 22 0).ok||vZ n)
def wg (m:Nat) (l:List Int) (n p:Int):Int :=
 if EY m l n p=true then (if (dj n (l.getD 2 0) 22 0).ok=true then bits .and .u64 (l.getD (dj n (l.getD 2 0) 22 0).at_.toNat 0) (dj n (l.getD 2 0) 22 0).rd else xH n) else 0
theorem wh (h:jW x l=true):x=22:=by simp only [jW,Bool.and_eq_true,decide_eq_true_eq] at h;exact h.1
theorem uj (cap:Nat) (l:List Int) (n a:Int) (w:World) (hz:l.length=e) (hs:Sl .u64 w p l) (hl:∀ j,0<=l.getD j 0/\l.getD j 0<18446744073709551616): CB 235 #[.slice p e cap,.i n,.i a] w (.tuple #[.u (wg e l n a),.bool (si e l n a)]):=by
 have q:=λW (J:Bw w W)=>lL p e cap l W hz (hs.below J) hl;have v:=qY n a;refine bC (S:=Bs w []) (args:=[.slice p e cap,.i n,.i a]) [] func235 ?_;unfold wg si EY;generalize nE n a=M at *;cases i:jW e l<;>rw [i] at q;case' true=>cases M
 case true.true =>
  have L:=wh i;subst L;have G:=qZ n;have x:=vV n (l.getD 2 0);have f:=Ci n (l.getD 2 0) 22 0 ab;obtain ⟨b,c,rfl,d,H⟩:=hs 2 ab;generalize dj n (l.getD 2 0) 22 0=V at *;generalize l.getD 2 0=u at *;generalize xH n=Q at *;generalize vZ n=P at *;obtain ⟨X,C,D,E,N⟩:=V;simp only [Vw.cells] at x f;refine ae Bs.eng {ov:=[(24,iL ⟨b,c+2,none⟩ (.u u) underlying22 rfl λW h=>(h.2.cell (by exact d)).trans H)],cv:=[(12,fQ q),(17,mI λW _=>v W),(25,fQ λW _=>x W)]} 60 (Bs.start _ _) λW h=>?_;refine dF 1 (dD (T:=308) (z:=.agg #[.i 0,.u 0,.u 0]) ba W) ?_;refine cq (R:=[]) trivial {} 9 (az (g:=W.heap.size) (t:=308) (ty:=308) (cells:=#[.i C,.u D,.u E]) (heap_alloc_new _ _) ba rfl ba) ?_;refine aH (R1 w W.heap.size #[.i C,.u D,.u E] 308) ?_;cases N;case true =>obtain ⟨k,U,r⟩:=f rfl;subst r;obtain ⟨O,B,m,K,I⟩:=hs k ab;cases m;rw [Int.toNat_natCast];generalize l.getD k 0=y at *;exact eQ (t:=6) (s:=7) R1.eng {ov:=[(37,kF (a:=some ⟨b,c,none⟩) (b:=b) (o:=c) 22 cap .i64 (k:Int) rfl ⟨ab,ab⟩ underlying23 ba),(38,iL ⟨b,c+(k:Int).toNat,none⟩ (.u y) underlying22 rfl λW h=>(h.2.cell (by exact d)).trans I)]} 60 (R1.new h.2) (λA h=>⟨rfl,h.2⟩)
  exact eQ (t:=6) (s:=7) R1.eng {cv:=[(32,jp R1.below λW _=>(G W).mono λm F h=>⟨h.1,by rw [h.2];exact Below.refl _ _⟩)]} 60 (R1.new h.2) (λA h=>⟨rfl,h.2⟩)
 all_goals exact eQ (t:=6) (s:=7) Bs.eng {cv:=[(12,fQ q),(17,mI λW _=>v W)]} 60 (Bs.start _ _) (λA h=>⟨rfl,h.2⟩)
def pA (m:Nat) (l:List Int) (n p:Int):Bool:=EY m l n p&&!tF n&&((dj n (l.getD 2 0) 22 0).ok||vZ n)
def nF (l:List Int) (n x:Int):List Int :=
 if (dj n (l.getD 2 0) 22 0).ok=true then l.set (dj n (l.getD 2 0) 22 0).at_.toNat (kR l (dj n (l.getD 2 0) 22 0).at_.toNat (dj n (l.getD 2 0) 22 0).wr x) else l
def nG (m:Nat) (l:List Int) (n p x:Int):List Int:=if pA m l n p=true then nF l n x else []
theorem GM {g w:Nat} (hb:x<=g) (hz:l.length=w) (hn:w<=maxLen) (h:n.heap[g]?=some (.cells (l.map (Value.int .u64)).toArray m (0,0))):n.ownsRow x m 1 (.slice (some ⟨g,0,none⟩) w w) w (l.map (Value.int .u64)):=
 ⟨t5,.inr ⟨g,w,_,rfl,hb,h,Nat.le_refl _,hn,t5,by subst hz;simp [List.take_of_length_le]⟩⟩
theorem sj (x:Int) (w:World) (hz:a.length=e) (hs:Sl .u64 w p a) (hl:∀ j,0<=a.getD j 0/\a.getD j 0<18446744073709551616) (h0:0<=x) (h1:x<18446744073709551616): Calls prog 236 #[.slice p e y,.i c,.i v,.u x] w λm w'=>∃ (a':Option Addr) (l:Nat),m=.returned (.tuple #[.slice a' (nG e a c v x).length l,.bool (pA e a c v)]) /\ w'.ownsRow w.heap.size 22 1 (.slice a' (nG e a c v x).length l) (nG e a c v x).length ((nG e a c v x).map (Value.int .u64))/\Bw w w':=by
 have J:=λW (H:Bw w W)=>lL p e y a W hz (hs.below H) hl
 have Q:=qY c v
 have U:=Ac c
 refine bC (S:=Bs w []) (args:=[.slice p e y,.i c,.i v,.u x]) [] func236 ?_
 have F:pA e a c v=(jW e a&&nE c v&&!tF c&&((dj c (a.getD 2 0) 22 0).ok||vZ c)):=rfl
 have I:nF a c x=if (dj c (a.getD 2 0) 22 0).ok=true then a.set (dj c (a.getD 2 0) 22 0).at_.toNat (kR a (dj c (a.getD 2 0) 22 0).at_.toNat (dj c (a.getD 2 0) 22 0).wr x) else a:=rfl
 unfold nG
 generalize nE c v=re at *
 generalize tF c=on at *
 generalize pA e a c v=wb at *
 generalize nF a c x=L at *
 cases D:jW e a<;>rw [D] at J F
 case' true=>cases re;case' true=>cases on
 case true.true.false =>
  have hm:=wh D
  subst hm
  have HF:=qZ c
  have Z:=vV c (a.getD 2 0)
  have C:=Ci c (a.getD 2 0) 22 0 ab
  obtain ⟨b,r,rfl,N,c2⟩:=hs 2 ab
  generalize dj c (a.getD 2 0) 22 0=V at *
  generalize a.getD 2 0=O at *
  generalize xH c=fv at *
  generalize vZ c=G at *
  obtain ⟨va,A,B,d,E⟩:=V
  simp only [Vw.cells] at Z C F I
  refine ae Bs.eng {ov:=[(33,iL ⟨b,r+2,none⟩ (.u O) underlying22 rfl λW h=>(h.2.cell (by exact N)).trans c2)],cv:=[(17,fQ J),(22,mI λW _=>Q W),(27,mI λW _=>U W),(34,fQ λW _=>Z W)]} 60 (Bs.start _ _) λW h=>?_
  refine dF 1 (dD (T:=308) (z:=.agg #[.i 0,.u 0,.u 0]) ba W) ?_
  refine cq (R:=[]) trivial {} 9 (az (g:=W.heap.size) (t:=308) (ty:=308) (cells:=#[.i A,.u B,.u d]) (heap_alloc_new _ _) ba rfl ba) ?_
  refine aH (R1 w W.heap.size #[.i A,.u B,.u d] 308) ?_
  have hF:∀ X,R1 w W.heap.size #[.i A,.u B,.u d] 308 X->_:=λX _=>(HF X).mono λm w' (h:_/\w'=X)=>(⟨h.1,by rw [h.2];exact Below.refl _ _⟩:_/\Bw X w')
  have ho:wb=(E||G):=F
  subst ho
  obtain rfl|⟨rfl,rfl⟩|⟨rfl,rfl⟩:E=true\/(E=false/\G=true)\/E=false/\G=false:=by cases E<;>cases G<;>simp
  case inr.inr=>exact eQ (t:=8) (s:=9) R1.eng {cv:=[(40,jp R1.below hF)]} 60 (R1.new h.2) (λK h=>⟨none,0,rfl,rf _ _,h.2⟩)
  all_goals
   refine ae R1.eng {cv:=[(40,jp R1.below hF)]} 60 (R1.new h.2) λX f=>?_
   refine dF 1 (s:=do pure (.value (<- Instr.makeSlice 23 (.i 22) (.i 22)))) (v:=.slice (some ⟨X.heap.size,0,none⟩) 22 22) (w':=X.alloc (.cells (Array.replicate 22 (.u 0)) 22)) ba ?_
   have H:=f.2.alloc f.2.size (.cells (Array.replicate 22 (.u 0)) 22)
   refine jh (R:=[]) trivial {} 30 0 (s:=do pure (.value (<- Builtin.copy_ #[23,23] 3 #[.slice (some ⟨X.heap.size,0,none⟩) 22 22,.slice (some ⟨b,r,none⟩) 22 y]))) (v:=goInt (a.map (Value.int .u64)).length) (w':=(X.alloc (.cells (Array.replicate 22 (.u 0)) 22)).setRow X.heap.size (a.map (Value.int .u64)).toArray) ?_ ?_
   ·have hc:=run_copy_row (P:=prog) _ 23 23 3 22 X.heap.size 0 22 22 ⟨b,r,none⟩ 22 y _ _ (a.map (Value.int .u64)) underlying23 ba (heap_alloc_new X (.cells (Array.replicate 22 (.u 0)) 22)) t5 (λj n h=>by
     rw [List.getElem?_map] at h
     obtain ⟨cap,hy,rfl⟩:=Option.map_eq_some_iff.1 h
     obtain ⟨b',o',m,_,l⟩:=hs.below H j (List.getElem?_eq_some_iff.1 hy).1
     cases m
     rw [zp,l,List.getD,hy];rfl) t5 (λn h=>by obtain ⟨cap,_,rfl⟩:=List.mem_map.1 h;rfl)
    simp only [List.take_zero,List.nil_append,Nat.zero_add,List.length_map,hz,Array.toList_replicate,List.drop_replicate,Nat.sub_self,List.replicate_zero,List.append_nil] at hc ⊢
    simp [hc,Result.andThen]
   have h2:R2 w W.heap.size #[.i A,.u B,.u d] 308 X.heap.size (a.map (Value.int .u64)).toArray 22 ((X.alloc (.cells (Array.replicate 22 (.u 0)) 22)).setRow X.heap.size (a.map (Value.int .u64)).toArray):=by
    have hx:=(Array.getElem?_eq_some_iff.1 f.1).1
    exact ⟨⟨(setRow_other _ _ _ _ ab).trans ((Below.heap_alloc X _ _ hx).trans f.1),aR H f.2.size _⟩,setRow_heap _ _ _ _ _ _ (heap_alloc_new _ _)⟩
   refine aH (R2 w W.heap.size #[.i A,.u B,.u d] 308 X.heap.size (a.map (Value.int .u64)).toArray 22) ?_
  case inr.inl =>
   have m:L=a:=I
   rw [m]
   exact eQ (t:=8) (s:=9) (v:=.slice (some ⟨X.heap.size,0,none⟩) 22 22) (u:=.bool true) R2.eng {} 60 h2 (λK h=>⟨_,22,by show _=Ending.returned (.tuple #[.slice _ a.length 22,.bool true]);rw [hz],by show World.ownsRow _ _ _ _ (.slice _ a.length 22) a.length (a.map _);rw [hz];exact GM f.2.size hz bc h.2,h.1.2⟩)
  obtain ⟨k,hk,rfl⟩:=C rfl
  have HB:=λY (h:R2 w W.heap.size #[.i A,.u B,.u d] 308 X.heap.size (a.map (Value.int .u64)).toArray 22 Y)=>EX _ y a k hk d x Y hz (hs.below h.1.2) hl h0 h1
  have m:L=a.set k (kR a k d x):=I
  rw [m]
  generalize kR a k d x=cap at *
  refine ae R2.eng {ov:=[(62,kF (a:=some ⟨X.heap.size,0,none⟩) (b:=X.heap.size) (o:=0) 22 22 .i64 (k:Int) rfl ⟨ab,ab⟩ underlying23 ba)],cv:=[(61,jp R2.below HB)]} 60 h2 λY M=>?_
  refine bM (bJ (i:=0+(k:Int).toNat) (T:=22) (v:=.u cap) M.2 (by simp [hz];omega) ba rfl) ?_
  have hr:=jS (j:=0+(k:Int).toNat) M.2 (.u cap)
  have er:((a.map (Value.int .u64)).toArray.set! (0+(k:Int).toNat) (.u cap))=((a.set k cap).map (Value.int .u64)).toArray:=by simp [List.map_set]
  rw [er] at hr
  refine aH (R1 w X.heap.size ((a.set k cap).map (Value.int .u64)).toArray 22) ?_
  have q:(a.set k cap).length=22:=by rw [List.length_set,hz]
  exact eQ (t:=8) (s:=9) (v:=.slice (some ⟨X.heap.size,0,none⟩) 22 22) (u:=.bool true) R1.eng {} 60 ⟨hr,M.1.2.setCell f.2.size _⟩ (λK h=>⟨_,22,by show _=Ending.returned (.tuple #[.slice _ (a.set k cap).length 22,.bool true]);rw [q],by show World.ownsRow _ _ _ _ (.slice _ (a.set k cap).length 22) (a.set k cap).length ((a.set k cap).map _);rw [q];exact GM f.2.size q bc h.1,h.2⟩)
 all_goals
  obtain rfl:wb=false:=F
  exact eQ (t:=8) (s:=9) Bs.eng {cv:=[(17,fQ J),(22,mI λW _=>Q W),(27,mI λW _=>U W)]} 60 (Bs.start _ _) (λK h=>⟨none,0,rfl,rf _ _,h.2⟩)
theorem Ua:∀ i,i<64->∀ (p q:Bool) (o:Bool),(((if i=0 then p else if i=1 then q else o)&&bt 924074 (i+11))&&bt 3 i)=bt ((if p=true then 1 else 0)+(if q=true then 2 else 0)) i:=by decide +kernel
theorem Q7:∀ i,i<64->∀ (p q:Bool) (o:Bool),((if i=11 then p else if i=12 then q else o)&&bt 6144 i)=bt ((if p=true then 2048 else 0)+(if q=true then 4096 else 0)) i:=by decide +kernel
theorem LP (h:U c):hZ .mst c=mst c:=by
 have e:bits .and .u64 (bits .and .u64 c 924074/2048) 3=(if bt c 11=true then 1 else 0)+(if bt c 12=true then 2 else 0):=by
  refine bF _ _ (ah _ _ _) m5 λi x=>?_;have d:=jA (bits .and .u64 c 924074) (ah _ _ _) 11 i;rw [show ((2:Int)^11)=2048 from bc] at d;rw [aw,d,aw,<- Ua i x (bt c 11) (bt c 12) (bt c (i+11))];by_cases a:i=0;·subst a;rfl
  ·by_cases b:i=1;·subst b;rfl
   ·rw [if_neg a,if_neg b]
 have e2:bits .and .u64 c 6144=(if bt c 11=true then 2048 else 0)+(if bt c 12=true then 4096 else 0):=by
  refine bF _ _ (ah _ _ _) m5 λi x=>?_;rw [aw,<- Q7 i x (bt c 11) (bt c 12) (bt c i)];by_cases a:i=11;·subst a;rfl
  ·by_cases b:i=12;·subst b;rfl
   ·rw [if_neg a,if_neg b]
 show (if (bits .and .u64 c 6144==4096)=true then bits .andNot .u64 (bits .and .u64 c 924074) 6144 else bits .and .u64 c 924074)=mst c;unfold mst;rw [e,e2];cases bt c 11<;>cases bt c 12<;>rfl
theorem Vb:∀ i,i<64->∀ a:Bool,(a&&bt 18446744073709551613 i)=(a&&!bt 2 i):=by decide +kernel
theorem Vc:∀ i,i<64->∀ a:Bool,(a&&bt 18446744073709551612 i)=(a&&!bt 3 i):=by decide +kernel
theorem Ad:∀ i,i<64->bt 18446744073709551615 i=true:=by decide +kernel
theorem Sx:∀ i,i<64->∀ a:Bool,((decide (i<8)&&a)&&bt 159 i)=(a&&bt 159 i):=by decide +kernel
theorem Ub:bits .and .u64 c 18446744073709551613=bits .andNot .u64 c 2 :=
 bF _ _ (ah _ _ _) (ah _ _ _) λi a=>by rw [aw,ay _ _ _ a];exact Vb i a _
theorem Sy:bits .and .u64 c 18446744073709551612=bits .andNot .u64 c 3 :=
 bF _ _ (ah _ _ _) (ah _ _ _) λi a=>by rw [aw,ay _ _ _ a];exact Vc i a _
theorem pB (h:U c):bits .and .u64 c 18446744073709551615=c :=
 bF _ _ (ah _ _ _) h λi a=>by rw [aw,Ad i a,Bool.and_true]
theorem Ph (h:U c) (k:Nat):Cd c k=js c k:=by
 have e:bits .and .u64 (dc c (8*k) 8) 159=bits .and .u64 (c/2^(8*k)) 159 :=
  bF _ _ (ah _ _ _) (ah _ _ _) λi a=>by
   rw [aw,aw,kI c h _ _ _ ab,jA c h];exact Sx i a _
 unfold Cd js;rw [e]
theorem LQ (h:U c) (k:Nat):qi c k=dg c k:=by
 induction k with
 | zero=>rfl
 | succ k a=>rw [qi,dg,a,Ph c h]
theorem yG (h:U c) (k:Nat) (hk:k<22) (b:k≠9) (a:k≠15):hZ (ge k).2 c=bz k c:=by
 have:k=0\/k=1\/k=2\/k=3\/k=4\/k=5\/k=6\/k=7\/k=8\/k=10\/k=11\/k=12\/k=13\/k=14\/k=16\/k=17\/k=18\/k=19\/k=20\/k=21:=ab
 rcases this with rfl|rfl|rfl|rfl|rfl|rfl|rfl|rfl|rfl|rfl|rfl|rfl|rfl|rfl|rfl|rfl|rfl|rfl|rfl|rfl;·exact LP c h
 ·rfl
 ·rfl
 ·rfl
 ·exact Ub c
 ·exact pB c h
 ·exact Sy c
 ·rfl
 ·exact pB c h
 ·exact Ub c
 ·exact pB c h
 ·exact Sy c
 ·rfl
 ·exact pB c h
 ·exact LQ c h 4
 ·rfl
 ·rfl
 ·rfl
 ·rfl
 ·exact pB c h
theorem GN (h:U c):iu c=((c/1152921504606846976==0)||(c/1152921504606846976==8)):=by
 have e:dc c 60 4=c/1152921504606846976:=by unfold dc;rw [show ((2:Int)^60)=1152921504606846976 from bc,show ((2:Int)^4)=16 from bc];have:=h.1;have:=h.2;omega
 unfold iu;rw [e]
theorem Sz (x:Int) (h:U x) (k:Nat) (hk:k<22):(hZ (ge k).2 x==x)=fI k x:=by
 by_cases b:k=9;·subst b;rfl
 ·by_cases a:k=15
  ·subst a;show (hZ .satp x==x)=((x/1152921504606846976==0)||(x/1152921504606846976==8));rw [<- GN x h];show ((if iu x=true then x else 0)==x)=iu x;cases c:iu x with
   | true=>simp
   | false =>have d:x≠0:=(by rintro rfl;revert c;decide);simp only [Bool.false_eq_true,if_false,beq_eq_false_iff_ne];exact λh=>d h.symm
  ·rw [yG x h k hk b a];unfold fI;rw [if_neg b,if_neg a]
theorem Cj (hl:∀ j,U (k.getD j 0)):∀ n l,l+n<=22->dM k n l=fz k n l:=by
 intro n;induction n with
 | zero=>intro l _;rfl
 | succ n a =>intro l b;rw [dM,fz,Sz _ (hl l) l ab,a (l+1) ab]
theorem yH (hl:∀ j,U (a.getD j 0)):jW e a=bE e a:=by unfold jW bE;rw [Cj a hl 22 0 ab]
def nums:List Int:=[768,770,771,772,773,832,833,834,835,836,261,320,321,322,323,384,928,944,945,946,947,2818,256,260,324]
theorem Pi:∀ k,k<22->(ge k).1 ∈ nums:=by decide
theorem LS:∀ k,k<22->dZ.getD k 0 ∈ nums:=by decide
theorem lN (h:c ∉ nums):∀ f k,k+f<=22->dj c v f k=⟨-1,0,0,0,false⟩:=by
 intro f;induction f with
 | zero=>intro k _;rfl
 | succ f n =>
   intro k g;have a:((ge k).1==c)=false:=(by rw [beq_eq_false_iff_ne];intro e;exact h (e ▸ Pi k ab));have b:((ge k).2.sees&&(nS (ge k).2==c))=false:=by cases d:(ge k).2<;>first | rfl | (simp only [CK.sees,nS,Bool.true_and,beq_eq_false_iff_ne];intro e;apply h;rw [<- e];decide)
   rw [dj,if_neg (by rw [a];decide),if_neg (by rw [b];decide)];exact n (k+1) ab
theorem Ae (h:c ∉ nums):∀ f k,k+f<=22->eC c f k=-1:=by
 intro f;induction f with
 | zero=>intro k _;rfl
 | succ f b =>intro k n;have a:(dZ.getD k 0==c)=false:=(by rw [beq_eq_false_iff_ne];intro e;exact h (e ▸ LS k ab));rw [eC,if_neg (by rw [a];decide)];exact b (k+1) ab
theorem tG (h:c ∉ nums):cU c=-1:=by unfold cU;rw [if_neg (λe=>h (by rw [e];decide)),if_neg (λe=>h (by rw [e];decide)),if_neg (λe=>h (by rw [e];decide))];exact Ae c h 22 0 ab
theorem jX (h:c ∈ nums):c=768\/c=770\/c=771\/c=772\/c=773\/c=832\/c=833\/c=834\/c=835\/c=836\/c=261\/c=320\/c=321\/c=322\/c=323\/c=384\/c=928\/c=944\/c=945\/c=946\/c=947\/c=2818\/c=256\/c=260\/c=324:=by simpa [nums] using h
theorem Ck:((dj c v 22 0).ok||vZ c)=dB c:=by
 by_cases h:c ∈ nums;·rcases jX c h with rfl|rfl|rfl|rfl|rfl|rfl|rfl|rfl|rfl|rfl|rfl|rfl|rfl|rfl|rfl|rfl|rfl|rfl|rfl|rfl|rfl|rfl|rfl|rfl|rfl<;>rfl
 ·rw [lN c v h 22 0 ab];unfold dB vZ;rw [tG c h];cases (c==769)<;>cases (c==3860)<;>rfl
theorem kz (h:dB c=true):c=3860\/c=769\/c ∈ nums:=by
 by_cases a:c ∈ nums;·exact .inr (.inr a)
 ·simp only [dB,tG c a,Bool.or_eq_true,beq_iff_eq,decide_eq_true_eq] at h;omega
theorem LT (h:dB c=true):nE c v=(bZ v&&decide ((wrap64 (c.tdiv 256)).tmod 4<=v)):=by
 have e:bits .and .i64 (c/256) 3=(wrap64 (c.tdiv 256)).tmod 4:=by
  rcases kz c h with rfl|rfl|a;·decide +kernel
  ·decide +kernel
  ·rcases jX c a with rfl|rfl|rfl|rfl|rfl|rfl|rfl|rfl|rfl|rfl|rfl|rfl|rfl|rfl|rfl|rfl|rfl|rfl|rfl|rfl|rfl|rfl|rfl|rfl|rfl<;>decide +kernel
 unfold nE;rw [e]
theorem Pj (h:dB c=true):tF c=((wrap64 (c.tdiv 1024)).tmod 4==3):=by
 have e:bits .and .i64 (c/1024) 3=(wrap64 (c.tdiv 1024)).tmod 4:=by
  rcases kz c h with rfl|rfl|a;·decide +kernel
  ·decide +kernel
  ·rcases jX c a with rfl|rfl|rfl|rfl|rfl|rfl|rfl|rfl|rfl|rfl|rfl|rfl|rfl|rfl|rfl|rfl|rfl|rfl|rfl|rfl|rfl|rfl|rfl|rfl|rfl<;>decide +kernel
 unfold tF;rw [e]
theorem wi (l:List Int) (hl:∀ j,U (l.getD j 0)) (n p:Int):si e l n p=jt e l n p:=by
 unfold si jt EY;rw [yH e l hl,Ck];cases a:dB n with
 | false=>simp
 | true =>rw [LT n p a];cases bE e l<;>cases bZ p<;>simp
theorem dy (hl:∀ j,U (k.getD j 0)) (n:Int) (l:Nat) (a:dj n (k.getD 2 0) 22 0=⟨l,n,18446744073709551615,18446744073709551615,true⟩) (hr:dE k n=k.getD l 0): (if (dj n (k.getD 2 0) 22 0).ok=true then bits .and .u64 (k.getD (dj n (k.getD 2 0) 22 0).at_.toNat 0) (dj n (k.getD 2 0) 22 0).rd else xH n)=dE k n:=by rw [a,hr];show bits .and .u64 (k.getD ((l:Int)).toNat 0) 18446744073709551615=_;rw [Int.toNat_natCast,pB _ (hl l)]
theorem Pk (hl:∀ j,U (k.getD j 0)) (n:Int) (h:dB n=true): (if (dj n (k.getD 2 0) 22 0).ok=true then bits .and .u64 (k.getD (dj n (k.getD 2 0) 22 0).at_.toNat 0) (dj n (k.getD 2 0) 22 0).rd else xH n)=dE k n:=by
 rcases kz n h with rfl|rfl|a;·rw [lN 3860 _ bc 22 0 ab];rfl
 ·rw [lN 769 _ bc 22 0 ab];rfl
 ·rcases jX n a with rfl|rfl|rfl|rfl|rfl|rfl|rfl|rfl|rfl|rfl|rfl|rfl|rfl|rfl|rfl|rfl|rfl|rfl|rfl|rfl|rfl|rfl|rfl|rfl|rfl;·exact dy k hl 768 0 rfl rfl
  ·exact dy k hl 770 1 rfl rfl
  ·exact dy k hl 771 2 rfl rfl
  ·exact dy k hl 772 3 rfl rfl
  ·exact dy k hl 773 4 rfl rfl
  ·exact dy k hl 832 5 rfl rfl
  ·exact dy k hl 833 6 rfl rfl
  ·exact dy k hl 834 7 rfl rfl
  ·exact dy k hl 835 8 rfl rfl
  ·exact dy k hl 836 9 rfl rfl
  ·exact dy k hl 261 10 rfl rfl
  ·exact dy k hl 320 11 rfl rfl
  ·exact dy k hl 321 12 rfl rfl
  ·exact dy k hl 322 13 rfl rfl
  ·exact dy k hl 323 14 rfl rfl
  ·exact dy k hl 384 15 rfl rfl
  ·exact dy k hl 928 16 rfl rfl
  ·exact dy k hl 944 17 rfl rfl
  ·exact dy k hl 945 18 rfl rfl
  ·exact dy k hl 946 19 rfl rfl
  ·exact dy k hl 947 20 rfl rfl
  ·exact dy k hl 2818 21 rfl rfl
  ·rfl
  ·rfl
  ·rfl
theorem LU (hl:∀ j,U (a.getD j 0)) (n p:Int):wg e a n p=(if jt e a n p=true then dE a n else 0):=by
 have l:=wi e a hl n p;unfold si at l;rw [Ck] at l;cases b:dB n with
 | false =>have d:jt e a n p=false:=(by unfold jt;rw [b];cases bE e a<;>rfl);rw [d,if_neg bc];unfold wg;have c:=Ck n (a.getD 2 0);rw [b,Bool.or_eq_false_iff] at c;rw [c.1];have m:xH n=0:=(by have:=c.2;simp only [vZ,Bool.or_eq_false_iff,beq_eq_false_iff_ne] at this;unfold xH;rw [if_neg this.1]);rw [m];cases EY e a n p<;>rfl
 | true =>rw [b,Bool.and_true] at l;unfold wg;rw [l,Pk a hl n b]
theorem Af (h:U v):bits .or .u64 (bits .andNot .u64 c 18446744073709551615) (bits .and .u64 v 18446744073709551615)=v :=
 bF _ _ (ah _ _ _) h λi a=>by rw [cE,ay _ _ _ a,aw,Ad i a];cases bt c i<;>cases bt v i<;>rfl
theorem GO (h:U c):bits .or .u64 (bits .andNot .u64 c 0) (bits .and .u64 v 0)=c :=
 bF _ _ (ah _ _ _) h λi b=>by
  have a:bt 0 i=false:=by unfold bt;simp
  rw [cE,ay _ _ _ b,aw,a];cases bt c i<;>cases bt v i<;>rfl
theorem yI:bits .andNot .u64 18446744073709551615 0=18446744073709551615:=by decide +kernel
theorem tH:bits .andNot .u64 18446744073709551615 18446744073709551615=0:=by decide +kernel
theorem Uc (k:CK) (x:Int) (h:U x):U (hZ k x):=by
 cases k with
 | plain b=>exact ah .and x b
 | mst =>
   show U (if (bits .and .u64 x 6144==4096)=true then bits .andNot .u64 (bits .and .u64 x 924074) 6144 else bits .and .u64 x 924074);split;·exact ah _ _ _
   ·exact ah _ _ _
 | mie=>exact ah .and x 2730
 | mip=>exact ah .and x 2730
 | satp =>
   show U (if iu x=true then x else 0);split;·exact h
   ·constructor<;>decide
 | cfg=>rw [show hZ .cfg x=qi x 4 from rfl,qi];exact ah _ _ _
 | addr e=>exact ah .and x 18014398509481983
theorem Ju (hk:(ge e).2.holds=false) (x:Int) (h:U x):kR k e 18446744073709551615 x=hZ (ge e).2 x:=by unfold kR lM;rw [hk,if_neg bc];exact Af _ _ (Uc _ x h)
theorem mV (hk:e<k.length):k.set e (k.getD e 0)=k:=by
 have l:k.getD e 0=k[e]:=by simp [List.getD,List.getElem?_eq_getElem hk]
 rw [l,List.set_getElem_self]
theorem SA:∀ i,i<64->∀ y x:Bool,(((y&&bt 2730 i)&&!(bt 18446744073709551615 i&&!bt 2184 i))||((x&&bt 2730 i)&&(bt 18446744073709551615 i&&!bt 2184 i)))=(((y&&bt 2730 i)&&!bt 546 i)||(x&&bt 546 i)):=by decide +kernel
theorem LV (hy:bits .and .u64 c 2730=c): bits .or .u64 (bits .andNot .u64 c (bits .andNot .u64 18446744073709551615 2184)) (bits .and .u64 (bits .and .u64 v 2730) (bits .andNot .u64 18446744073709551615 2184))=iM c 546 v:=by
 unfold iM;refine bF _ _ (ah _ _ _) (ah _ _ _) λi a=>?_;have b:bt c i=(bt c i&&bt 2730 i):=by conv=>lhs;rw [<- hy,aw]
 rw [cE,ay _ _ _ a,aw,aw,ay _ _ _ a,cE,ay _ _ _ a,aw,b];exact SA i a _ _
theorem LW:∀ i,i<64->∀ x:Bool,((x&&bt 924074 i)&&bt 786722 i)=(x&&bt 786722 i)/\(((x&&bt 924074 i)&&!bt 6144 i)&&bt 786722 i)=(x&&bt 786722 i):=by decide +kernel
theorem LX:bits .or .u64 (bits .andNot .u64 c 786722) (bits .and .u64 (hZ .mst v) 786722)=iM c 786722 v:=by
 unfold iM;refine bF _ _ (ah _ _ _) (ah _ _ _) λi a=>?_;have b:bt (bits .and .u64 (hZ .mst v) 786722) i=bt (bits .and .u64 v 786722) i:=by
  show bt (bits .and .u64 (if (bits .and .u64 v 6144==4096)=true then bits .andNot .u64 (bits .and .u64 v 924074) 6144 else bits .and .u64 v 924074) 786722) i=_;split;·rw [aw,ay _ _ _ a,aw,aw];exact (LW i a _).2
  ·rw [aw,aw,aw];exact (LW i a _).1
 rw [cE,b,cE]
theorem LY (hy:bits .and .u64 c 2730=c):bits .or .u64 (bits .andNot .u64 c v) (bits .and .u64 (bits .and .u64 s 2730) v)=bz 3 (iM c v s):=by
 show _=bits .and .u64 (bits .or .u64 (bits .andNot .u64 c v) (bits .and .u64 s v)) 2730;refine bF _ _ (ah _ _ _) (ah _ _ _) λi a=>?_;have b:bt c i=(bt c i&&bt 2730 i):=by conv=>lhs;rw [<- hy,aw]
 rw [cE,ay _ _ _ a,aw,aw,aw,cE,ay _ _ _ a,aw,b];cases bt c i<;>cases bt v i<;>cases bt s i<;>cases bt 2730 i<;>rfl
theorem SB:∀ i,i<64->∀ y m x:Bool,((y&&!((m&&bt 2 i)&&!bt 2184 i))||((x&&bt 2730 i)&&((m&&bt 2 i)&&!bt 2184 i)))=((y&&!(m&&bt 2 i))||(x&&(m&&bt 2 i))):=by decide +kernel
theorem LZ:bits .or .u64 (bits .andNot .u64 c (bits .andNot .u64 (bits .and .u64 v 2) 2184)) (bits .and .u64 (bits .and .u64 s 2730) (bits .andNot .u64 (bits .and .u64 v 2) 2184))=iM c (bits .and .u64 v 2) s:=by unfold iM;refine bF _ _ (ah _ _ _) (ah _ _ _) λi a=>?_;rw [cE,ay _ _ _ a,aw,aw,ay _ _ _ a,aw,cE,ay _ _ _ a,aw,aw,aw];exact SB i a _ _ _
theorem EZ (h:U (k.getD 16 0)) (l:Nat):dJ k l=dc (k.getD 16 0) (8*l) 8:=ix _ (8*l) 8 h.1 h.2 ab
theorem Ue:∀ z:Nat,z<256->(bits .and .u64 (z:Int) 128 != 0)=((z:Int)/128==1):=by decide +kernel
theorem uD (h:U (k.getD 16 0)) (l:Nat):fR (k.getD 16 0) l=(dJ k l/128==1):=by
 rw [EZ k h]
 unfold fR
 have a:=kH (k.getD 16 0) (8*l) 8
 obtain ⟨z,b⟩:=Int.eq_ofNat_of_zero_le a.1
 rw [b] at a ⊢
 exact Ue z (by have:((2:Int)^8)=256:=by decide
                omega)
theorem E5 (h:U c):∀ l,U (eD k c l):=by
 intro l;induction l with
 | zero=>exact h
 | succ l a =>
   rw [eD];split;·exact ah _ _ _
   ·exact a
theorem yJ (h:U (k.getD 16 0)) (y:Int) (i:Nat) (c:i<64):∀ l,bt (eD k y l) i=if bt (gQ (k.getD 16 0) l) i=true then bt (k.getD 16 0) i else bt y i:=by
 intro l;induction l with
 | zero =>
   have b:bt 0 i=false:=(by unfold bt;simp);show bt y i=if bt 0 i=true then _ else _
   rw [b,if_neg bc]
 | succ l a =>
   rw [eD,gQ,uD k h];cases (dJ k l/128==1) with
   | false=>exact a
   | true =>rw [if_pos rfl,if_pos rfl,cE,ay _ _ _ c,aw,cE,a];cases bt (Uz.wrap (255*2^(8*l))) i<;>cases bt (gQ (k.getD 16 0) l) i<;>cases bt (k.getD 16 0) i<;>cases bt y i<;>rfl
theorem L4 (h:U (k.getD 16 0)) (f:Int) (b:U f): bits .or .u64 (bits .andNot .u64 (k.getD 16 0) (bits .andNot .u64 18446744073709551615 (gQ (k.getD 16 0) 4))) (bits .and .u64 f (bits .andNot .u64 18446744073709551615 (gQ (k.getD 16 0) 4)))=eD k f 4:=by refine bF _ _ (ah _ _ _) (E5 k f b 4) λi a=>?_;rw [yJ k h f i a,cE,ay _ _ _ a,aw,ay _ _ _ a,Ad i a];cases bt (gQ (k.getD 16 0) 4) i<;>cases bt (k.getD 16 0) i<;>cases bt f i<;>rfl
theorem GP:∀ i,i<64->8<=i->bt 159 i=false:=by decide +kernel
theorem GQ (b:8<=M):bt (js c g) M=false:=by
 by_cases a:M<64
 ·unfold js;split;·rw [ay _ _ _ a,aw,GP M a b,Bool.and_false,Bool.false_and]
  ·rw [aw,GP M a b,Bool.and_false]
 ·exact uB _ _ ab
theorem L5:U (js c g):=by unfold js;split<;>exact ah _ _ _
theorem L7 (b:32<=g):∀ k,k<=4->bt (dg c k) g=false:=by
 intro k;induction k with
 | zero=>intro _;unfold bt;simp [dg]
 | succ k a =>intro x;rw [dg,cE,a ab,nu _ (L5 c k),GQ c k _ ab,Bool.and_false,Bool.or_false]
theorem L8 (b:U c) (h:bz 16 c=c):fR c 4=false:=by
 have a:dg c 4=c:=h;have e:dc c (8*4) 8=0:=by
  refine bF _ _ (qE _ _ _ ab) (by constructor<;>decide) λi d=>?_;rw [kI c b _ _ _ ab];have:bt c (i+8*4)=false:=by rw [<- a];exact L7 c _ ab 4 ab
  rw [this,Bool.and_false];unfold bt;simp
 unfold fR;rw [e];decide +kernel
theorem yK (h:U (k.getD 16 0)) (l:Nat) (hk:l<4):iI (k.getD 16 0) l=bits .and .u64 (dJ k l/8) 3:=by rw [EZ k h];have a:=cI (dc (k.getD 16 0) (8*l) 8/8) 2 (by have:=(kH (k.getD 16 0) (8*l) 8).1;omega) (by have b:=qE (k.getD 16 0) (8*l) 8 ab;have c:=b.1;have d:=b.2;omega) ab;rw [show ((2:Int)^2-1)=3 from bc,show ((2:Int)^2)=4 from bc] at a;rw [a];unfold iI dc;rw [Int.pow_add,show ((2:Int)^3)=8 from bc,show ((2:Int)^2)=4 from bc,show ((2:Int)^8)=256 from bc,<- Int.ediv_ediv_of_nonneg (Int.le_of_lt (Int.pow_pos ab))];generalize k.getD 16 0/2^(8*l)=z;omega
theorem E6 (h:U (k.getD 16 0)) (b:bz 16 (k.getD 16 0)=k.getD 16 0) (e:Nat) (he:e<4): (fR (k.getD 16 0) e||(fR (k.getD 16 0) (e+1)&&(iI (k.getD 16 0) (e+1)==1)))=fA k e:=by
 unfold fA;by_cases a:e<3;·rw [uD k h,uD k h,yK k h _ ab,show decide (e<3)=true from ri,Bool.true_and]
 ·have:e=3:=by omega
  subst this;rw [L8 _ h b,uD k h];simp
theorem pC (h:U (k.getD 16 0)) (a:bz 16 (k.getD 16 0)=k.getD 16 0) (l e:Nat) (he:e<4) (hk:(ge l).2=.addr e) (hy:U (k.getD l 0)) (x:Int) (hx:U x): kR k l 18446744073709551615 x=if fA k e=true then k.getD l 0 else bits .and .u64 x 18014398509481983:=by
 unfold kR lM;rw [hk];show bits .or .u64 (bits .andNot .u64 (k.getD l 0) (bits .andNot .u64 18446744073709551615 (if (fR (k.getD 16 0) e||(fR (k.getD 16 0) (e+1)&&(iI (k.getD 16 0) (e+1)==1)))=true then 18446744073709551615 else 0)))
  (bits .and .u64 (bits .and .u64 x 18014398509481983) (bits .andNot .u64 18446744073709551615 (if (fR (k.getD 16 0) e||(fR (k.getD 16 0) (e+1)&&(iI (k.getD 16 0) (e+1)==1)))=true then 18446744073709551615 else 0)))=_
 rw [E6 k h a e he];cases fA k e with
 | true=>rw [if_pos rfl,if_pos rfl,tH];exact GO _ _ hy
 | false=>rw [if_neg bc,if_neg bc,yI];exact Af _ _ (ah _ _ _)
theorem Jv (hy:U (k.getD 15 0)) (x:Int) (hx:U x):kR k 15 18446744073709551615 x=if iu x=true then x else k.getD 15 0:=by
 unfold kR lM;show bits .or .u64 (bits .andNot .u64 (k.getD 15 0) (bits .andNot .u64 18446744073709551615 (if iu x=true then 0 else 18446744073709551615)))
  (bits .and .u64 (if iu x=true then x else 0) (bits .andNot .u64 18446744073709551615 (if iu x=true then 0 else 18446744073709551615)))=_
 cases iu x with
 | true=>rw [if_pos rfl,if_pos rfl,if_pos rfl,yI];exact Af _ _ hx
 | false=>rw [if_neg bc,if_neg bc,if_neg bc,tH];exact GO _ _ hy
theorem Jw:∀ n l,fz k n l=true->∀ j,l<=j->j<l+n->fI j (k.getD j 0)=true:=by
 intro n;induction n with
 | zero=>intro l _ j a b;omega
 | succ n d =>
   intro l h j a b;rw [fz,Bool.and_eq_true] at h;by_cases c:j=l;·subst c;exact h.1
   ·exact d (l+1) h.2 j ab ab
theorem eM (h:bE x l=true) (j:Nat) (a:j<22):fI j (l.getD j 0)=true:=by simp only [bE,Bool.and_eq_true,decide_eq_true_eq] at h;exact Jw l 22 0 h.2 j ab ab
theorem jm (a:dj c (k.getD 2 0) 22 0=⟨g,c,18446744073709551615,18446744073709551615,true⟩) (b:cn k c v=fV k g v) (h:k.set g (kR k g 18446744073709551615 v)=fV k g v):nF k c v=cn k c v:=by unfold nF;rw [a,b];show k.set ((g:Int)).toNat (kR k ((g:Int)).toNat 18446744073709551615 v)=_;rw [Int.toNat_natCast];exact h
theorem dR (hx:U v) (l:Nat) (hk:l<22) (b:l≠9) (a:l≠15) (d:(ge l).2.holds=false) (n:dj c (k.getD 2 0) 22 0=⟨l,c,18446744073709551615,18446744073709551615,true⟩) (f:cn k c v=fV k l v) (e:fV k l v=k.set l (bz l v)):
 nF k c v=cn k c v :=
 jm k c v l n f (by rw [Ju k l d v hx,yG v hx l hk b a,e])
theorem L9 (hz:k.length=22) (hl:∀ j,U (k.getD j 0)) (b:bE 22 k=true) (n x:Int) (hx:U x) (h:dB n=true):nF k n x=cn k n x:=by
 have e:bits .and .u64 (k.getD 9 0) 2730=k.getD 9 0:=by have:=eM b 9 ab;exact eq_of_beq this
 have d:bits .and .u64 (k.getD 3 0) 2730=k.getD 3 0:=by have:=eM b 3 ab;exact eq_of_beq this
 have a:bz 16 (k.getD 16 0)=k.getD 16 0:=by have:=eM b 16 ab;exact eq_of_beq this
 rcases kz n h with rfl|rfl|c;·unfold nF;rw [lN 3860 _ bc 22 0 ab];rfl
 ·unfold nF;rw [lN 769 _ bc 22 0 ab];rfl
 ·rcases jX n c with rfl|rfl|rfl|rfl|rfl|rfl|rfl|rfl|rfl|rfl|rfl|rfl|rfl|rfl|rfl|rfl|rfl|rfl|rfl|rfl|rfl|rfl|rfl|rfl|rfl;·exact dR k 768 x hx 0 ab ab ab rfl rfl rfl rfl
  ·exact dR k 770 x hx 1 ab ab ab rfl rfl rfl rfl
  ·exact dR k 771 x hx 2 ab ab ab rfl rfl rfl rfl
  ·exact dR k 772 x hx 3 ab ab ab rfl rfl rfl rfl
  ·exact dR k 773 x hx 4 ab ab ab rfl rfl rfl rfl
  ·exact dR k 832 x hx 5 ab ab ab rfl rfl rfl rfl
  ·exact dR k 833 x hx 6 ab ab ab rfl rfl rfl rfl
  ·exact dR k 834 x hx 7 ab ab ab rfl rfl rfl rfl
  ·exact dR k 835 x hx 8 ab ab ab rfl rfl rfl rfl
  ·refine jm k 836 x 9 rfl rfl ?_;show k.set 9 (bits .or .u64 (bits .andNot .u64 (k.getD 9 0) (bits .andNot .u64 18446744073709551615 2184)) (bits .and .u64 (bits .and .u64 x 2730) (bits .andNot .u64 18446744073709551615 2184)))=k.set 9 (iM (k.getD 9 0) 546 x);rw [LV _ x e]
  ·exact dR k 261 x hx 10 ab ab ab rfl rfl rfl rfl
  ·exact dR k 320 x hx 11 ab ab ab rfl rfl rfl rfl
  ·exact dR k 321 x hx 12 ab ab ab rfl rfl rfl rfl
  ·exact dR k 322 x hx 13 ab ab ab rfl rfl rfl rfl
  ·exact dR k 323 x hx 14 ab ab ab rfl rfl rfl rfl
  ·refine jm k 384 x 15 rfl rfl ?_;rw [Jv k (hl 15) x hx];show _=(if ((x/1152921504606846976==0)||(x/1152921504606846976==8))=true then k.set 15 x else k);rw [<- GN x hx];cases iu x with
   | true=>rfl
   | false=>rw [if_neg bc,if_neg bc,mV k 15 ab]
  ·refine jm k 928 x 16 rfl rfl ?_;show k.set 16 (bits .or .u64 (bits .andNot .u64 (k.getD 16 0) (bits .andNot .u64 18446744073709551615 (gQ (k.getD 16 0) 4))) (bits .and .u64 (qi x 4) (bits .andNot .u64 18446744073709551615 (gQ (k.getD 16 0) 4))))=k.set 16 (eD k (dg x 4) 4);rw [LQ x hx,L4 k (hl 16) (dg x 4) (by rw [dg];exact ah _ _ _)]
  ·refine jm k 944 x 17 rfl rfl ?_;rw [pC k (hl 16) a 17 0 ab rfl (hl 17) x hx];show _=(if fA k 0=true then k else k.set 17 (bits .and .u64 x 18014398509481983));cases fA k 0 with
   | true=>rw [if_pos rfl,if_pos rfl,mV k 17 ab]
   | false=>rfl
  ·refine jm k 945 x 18 rfl rfl ?_;rw [pC k (hl 16) a 18 1 ab rfl (hl 18) x hx];show _=(if fA k 1=true then k else k.set 18 (bits .and .u64 x 18014398509481983));cases fA k 1 with
   | true=>rw [if_pos rfl,if_pos rfl,mV k 18 ab]
   | false=>rfl
  ·refine jm k 946 x 19 rfl rfl ?_;rw [pC k (hl 16) a 19 2 ab rfl (hl 19) x hx];show _=(if fA k 2=true then k else k.set 19 (bits .and .u64 x 18014398509481983));cases fA k 2 with
   | true=>rw [if_pos rfl,if_pos rfl,mV k 19 ab]
   | false=>rfl
  ·refine jm k 947 x 20 rfl rfl ?_;rw [pC k (hl 16) a 20 3 ab rfl (hl 20) x hx];show _=(if fA k 3=true then k else k.set 20 (bits .and .u64 x 18014398509481983));cases fA k 3 with
   | true=>rw [if_pos rfl,if_pos rfl,mV k 20 ab]
   | false=>rfl
  ·exact dR k 2818 x hx 21 ab ab ab rfl rfl rfl rfl
  ·show k.set 0 (bits .or .u64 (bits .andNot .u64 (k.getD 0 0) 786722) (bits .and .u64 (hZ .mst x) 786722))=k.set 0 (iM (k.getD 0 0) 786722 x);rw [LX]
  ·show k.set 3 (bits .or .u64 (bits .andNot .u64 (k.getD 3 0) (k.getD 2 0)) (bits .and .u64 (bits .and .u64 x 2730) (k.getD 2 0)))=k.set 3 (bz 3 (iM (k.getD 3 0) (k.getD 2 0) x));rw [LY _ _ _ d]
  ·show k.set 9 (bits .or .u64 (bits .andNot .u64 (k.getD 9 0) (bits .andNot .u64 (bits .and .u64 (k.getD 2 0) 2) 2184)) (bits .and .u64 (bits .and .u64 x 2730) (bits .andNot .u64 (bits .and .u64 (k.getD 2 0) 2) 2184)))=k.set 9 (iM (k.getD 9 0) (bits .and .u64 (k.getD 2 0) 2) x);rw [LZ]
theorem yL (l:List Int) (hl:∀ j,U (l.getD j 0)) (n p:Int):pA e l n p=DQ e l n p:=by
 have b:=wi e l hl n p;unfold si at b;unfold pA DQ;cases a:dB n with
 | false =>have c:jt e l n p=false:=(by unfold jt;rw [a];cases bE e l<;>rfl);rw [c,Ck,a];simp
 | true =>rw [<- b,Pj n a,Ck,a];cases EY e l n p<;>cases ((wrap64 (n.tdiv 1024)).tmod 4==3)<;>rfl
theorem Jy (hz:a.length=e) (hl:∀ j,U (a.getD j 0)) (n p x:Int) (hx:U x):nG e a n p x=DR e a n p x:=by
 unfold nG DR;rw [yL e a hl n p];cases c:DQ e a n p with
 | false=>rfl
 | true =>rw [if_pos rfl,if_pos rfl];have l:jt e a n p=true:=(by unfold DQ at c;rw [Bool.and_eq_true] at c;exact c.1);obtain ⟨rfl,d⟩:=DS l;have b:bE 22 a=true:=(by simp only [jt,Bool.and_eq_true] at l;exact l.1.1.1);exact L9 a hz hl b n x hx d
theorem SC:bits .and .u64 c 1=if bt c 0=true then 1 else 0:=by
 have b:∀ i,i<64->∀ (p o:Bool),((if i=0 then p else o)&&bt 1 i)=bt (if p=true then 1 else 0) i:=cb
 refine bF _ _ (ah _ _ _) (by split<;>(constructor<;>decide)) λi d=>?_;rw [aw,<- b i d (bt c 0) (bt c i)];by_cases a:i=0;·subst a;rfl
 ·rw [if_neg a]
theorem Mb:(bits .and .u64 c 6144==4096)=(!bt c 11&&bt c 12):=by
 have e2:bits .and .u64 c 6144=(if bt c 11=true then 2048 else 0)+(if bt c 12=true then 4096 else 0):=by
  refine bF _ _ (ah _ _ _) m5 λi x=>?_;rw [aw,<- Q7 i x (bt c 11) (bt c 12) (bt c i)];by_cases a:i=11;·subst a;rfl
  ·by_cases b:i=12;·subst b;rfl
   ·rw [if_neg a,if_neg b]
 rw [e2];cases bt c 11<;>cases bt c 12<;>rfl
theorem GS (h:U c):mst c=if (!bt c 11&&bt c 12)=true then bits .andNot .u64 (bits .and .u64 c 924074) 6144 else bits .and .u64 c 924074:=by rw [<- LP c h,<- Mb];rfl
theorem TG:bt 924074 11=true/\bt 924074 12=true/\bt 6144 11=true/\bt 6144 12=true/\bt 786722 11=false/\bt 786722 12=false:=by decide +kernel
theorem sm (h:U c):mst c=c↔bits .and .u64 c 924074=c/\(!bt c 11&&bt c 12)=false:=by
 rw [GS c h];constructor
 ·intro e;cases a:(!bt c 11&&bt c 12) with
  | true =>
    rw [a,if_pos rfl] at e;have:bt c 12=false:=by rw [<- e,ay _ _ _ ab,TG.2.2.2.1];simp
    rw [this,Bool.and_false] at a;cases a
  | false=>rw [a,if_neg bc] at e;exact ⟨e,rfl⟩
 ·rintro ⟨e,a⟩;rw [a,if_neg bc];exact e
theorem Q8:U (mst c):=by unfold mst;split<;>exact ah _ _ _
theorem Mc (h:U c):mst (mst c)=mst c:=by
 rw [sm _ (Q8 c)];rw [GS c h];cases b:(!bt c 11&&bt c 12) with
 | true =>
   rw [if_pos rfl];refine ⟨bF _ _ (ah _ _ _) (ah _ _ _) λi a=>?_,?_⟩;·rw [aw,ay _ _ _ a,aw];cases bt c i<;>cases bt 924074 i<;>cases bt 6144 i<;>rfl
   ·rw [ay _ _ 12 ab,TG.2.2.2.1];simp
 | false =>
   rw [if_neg bc];refine ⟨bF _ _ (ah _ _ _) (ah _ _ _) λi a=>?_,?_⟩;·rw [aw,aw];cases bt c i<;>cases bt 924074 i<;>rfl
   ·rw [aw,aw,TG.1,TG.2.1,Bool.and_true,Bool.and_true];exact b
theorem SE:∀ i,i<64->∀ a:Bool,((a&&bt 786722 i)&&bt 924074 i)=(a&&bt 786722 i):=by decide +kernel
theorem Pn (hy:U c) (h:mst c=c):mst (iM c 786722 v)=iM c 786722 v:=by
 obtain ⟨b,y⟩:=(sm c hy).mp h;unfold iM;rw [sm _ (ah _ _ _)];refine ⟨bF _ _ (ah _ _ _) (ah _ _ _) λi a=>?_,?_⟩
 ·have d:bt c i=(bt c i&&bt 924074 i):=by conv=>lhs;rw [<- b,aw]
  have e:=SE i a (bt v i);rw [aw,cE,ay _ _ _ a,aw,d];revert e;cases bt c i<;>cases bt 924074 i<;>cases bt 786722 i<;>cases bt v i<;>decide
 ·rw [cE,cE,ay _ _ 11 ab,ay _ _ 12 ab,aw,aw,TG.2.2.2.2.1,TG.2.2.2.2.2];simpa using y
theorem jD:bits .and .u64 (bits .and .u64 c v) v=bits .and .u64 c v :=
 bF _ _ (ah _ _ _) (ah _ _ _) λi a=>by rw [aw,aw];cases bt c i<;>cases bt v i<;>rfl
theorem mo:bits .andNot .u64 (bits .andNot .u64 c v) v=bits .andNot .u64 c v :=
 bF _ _ (ah _ _ _) (ah _ _ _) λi a=>by rw [ay _ _ _ a,ay _ _ _ a];cases bt c i<;>cases bt v i<;>rfl
def xI (x:Int) (i:Nat):Bool:=bt x i&&bt 159 (i%8)&&!(decide (i%8=1)&&!bt x (i-1))
theorem Vd:∀ j,j<64->bt 2 j=decide (j=1):=by decide +kernel
theorem GT:bt 159 0=true:=by decide +kernel
theorem Jz (h:U c) (k j:Nat) (b:j<64):bt (js c k) j=(bt c (j+8*k)&&bt 159 j&&!(decide (j=1)&&!bt c (8*k))):=by
 unfold js;have a:∀ i,bt (c/2^(8*k)) i=bt c (i+8*k):=λi=>jA c h (8*k) i;generalize c/2^(8*k)=z at *;have x:bt c (8*k)=bt z 0:=by rw [a 0,Nat.zero_add]
 rw [x,<- a j,SC,aw,GT,Bool.and_true];cases d:bt z 0 with
 | true =>rw [if_pos rfl,if_neg bc,aw];simp
 | false =>rw [if_neg (show ¬ (false=true) from bc),if_pos (show ((0:Int)==0)=true from rfl),ay _ _ _ b,aw,Vd j b];simp
theorem rh (h:U c) (i:Nat) (d:i<64):∀ k,k<=4->bt (dg c k) i=(decide (i<8*k)&&xI c i):=by
 intro k;induction k with
 | zero=>intro _;rw [dg];have:bt 0 i=false:=by unfold bt;simp
         rw [this];simp
 | succ k g =>
   intro j;rw [dg,cE,g ab,nu _ (L5 c k)];by_cases b:i<8*k;·have x:¬ 8*k<=i:=ab;have a:i<8*(k+1):=ab;simp [b,x,a]
   ·have x:8*k<=i:=ab;by_cases a:i<8*(k+1)
    ·have f:i%8=i-8*k:=ab;rw [Jz c h k _ ab];unfold xI;rw [f,show i-8*k+8*k=i from ab];by_cases e:i-8*k=1;·rw [show i-1=8*k from ab];simp [b,x,a,d]
     ·simp [b,x,a,d,e]
    ·rw [GQ c k _ ab];simp [b,a]
theorem Ah (h:U c):bz 16 c=c↔∀ i,i<64->bt c i=(decide (i<32)&&xI c i):=by
 show dg c 4=c↔_;constructor;·intro e i a;have:=rh c h i a 4 ab;rw [e] at this;exact this
 ·intro b;refine bF _ _ (by rw [dg];exact ah _ _ _) h λi a=>?_;rw [rh c h i a 4 ab,b i a]
theorem JA (h:U c) (i:Nat) (b:i<32):xI (dg c 4) i=xI c i:=by
 have s:∀ j,j<32->bt (dg c 4) j=xI c j:=λj d=>by rw [rh c h j ab 4 ab];simp [show j<8*4 from ab]
 show (bt (dg c 4) i&&bt 159 (i%8)&&!(decide (i%8=1)&&!bt (dg c 4) (i-1)))=xI c i;rw [s i b,s (i-1) ab];by_cases a:i%8=1;·have x:(i-1)%8=0:=ab;unfold xI;rw [x,a,GT];cases bt c i<;>cases bt 159 1<;>cases bt c (i-1)<;>simp
 ·unfold xI;simp only [a,decide_false,Bool.false_and,Bool.not_false,Bool.and_true];cases bt c i<;>cases bt 159 (i%8)<;>rfl
theorem yM (h:U c):bz 16 (dg c 4)=dg c 4:=by
 rw [Ah _ (by rw [dg];exact ah _ _ _)];intro i b;rw [rh c h i b 4 ab];by_cases a:i<32;·rw [JA c h i a]
 ·simp [a]
theorem Md:∀ j,j<64->bt 255 j=decide (j<8):=by decide +kernel
theorem JB (f:g<64):∀ k,k<=4->bt (gQ c k) g=(decide (g<8*k)&&fR c (g/8)):=by
 intro k;induction k with
 | zero=>intro _;rw [gQ];have:bt 0 g=false:=by unfold bt;simp
         rw [this];simp
 | succ k d =>
   intro h;rw [gQ];by_cases a:g<8*k
   ·have b:g<8*(k+1):=ab;have e:¬ 8*k<=g:=ab;cases fR c k with
    | true=>rw [if_pos rfl,cE,d ab,nu _ (by constructor<;>decide)];simp [a,e,b]
    | false=>rw [if_neg bc,d ab];simp [a,b]
   ·have e:8*k<=g:=ab;by_cases b:g<8*(k+1)
    ·have i:g/8=k:=ab;rw [i];cases fR c k with
     | true=>rw [if_pos rfl,cE,d ab,nu _ (by constructor<;>decide),Md _ ab];simp [a,e,b,f];omega
     | false=>rw [if_neg bc,d ab];simp [a]
    ·cases fR c k with
     | true=>rw [if_pos rfl,cE,d ab,nu _ (by constructor<;>decide),Md _ ab];simp [a,b];omega
     | false=>rw [if_neg bc,d ab];simp [a,b]
theorem E7 (h:U (k.getD 16 0)) (p:bz 16 (k.getD 16 0)=k.getD 16 0) (f:Int) (l:U f) (hl:bz 16 f=f):bz 16 (eD k f 4)=eD k f 4:=by
 have e:=λi a=>yJ k h f i a 4;rw [Ah _ (E5 k f l 4)];have q:=(Ah _ h).mp p;have r:=(Ah _ l).mp hl;have m:=λi a=>JB (k.getD 16 0) i a 4 ab;intro i a;have c:=q i a;have d:=r i a;unfold xI at c d ⊢;by_cases o:i%8=1
 ·have n:(i-1)/8=i/8:=ab;have s:=m i a;have b:=m (i-1) ab;rw [e i a,e (i-1) ab];have g:decide (i-1<8*4)=decide (i<8*4):=by
   by_cases j:i<8*4;·simp [j];omega
   ·simp [j];omega
  rw [n,g,<- s] at b;rw [b];cases bt (gQ (k.getD 16 0) 4) i with
  | true=>rw [if_pos rfl,if_pos rfl];exact c
  | false=>rw [if_neg bc,if_neg bc];exact d
 ·rw [e i a];simp only [o,decide_false,Bool.false_and,Bool.not_false,Bool.and_true] at c d ⊢;cases bt (gQ (k.getD 16 0) 4) i with
  | true=>rw [if_pos rfl];exact c
  | false=>rw [if_neg bc];exact d
theorem E8 (h:U c) (k:Nat) (hk:k<22):bz k (bz k c)=bz k c:=by
 have:k=0\/k=1\/k=2\/k=3\/k=4\/k=5\/k=6\/k=7\/k=8\/k=9\/k=10\/k=11\/k=12\/k=13\/k=14\/k=15\/k=16\/k=17\/k=18\/k=19\/k=20\/k=21:=ab
 rcases this with rfl|rfl|rfl|rfl|rfl|rfl|rfl|rfl|rfl|rfl|rfl|rfl|rfl|rfl|rfl|rfl|rfl|rfl|rfl|rfl|rfl|rfl;·exact Mc c h
 ·exact jD c 46079
 ·exact jD c 546
 ·exact jD c 2730
 ·exact mo c 2
 ·rfl
 ·exact mo c 3
 ·exact jD c 9223372036854775823
 ·rfl
 ·rfl
 ·exact mo c 2
 ·rfl
 ·exact mo c 3
 ·exact jD c 9223372036854775823
 ·rfl
 ·rfl
 ·exact yM c h
 ·exact jD c 18014398509481983
 ·exact jD c 18014398509481983
 ·exact jD c 18014398509481983
 ·exact jD c 18014398509481983
 ·rfl
theorem JC:∀ n l,(∀ j,l<=j->j<l+n->fI j (k.getD j 0)=true)->fz k n l=true:=by
 intro n;induction n with
 | zero=>intro l _;rfl
 | succ n a =>intro l h;rw [fz,Bool.and_eq_true];exact ⟨h l ab ab,a (l+1) λj b c=>h j ab ab⟩
theorem Me (h:∀ j,j<22->fI j (k.getD j 0)=true):bE 22 k=true:=by simp only [bE,Bool.and_eq_true,decide_eq_true_eq];exact ⟨trivial,JC k 22 0 λj _ a=>h j ab⟩
theorem sn (hk:e<k.length):(k.set e c).getD e 0=c:=by simp [List.getD,hk]
theorem jY (a:e≠y):(k.set e c).getD y 0=k.getD y 0:=by simp [List.getD,a]
theorem cR (hz:k.length=22) (a:bE 22 k=true) (l:Nat) (hk:l<22) (v:Int) (h:fI l v=true):bE 22 (k.set l v)=true:=by
 refine Me _ λj b=>?_;by_cases e:l=j;·subst e;rw [sn k l v ab];exact h
 ·rw [jY k l j v e];exact eM a j b
theorem oL (h:U c) (k:Nat) (hk:k<22) (b:k≠9) (a:k≠15):fI k (bz k c)=true:=by unfold fI;rw [if_neg b,if_neg a,E8 c h k hk];exact beq_self_eq_true _
theorem GU (hy:bits .and .u64 c 2730=c) (hm:∀ i,i<64->bt v i=true->bt 2730 i=true):bits .and .u64 (iM c v s) 2730=iM c v s:=by
 unfold iM;refine bF _ _ (ah _ _ _) (ah _ _ _) λi b=>?_;have d:bt c i=(bt c i&&bt 2730 i):=by conv=>lhs;rw [<- hy,aw]
 have y:=hm i b;rw [aw,cE,ay _ _ _ b,aw,d];cases a:bt v i with
 | false=>cases bt c i<;>cases bt 2730 i<;>cases bt s i<;>rfl
 | true=>rw [y a];cases bt c i<;>cases bt s i<;>rfl
theorem Uf:∀ i,i<64->bt 546 i=true->bt 2730 i=true:=by decide +kernel
theorem VV:∀ i,i<64->bt 2 i=true->bt 2730 i=true:=by decide +kernel
theorem JD (hz:k.length=22) (hl:∀ j,U (k.getD j 0)) (a:bE 22 k=true) (l:Nat) (hk:l<22) (x:Int) (hx:U x):bE 22 (fV k l x)=true:=by
 have f:bits .and .u64 (k.getD 9 0) 2730=k.getD 9 0:=eq_of_beq (eM a 9 ab);have e:bz 16 (k.getD 16 0)=k.getD 16 0:=eq_of_beq (eM a 16 ab);unfold fV;by_cases d:l=9;·subst d;rw [if_pos (show (((9:Nat):Int)=9) from rfl)];refine cR k hz a 9 ab _ ?_;show (bits .and .u64 (iM (k.getD 9 0) 546 x) 2730==iM (k.getD 9 0) 546 x)=true;rw [GU _ _ _ f Uf];exact beq_self_eq_true _
 ·rw [if_neg ab];by_cases b:l=15
  ·subst b;rw [if_pos (show (((15:Nat):Int)=15) from rfl)];cases g:((x/1152921504606846976==0)||(x/1152921504606846976==8)) with
   | true=>rw [if_pos rfl];exact cR k hz a 15 ab _ g
   | false=>rw [if_neg bc];exact a
  ·rw [if_neg ab];by_cases c:l=16;·subst c;rw [if_pos (show (((16:Nat):Int)=16) from rfl)];refine cR k hz a 16 ab _ ?_;show (bz 16 (eD k (bz 16 x) 4)==eD k (bz 16 x) 4)=true;rw [E7 k (hl 16) e (bz 16 x) (by show U (dg x 4);rw [dg];exact ah _ _ _) (yM x hx)];exact beq_self_eq_true _
   ·rw [if_neg ab];split
    ·split;·exact a
     ·rw [Int.toNat_natCast];exact cR k hz a l hk _ (oL x hx l hk d b)
    ·rw [Int.toNat_natCast];exact cR k hz a l hk _ (oL x hx l hk d b)
inductive Ve (n:Int):Prop where
 | fixed (h:n=769\/n=3860)
 | st (h:n=256)
 | ie (h:n=260)
 | ip (h:n=324)
 | own (k:Nat) (hk:k<22) (hw:∀ l x,cn l n x=fV l k x) (hr:∀ l,dE l n=l.getD k 0) (hp:cU n=k)
theorem SF (h:dB c=true):Ve c:=by
 rcases kz c h with rfl|rfl|a;·exact .fixed (.inr rfl)
 ·exact .fixed (.inl rfl)
 ·rcases jX c a with rfl | rfl | rfl | rfl | rfl | rfl | rfl | rfl | rfl | rfl | rfl | rfl | rfl | rfl | rfl | rfl | rfl | rfl | rfl | rfl | rfl | rfl | rfl | rfl | rfl;·exact .own 0 ab (λ_ _=>rfl) (λ_=>rfl) rfl
  ·exact .own 1 ab (λ_ _=>rfl) (λ_=>rfl) rfl
  ·exact .own 2 ab (λ_ _=>rfl) (λ_=>rfl) rfl
  ·exact .own 3 ab (λ_ _=>rfl) (λ_=>rfl) rfl
  ·exact .own 4 ab (λ_ _=>rfl) (λ_=>rfl) rfl
  ·exact .own 5 ab (λ_ _=>rfl) (λ_=>rfl) rfl
  ·exact .own 6 ab (λ_ _=>rfl) (λ_=>rfl) rfl
  ·exact .own 7 ab (λ_ _=>rfl) (λ_=>rfl) rfl
  ·exact .own 8 ab (λ_ _=>rfl) (λ_=>rfl) rfl
  ·exact .own 9 ab (λ_ _=>rfl) (λ_=>rfl) rfl
  ·exact .own 10 ab (λ_ _=>rfl) (λ_=>rfl) rfl
  ·exact .own 11 ab (λ_ _=>rfl) (λ_=>rfl) rfl
  ·exact .own 12 ab (λ_ _=>rfl) (λ_=>rfl) rfl
  ·exact .own 13 ab (λ_ _=>rfl) (λ_=>rfl) rfl
  ·exact .own 14 ab (λ_ _=>rfl) (λ_=>rfl) rfl
  ·exact .own 15 ab (λ_ _=>rfl) (λ_=>rfl) rfl
  ·exact .own 16 ab (λ_ _=>rfl) (λ_=>rfl) rfl
  ·exact .own 17 ab (λ_ _=>rfl) (λ_=>rfl) rfl
  ·exact .own 18 ab (λ_ _=>rfl) (λ_=>rfl) rfl
  ·exact .own 19 ab (λ_ _=>rfl) (λ_=>rfl) rfl
  ·exact .own 20 ab (λ_ _=>rfl) (λ_=>rfl) rfl
  ·exact .own 21 ab (λ_ _=>rfl) (λ_=>rfl) rfl
  ·exact .st rfl
  ·exact .ie rfl
  ·exact .ip rfl
theorem tI (hz:k.length=22) (hl:∀ j,U (k.getD j 0)) (a:bE 22 k=true) (n x:Int) (hx:U x) (h:dB n=true):bE 22 (cn k n x)=true:=by
 have d:mst (k.getD 0 0)=k.getD 0 0:=eq_of_beq (eM a 0 ab);have e:bits .and .u64 (k.getD 9 0) 2730=k.getD 9 0:=eq_of_beq (eM a 9 ab);cases SF n h with
 | fixed b=>unfold cn;rw [if_pos b];exact a
 | st b =>subst b;show bE 22 (k.set 0 (iM (k.getD 0 0) 786722 x))=true;refine cR k hz a 0 ab _ ?_;show (mst (iM (k.getD 0 0) 786722 x)==iM (k.getD 0 0) 786722 x)=true;rw [Pn _ _ (hl 0) d];exact beq_self_eq_true _
 | ie b =>subst b;show bE 22 (k.set 3 (bz 3 (iM (k.getD 3 0) (k.getD 2 0) x)))=true;exact cR k hz a 3 ab _ (oL _ (ah _ _ _) 3 ab ab ab)
 | ip b =>subst b;show bE 22 (k.set 9 (iM (k.getD 9 0) (bits .and .u64 (k.getD 2 0) 2) x))=true;refine cR k hz a 9 ab _ ?_;show (bits .and .u64 (iM (k.getD 9 0) (bits .and .u64 (k.getD 2 0) 2) x) 2730==iM (k.getD 9 0) (bits .and .u64 (k.getD 2 0) 2) x)=true;rw [GU _ _ _ e (λi f c=>by rw [aw,Bool.and_eq_true] at c;exact VV i f c.2)];exact beq_self_eq_true _
 | own l g m p o=>rw [m];exact JD k hz hl a l g x hx
theorem jE (hl:∀ j,U (k.getD j 0)) (l:Nat) (v:Int) (hv:U v) (j:Nat):U ((k.set l v).getD j 0):=by
 by_cases e:l=j
 ·subst e;by_cases a:l<k.length;·rw [sn k l v a];exact hv
  ·rw [List.set_eq_of_length_le ab];exact hl l
 ·rw [jY k l j v e];exact hl j
theorem GV (h:U v):U (bz c v):=by
 unfold bz;split;·exact Q8 v
 ·split;·exact ah _ _ _
  ·split;·exact ah _ _ _
   ·split;·exact ah _ _ _
    ·split;·exact ah _ _ _
     ·split;·exact ah _ _ _
      ·split;·exact ah _ _ _
       ·split;·rw [dg];exact ah _ _ _
        ·split;·exact ah _ _ _
         ·exact h
theorem GW (hl:∀ j,U (k.getD j 0)) (n x:Int) (hx:U x) (j:Nat):U ((cn k n x).getD j 0):=by
 unfold cn;split;·exact hl j
 ·split;·exact jE k hl _ _ (ah _ _ _) j
  ·split;·exact jE k hl _ _ (GV _ _ (ah _ _ _)) j
   ·split;·exact jE k hl _ _ (ah _ _ _) j
    ·unfold fV;split;·exact jE k hl _ _ (ah _ _ _) j
     ·split
      ·split;·exact jE k hl _ _ hx j
       ·exact hl j
      ·split;·exact jE k hl _ _ (E5 k _ (GV _ _ hx) 4) j
       ·split
        ·split;·exact hl j
         ·exact jE k hl _ _ (GV _ _ hx) j
        ·exact jE k hl _ _ (GV _ _ hx) j
theorem Po (hl:∀ j,U (l.getD j 0)) (b:bE 22 l=true) (j:Nat) (k:17<=j) (i:j<=20):0<=l.getD j 0/\l.getD j 0<18014398509481984:=by
 have h:=eM b j ab;have c:=hl j;have e:bits .and .u64 (l.getD j 0) 18014398509481983=l.getD j 0:=by have a:j=17\/j=18\/j=19\/j=20:=ab;have d:(bits .and .u64 (l.getD j 0) 18014398509481983==l.getD j 0)=true:=(by rcases a with rfl|rfl|rfl|rfl<;>exact h);simpa using d
 have f:=cI (l.getD j 0) 54 c.1 c.2 ab;have g:(2:Int)^54-1=18014398509481983:=bc
 rw [g,e] at f;have p54:(2:Int)^54=18014398509481984:=bc
 rw [p54] at f;refine ⟨c.1,?_⟩;have:=Int.emod_lt_of_pos (l.getD j 0) (show (0:Int)<18014398509481984 by omega);omega
theorem Mg:∀ n k,fj c n k<=n+k:=by
 intro n;induction n with
 | zero=>intro k;show k<=0+k;omega
 | succ n b =>
   intro k;unfold fj;split;·have:=b (k+1);omega
   ·omega
theorem GX (hm:e<=54) (i:Nat) (a:i<64):bt (Uz.wrap (Uz.wrap (2^e)-1)) i=decide (i<e):=by
 have k:∀ e,e<=54->∀ i,i<64->bt (Uz.wrap (Uz.wrap (2^e)-1)) i=decide (i<e):=cb
 exact k e hm i a
theorem E9 (h:U c) (m:Nat) (hm:m<=54):bits .andNot .u64 c (Uz.wrap (Uz.wrap (2^m)-1))=c/2^m*2^m:=by
 have k:(0:Int)<2^m:=Int.pow_pos ab;have f:=mj c h m;have g:c/2^m*2^m<=c:=Int.ediv_mul_le _ ab;have a:0<=c/2^m*2^m:=Int.mul_nonneg f.1 ab;have j:Uz.wrap (c/2^m*2^m)=c/2^m*2^m:=by have:=h.2;rw [IntKind.wrap_u64];exact Int.emod_eq_of_lt a ab
 refine bF _ _ (ah _ _ _) ⟨a,by have:=h.2;omega⟩ λi e=>?_;rw [ay _ _ _ e,GX m hm i e,<- j,nu _ f,jA c h];by_cases b:m<=i;·have d:decide (i<m)=false:=decide_eq_false ab;rw [d,decide_eq_true b,decide_eq_true e,Nat.sub_add_cancel b];simp
 ·have d:decide (i<m)=true:=decide_eq_true ab;rw [d,decide_eq_false b];simp
theorem JE {w':World} {o:Obj} (h:(n.alloc o).grownBy w' (Value.slice (some ⟨n.heap.size,0,none⟩) 0 0).ownBlock):Bw n w':=by
 refine Below.grown (bal _ _) h ?_ ?_;·simp
 ·intro k a;simp [Value.ownBlock] at a;omega
theorem rj (h:U c) (i:Nat):ap c i=if bt c i=true then 1 else 0:=by
 have b:∀ i,i<64->∀ (p o:Bool),((if i=0 then p else o)&&bt 1 i)=bt (if p=true then 1 else 0) i:=cb
 unfold ap;have e:∀ y:Int,bits .and .u64 y 1=if bt y 0=true then 1 else 0:=by
  intro y;refine bF _ _ (ah _ _ _) (by split<;>(constructor<;>decide)) λj x=>?_;rw [aw,<- b j x (bt y 0) (bt y j)];by_cases a:j=0;·subst a;rfl
  ·rw [if_neg a]
 rw [e,jA c h,Nat.zero_add]
theorem Q9:∀ i,i<64->bt 64 i=decide (i=6):=by decide +kernel
theorem SG:∀ i,i<64->bt 128 i=decide (i=7):=by decide +kernel
theorem uE (a:g<64):bt (cF c v) g=(bt c g||decide (g=6)||((v==3)&&decide (g=7))):=by
 unfold cF;cases (v==3) with
 | true=>rw [if_pos rfl,cE,cE,Q9 g a,SG g a,Bool.true_and]
 | false=>rw [if_neg bc,cE,Q9 g a,Bool.false_and,Bool.or_false]
theorem jF (h:U c) (i:Nat) (e:i<64) (a:i≠6) (b:i≠7):ap (cF c v) i=ap c i:=by rw [rj _ (mC c v),rj _ h,uE c v i e];simp [a,b]
theorem Cl (h:U c) (k:Nat) (hk:8<=k):cF c v/2^k=c/2^k:=by
 refine bF _ _ (mj _ (mC c v) k) (mj _ h k) λi d=>?_;rw [jA _ (mC c v),jA _ h];by_cases a:i+k<64;·rw [uE c v _ a];have b:¬ i+k=6:=ab;have e:¬ i+k=7:=ab;simp [b,e]
 ·rw [uB _ _ ab,uB _ _ ab]
theorem JF (h:U c):cF (cF c v) v=cF c v:=by refine bF _ _ (mC _ _) (mC _ _) λi a=>?_;rw [uE _ v i a,uE c v i a];cases bt c i<;>cases decide (i=6)<;>cases ((v==3)&&decide (i=7))<;>rfl
theorem GY (h:U c):bits .and .u64 c 1=ap c 0:=by unfold ap;rw [Int.pow_zero,Int.ediv_one]
theorem Cm (h:U c):pL (cF c v)=pL c:=by unfold pL;rw [GY _ (mC c v),GY _ h,jF c v h 0 ab ab ab,jF c v h 1 ab ab ab,jF c v h 2 ab ab ab];have:=Cl c v h 54 ab;rw [show ((2:Int)^54)=18014398509481984 from rfl] at this;rw [this]
theorem Cn (h:U c):mz (cF c v)=mz c:=by unfold mz;rw [jF c v h 1 ab ab ab,jF c v h 3 ab ab ab]
theorem wj (h:U c):ew (cF c v)=ew c:=by unfold ew;have:=Cl c v h 10 ab;rw [show ((2:Int)^10)=1024 from rfl] at this;rw [this]
theorem gR:eu c≠0:=by unfold eu;split<;>(try split)<;>decide
theorem iy:dL c≠0:=by unfold dL;split<;>(try split)<;>decide
theorem rk (p va kind e x:Int) (lv:Nat) (h:(dp k p va kind e x lv).code=0): mA e lv=false/\gJ k kind e=false/\gK k p kind e=false/\(((cF e kind != e)=true/\aB k 1 x (bo x 8) 3 4 0=true/\dp k p va kind e x lv=⟨gE e va lv,0,true,x,cF e kind⟩)\/((cF e kind != e)=false/\dp k p va kind e x lv=⟨gE e va lv,0,false,0,0⟩)):=by
 unfold dp at h ⊢;cases a:mA e lv with
 | true=>rw [a,if_pos rfl] at h;exact absurd h (gR kind)
 | false =>
   rw [a,if_neg bc] at h;cases b:gJ k kind e with
   | true=>rw [b,if_pos rfl] at h;exact absurd h (gR kind)
   | false =>
     rw [b,if_neg bc] at h;cases c:gK k p kind e with
     | true=>rw [c,if_pos rfl] at h;exact absurd h (gR kind)
     | false =>
       rw [c,if_neg bc] at h;refine ⟨rfl,rfl,rfl,?_⟩;cases d:(cF e kind != e) with
       | true =>
         rw [d,if_pos rfl] at h;cases f:aB k 1 x (bo x 8) 3 4 0 with
         | true=>exact .inl ⟨rfl,rfl,rfl⟩
         | false=>rw [f,if_neg bc] at h;exact absurd h (iy kind)
       | false=>exact .inr ⟨rfl,rfl⟩
theorem wk (he:U t) (h:(dp k c v s t b g).code=0):dp k c v s (cF t s) b g=⟨gE t v g,0,false,0,0⟩:=by
 obtain ⟨a,x,p,_⟩:=rk k c v s t b g h;have d:mA (cF t s) g=false:=by unfold mA at a ⊢;rw [wj t s he];exact a
 have e2:gJ k s (cF t s)=false:=by unfold gJ at x ⊢;rw [jF t s he 1 ab ab ab,jF t s he 2 ab ab ab,jF t s he 3 ab ab ab];exact x
 have e3:gK k c s (cF t s)=false:=by unfold gK at p ⊢;rw [jF t s he 4 ab ab ab];exact p
 have e4:(cF (cF t s) s != cF t s)=false:=by rw [JF t s he];simp
 have e5:gE (cF t s) v g=gE t v g:=by unfold gE;rw [wj t s he]
 unfold dp;rw [d,e2,e3,e4,e5];rfl
theorem Ug (hz:∀ i,0<=k.getD i 0/\k.getD i 0<=255) (x:Int):U (fE k x):=uO k hz 8 _ ab
theorem Uh (a:c%8=0):bK c v g%8=0:=by unfold bK;generalize bits .and .u64 (v/2^(12+9*g)) 511=z;rw [IntKind.wrap_u64,IntKind.wrap_u64];omega
theorem Mh:Uz.wrap (c*4096)%8=0:=by rw [IntKind.wrap_u64];omega
theorem Co (hz:k.length=e) (x v:Int) (hx:gB e x 8=true) (hv:U v):fE (km k (x-2147483648).toNat v 8) x=v:=by have h:=zP hx;unfold fE;rw [Sd k _ 8 v ab];have:=hv.1;have:=hv.2;omega
theorem Pp (hx:gB e c 8=true) (hy:gB e v 8=true) (b:c%8=0) (x:v%8=0) (a:c≠v):fE (km k (c-2147483648).toNat s 8) v=fE k v:=by have h:=zP hx;have d:=zP hy;unfold fE;exact Ev k _ _ 8 s ab
theorem JG (hz:k.length=e) (hb:∀ i,0<=k.getD i 0/\k.getD i 0<=255) (l:List Int) (p va kind:Int):∀ a T,T%8=0->(bO k e l p va kind a T).code=0->(bO k e l p va kind a T).marked=true -> gB e (bO k e l p va kind a T).at_ 8=true/\(bO k e l p va kind a T).at_%8=0/\mz (fE k (bO k e l p va kind a T).at_)=false /\ bO (km k ((bO k e l p va kind a T).at_-2147483648).toNat (bO k e l p va kind a T).entry 8) e l p va kind a T=⟨(bO k e l p va kind a T).addr,0,false,0,0⟩:=by
 intro a;induction a with
 | zero =>
   intro T q b g;have E:=gL k e l p va kind 0 T;have f:=Uh T va 0 q;have m:=Ug k hb (bK T va 0);generalize w:bO k e l p va kind 0 T=W at *;cases c:gB e (bK T va 0) 8 with
   | false=>rw [c,if_neg bc] at E;subst E;exact absurd b (iy kind)
   | true =>
     rw [c,if_pos rfl] at E;cases h:aB l 1 (bK T va 0) (bo (bK T va 0) 8) 2 4 0 with
     | false=>rw [h,if_neg bc] at E;subst E;exact absurd b (iy kind)
     | true =>
       rw [h,if_pos rfl] at E;cases j:pL (fE k (bK T va 0)) with
       | true=>rw [j,if_pos rfl] at E;subst E;exact absurd b (gR kind)
       | false =>
         rw [j,if_neg bc] at E;cases d:mz (fE k (bK T va 0)) with
         | true =>have s:jk (fE k (bK T va 0)) 0=true:=rfl;rw [d,if_pos rfl,s,if_pos rfl] at E;subst E;exact absurd b (gR kind)
         | false =>
           rw [d,if_neg bc] at E;rw [E] at b g;obtain ⟨_,_,_,⟨_,_,zs⟩|⟨_,zs⟩⟩:=rk _ _ _ _ _ _ _ b;·rw [E,zs];refine ⟨c,f,d,?_⟩;rw [gL,c,if_pos rfl,h,if_pos rfl,Co k e hz _ _ c (mC _ _),Cm _ kind m,j,if_neg bc,Cn _ kind m,d,if_neg bc];exact wk _ _ _ _ _ _ _ m b
           ·rw [zs] at g;cases g
 | succ a y =>
   intro T q b g;have E:=gL k e l p va kind (a+1) T;have f:=Uh T va (a+1) q;have m:=Ug k hb (bK T va (a+1));rw [show a+1-1=a from rfl] at E;generalize w:bO k e l p va kind (a+1) T=W at *;cases c:gB e (bK T va (a+1)) 8 with
   | false=>rw [c,if_neg bc] at E;subst E;exact absurd b (iy kind)
   | true =>
     rw [c,if_pos rfl] at E;cases h:aB l 1 (bK T va (a+1)) (bo (bK T va (a+1)) 8) 2 4 0 with
     | false=>rw [h,if_neg bc] at E;subst E;exact absurd b (iy kind)
     | true =>
       rw [h,if_pos rfl] at E;cases j:pL (fE k (bK T va (a+1))) with
       | true=>rw [j,if_pos rfl] at E;subst E;exact absurd b (gR kind)
       | false =>
         rw [j,if_neg bc] at E;cases d:mz (fE k (bK T va (a+1))) with
         | true =>
           rw [d,if_pos rfl] at E;cases o:jk (fE k (bK T va (a+1))) (a+1) with
           | true=>rw [o,if_pos rfl] at E;subst E;exact absurd b (gR kind)
           | false =>rw [o,if_neg bc] at E;rw [E] at b g;obtain ⟨u,v,t,x⟩:=y _ (Mh _) b g;rw [E];refine ⟨u,v,t,?_⟩;have r:(bO k e l p va kind a (Uz.wrap (ew (fE k (bK T va (a+1)))*4096))).at_≠bK T va (a+1):=(by intro n;rw [n,d] at t;cases t);rw [gL _ _ _ _ _ _ (a+1),c,if_pos rfl,h,if_pos rfl,Pp k e _ _ _ u c v f r,j,if_neg bc,d,if_pos rfl,o,if_neg bc];exact x
         | false =>
           rw [d,if_neg bc] at E;rw [E] at b g;obtain ⟨_,_,_,⟨_,_,zs⟩|⟨_,zs⟩⟩:=rk _ _ _ _ _ _ _ b;·rw [E,zs];refine ⟨c,f,d,?_⟩;rw [gL,c,if_pos rfl,h,if_pos rfl,Co k e hz _ _ c (mC _ _),Cm _ kind m,j,if_neg bc,Cn _ kind m,d,if_neg bc];exact wk _ _ _ _ _ _ _ m b
           ·rw [zs] at g;cases g
theorem wm:∀ l T,l<=2 -> ((bO k e a c v s l T).code=0/\(∃ n zs,zs<=2/\(bO k e a c v s l T).addr=gE n v zs)/\((bO k e a c v s l T).marked=false->bO k e a c v s l T=⟨(bO k e a c v s l T).addr,0,false,0,0⟩)) \/ ((bO k e a c v s l T).code≠0/\(bO k e a c v s l T).addr=0/\(bO k e a c v s l T).marked=false):=by
 have p:∀ n x zs,zs<=2->((dp a c v s n x zs).code=0/\(∃ j i,i<=2/\(dp a c v s n x zs).addr=gE j v i)/\((dp a c v s n x zs).marked=false->dp a c v s n x zs=⟨(dp a c v s n x zs).addr,0,false,0,0⟩))\/((dp a c v s n x zs).code≠0/\(dp a c v s n x zs).addr=0/\(dp a c v s n x zs).marked=false):=by
  intro n x zs g;by_cases b:(dp a c v s n x zs).code=0
  ·obtain ⟨_,_,_,⟨_,_,f⟩ | ⟨_,f⟩⟩:=rk _ _ _ _ _ _ _ b;·rw [f];exact .inl ⟨rfl,⟨n,zs,g,rfl⟩,λh=>ni⟩
   ·rw [f];exact .inl ⟨rfl,⟨n,zs,g,rfl⟩,λ_=>rfl⟩
  ·refine .inr ⟨b,?_⟩;unfold dp at b ⊢;split;·exact ⟨rfl,rfl⟩
   ·rename_i m;rw [if_neg m] at b;split;·exact ⟨rfl,rfl⟩
    ·rename_i o;rw [if_neg o] at b;split;·exact ⟨rfl,rfl⟩
     ·rename_i q;rw [if_neg q] at b;split
      ·rename_i d;rw [if_pos d] at b;split;·rename_i r;rw [if_pos r] at b;exact absurd rfl b
       ·exact ⟨rfl,rfl⟩
      ·rename_i d;rw [if_neg d] at b;exact absurd rfl b
 intro l;induction l with
 | zero =>
   intro T _;rw [bO];split
   ·split
    ·split;·exact .inr ⟨gR s,rfl,rfl⟩
     ·split;·exact .inr ⟨gR s,rfl,rfl⟩
      ·exact p _ _ _ ab
    ·exact .inr ⟨iy s,rfl,rfl⟩
   ·exact .inr ⟨iy s,rfl,rfl⟩
 | succ l t =>
   intro T kind;rw [bO];split
   ·split
    ·split;·exact .inr ⟨gR s,rfl,rfl⟩
     ·split
      ·split;·exact .inr ⟨gR s,rfl,rfl⟩
       ·exact t _ ab
      ·exact p _ _ _ ab
    ·exact .inr ⟨iy s,rfl,rfl⟩
   ·exact .inr ⟨iy s,rfl,rfl⟩
theorem Pq:∀ i,i<64->bt 4095 i=decide (i<12):=by decide +kernel
theorem Mi (hk:g<=2):bits .and .u64 (gE c v g) 4095=bits .and .u64 v 4095:=by
 refine bF _ _ (ah _ _ _) (ah _ _ _) λi a=>?_;unfold gE Je;rw [aw,aw,cE,ay _ _ _ a,aw,GX _ ab i a,Pq i a];by_cases h:i<12;·have b:i<12+9*g:=ab;simp [h,b]
 ·simp [h]
theorem Fa (hz:k.length=e) (hb:∀ i,0<=k.getD i 0/\k.getD i 0<=255) (l:List Int) (p va kind:Int): ((ct k e l p va kind).code=0/\ct (bx k (ct k e l p va kind)) e l p va kind=⟨(ct k e l p va kind).addr,0,false,0,0⟩/\bits .and .u64 (ct k e l p va kind).addr 4095=bits .and .u64 va 4095) \/ ((ct k e l p va kind).code≠0/\(ct k e l p va kind).addr=0/\(ct k e l p va kind).marked=false):=by
 have E:∀ c,ct c e l p va kind=if ((p==3)||(l.getD 15 0/1152921504606846976==0))=true then ⟨va,0,false,0,0⟩ else if (au 39 va != va)=true then bW kind else bO c e l p va kind 2 (kW l):=λc=>rfl
 rw [E k];cases f:((p==3)||(l.getD 15 0/1152921504606846976==0)) with
 | true =>rw [if_pos rfl];refine .inl ⟨rfl,?_,rfl⟩;rw [E,f,if_pos rfl]
 | false =>
   rw [if_neg bc];cases g:(au 39 va != va) with
   | true=>rw [if_pos rfl];exact .inr ⟨gR kind,rfl,rfl⟩
   | false =>
     rw [if_neg bc];rcases wm k e l p va kind 2 (kW l) ab with ⟨d,⟨n,zs,o,m⟩,b⟩|h
     ·refine .inl ⟨d,?_,by rw [m];exact Mi n va zs o⟩;rw [E,f,if_neg bc,g,if_neg bc];cases a:(bO k e l p va kind 2 (kW l)).marked with
      | true =>have j:kW l%8=0:=Mh _;obtain ⟨_,_,_,q⟩:=JG k e hz hb l p va kind 2 (kW l) j d a;unfold bx;rw [a,if_pos rfl];exact q
      | false =>unfold bx;rw [a,if_neg bc];exact b a
     ·exact .inr h
structure MW (M:MV):Prop where
 cs:∀ j,U (M.cs.getD j 0)
 ram:∀ y ∈ M.ram,(Lit.int .u8 y).wf=true
 xs:∀ y ∈ M.d.xs,(Lit.int .u8 y).wf=true
 ys:∀ y ∈ M.d.ys,(Lit.int .u8 y).wf=true
theorem GZ (h:(Lit.int .u8 w).wf=true):0<=w/\w<=255:=by simpa [Lit.wf,IntKind.min,IntKind.max,IntKind.signed,IntKind.bits] using h
theorem Mj {y:Int} (h:0<=y/\y<=255):(Lit.int .u8 y).wf=true:=by simpa [Lit.wf,IntKind.min,IntKind.max,IntKind.signed,IntKind.bits] using h
theorem Ml (h:∀ y ∈ k,(Lit.int .u8 y).wf=true) (f:Nat) (x:Int) (zs:Nat):∀ y ∈ km k f x zs,(Lit.int .u8 y).wf=true:=λy a=>Mj (Ky k (λz b=>GZ (h z b)) f x zs y a)
theorem Ai (h:∀ y ∈ k,(Lit.int .u8 y).wf=true) (F:Fd):∀ y ∈ bx k F,(Lit.int .u8 y).wf=true:=by
 unfold bx;split;·exact Ml k h _ _ _
 ·exact h
theorem aI {M:MV} (h:dI M=true):M.cs.length=22/\bE 22 M.cs=true/\bZ M.pr=true/\bf M.ram.length=true/\nY M.d.xs.length M.d.ys.length M.d.ir=true/\lK M=true:=by unfold dI at h;simp only [Bool.and_eq_true] at h;obtain ⟨⟨⟨⟨⟨⟨_,_⟩,c⟩,d⟩,e⟩,_⟩,f⟩:=h;have a:=qR c;have b:=c;unfold bn at b;rw [Bool.and_eq_true] at b;rw [a] at b;exact ⟨a,b.1,b.2,d,e,f⟩
theorem Ui (h:U c):c/2048%4=(if bt c 11=true then 1 else 0)+2*(if bt c 12=true then 1 else 0):=by
 have b:ap c 11=c/2^11%2^1:=by have a:=mj c h 11;exact cI (c/2^11) 1 a.1 a.2 ab
 have e2:ap c 12=c/2^12%2^1:=by have a:=mj c h 12;exact cI (c/2^12) 1 a.1 a.2 ab
 have s:=rj c h 11;have d:=rj c h 12;rw [<- s,<- d,b,e2];omega
theorem Cp (a:U c) (s:fI 0 c=true):bZ (wrap64 (bits .and .u64 (c/2048) 3))=true:=by
 have g:mst c=c:=by unfold fI bz at s;simpa using s
 have b:=((sm _ a).1 g).2;have d:=mj c a 11;have f:=cI (c/2^11) 2 d.1 d.2 ab;have e:bits .and .u64 (c/2048) 3=c/2048%4:=f;rw [e,Ui c a];revert b;cases bt c 11<;>cases bt c 12<;>intro b;·decide +kernel
 ·cases b
 ·decide +kernel
 ·decide +kernel
theorem wo (c:U (l.getD 0 0)) (a:bE 22 l=true) (d:bZ w=true) (kind:Int):bZ (gc l w kind)=true:=by
 unfold gc;split;·have b:fI 0 (l.getD 0 0)=true:=(by unfold bE fz at a;simp only [Bool.and_eq_true] at a;exact a.2.1);exact Cp _ c b
 ·exact d
theorem uF (h:U v):U (ct k e a c v s).addr:=by
 unfold ct;split;·exact h
 ·split;·exact ⟨by show (0:Int)<=0;omega,by show (0:Int)<_;omega⟩
  ·rcases wm k e a c v s 2 (kW a) ab with ⟨_,⟨n,zs,_,l⟩,_⟩|⟨_,l,_⟩;·rw [l];exact ah _ _ _
   ·rw [l];exact ⟨ab,ab⟩
theorem Fb (a:1<=v) (b:v<=8):bo c v=Uz.wrap (Uz.wrap (c+v)-1):=by unfold bo;rw [show Uz.wrap v=v by rw [IntKind.wrap_u64];omega]
theorem fx (hz:a.length=e) (hs:Sl .u64 f p a) (hl:∀ j,U (a.getD j 0)): CB 78 #[.slice p e y,.i c] f (.bool (bn e a c)):=by
 have w:Hid (CB 72 #[.slice p e y] f (.bool (bE e a))):=by have:=lL p e y a f hz hs hl;rw [yH e a hl] at this;exact this
 have g:Hid (∀ f,CE 125 #[.i c] f (.bool (bZ c))):=vY c;have F:Hid (bn e a c=(bE e a&&bZ c)):=(rfl:bn e a c=_);clear hs hz hl;generalize bE e a=q at *;generalize bZ c=r at *;cases q with
 | false =>go_enter func78,ntmps78;go_wp2_with fail;refine w.out.mono ?_;rintro n m ⟨rfl,l⟩;go_wp2_with fail;go_ret;exact ⟨bh,l⟩
 | true =>go_enter func78,ntmps78;go_wp2_with fail;refine w.out.mono ?_;rintro n m ⟨rfl,l⟩;go_wp2_with fail;refine (g.out _).mono ?_;rintro n o ⟨rfl,d⟩;subst d;go_wp2_with fail;go_ret;exact ⟨bh,l⟩
theorem Ps (c:Nat) (x:List Int) (w:World) (hx:x.length=e) (hs:Sl .u64 w p x): CE 77 #[.slice p e c] w (.bool (gv e x)):=by
 by_cases h:e=32;·subst h;obtain ⟨b,f,rfl,m,g⟩:=hs 0 ab;have F:Hid (gv 32 x=(x.getD 0 0==0)):=(by show _=_;unfold gv;simp);have j:w.cell? ⟨b,f,none⟩=some (.u (x.getD 0 0)):=g;generalize gv 32 x=V at *;generalize x.getD 0 0=y at *;clear hs hx g;go_enter func77,ntmps77;exact a03
 ·have F:Hid (gv e x=false):=(by show _=_;unfold gv;rw [decide_eq_false h];rfl);have d:((e:Int)==32)=false:=bv;generalize gv e x=V at *;clear hs hx h;go_enter func77,ntmps77;exact a03
theorem Fc:Calls prog 76 #[.u c,.i 0,.i 2] f λe b=>e=.returned (.u (bits .and .u64 c 3))/\b=f.drew:=by
 go_enter func76,ntmps76;go_wp2_with fail;go_region;all_goals go_wp2_with fail
 all_goals go_ret
 all_goals exact ⟨rfl,rfl⟩
theorem yN (D:DV) (a1:Option Addr) (c1:Nat) (a2:Option Addr) (c2:Nat) (w:World) (b:D.xs.length<=1048576) (c:D.ys.length<=1048576):CB 81 #[.agg #[.u D.t,.u D.cm,.bool D.so,.slice a1 D.xs.length c1,.slice a2 D.ys.length c2,.i D.ir]] w (.u (i7 D)):=by have g:Hid (∀ w,CB 126 #[.agg #[.u D.t,.u D.cm,.bool D.so,.slice a1 D.xs.length c1,.slice a2 D.ys.length c2,.i D.ir]] w (.u (i7 D))):=λw=>xF D a1 c1 a2 c2 w b c;have j:∀ o,Bw w (w.alloc o):=λo=>(Below.refl _ _).alloc (Nat.le_refl _) o;generalize i7 D=v at *;clear b c;go_enter func81,ntmps81;go_wp2_with fail;refine (g.out _).mono ?_;rintro e l ⟨rfl,d⟩;go_wp2_with fail;go_ret;exact ⟨rfl,aa (j _) d⟩
theorem hH (M:MV) (A:MA) (w:World) (hl:jR M) (hs:nR w M A) (R:∀ j,U (M.cs.getD j 0)):CB 29 #[.agg (aj M A)] w (.bool (dI M)):=by
 have s:=λW (_:Bw w W)=>(Fc M.pc W).mono λe w'' ⟨T,V⟩=>And.intro T (show Bw W w'' by rw [V];exact (Below.refl _ _).drew);have z:=λW g=>Ps A.ax M.x.length A.cx _ W rfl (hs.x.below g);have y:=λW g=>fx A.ac M.cs.length A.cc _ M.pr W rfl (hs.cs.below g) R;have P:=λW (_:Bw w W)=>fs A.ar M.ram.length A.cr W hl.ram;have O:=λW (_:Bw w W)=>kf M.d.t M.d.cm M.d.so A.ai M.d.xs.length A.ci A.ao M.d.ys.length A.co M.d.ir W hl.xs hl.ys;have Q:=λW (_:Bw w W)=>yN M.d A.ai A.ci A.ao A.co W hl.xs hl.ys;have u:dI M=((bits .and .u64 M.pc 3==0)&&gv M.x.length M.x&&bn M.cs.length M.cs M.pr&&bf M.ram.length&&nY M.d.xs.length M.d.ys.length M.d.ir&&(M.hl||(M.hd==0))&&(bits .and .u64 (M.cs.getD 9 0) 2184==i7 M.d)):=by unfold dI lK i7;cases nY M.d.xs.length M.d.ys.length M.d.ir<;>simp
 rw [u];clear u;generalize i7 M.d=X at *;generalize r:(bits .and .u64 M.pc 3==0)=p;generalize gv M.x.length M.x=q at *;generalize K:bn M.cs.length M.cs M.pr=B at *;generalize bf M.ram.length=C at *;generalize nY M.d.xs.length M.d.ys.length M.d.ir=D at *;generalize L:(M.hd==0)=E;generalize N:(bits .and .u64 (M.cs.getD 9 0) 2184==X)=F;cases B with
 | false =>
   refine bC (S:=Bs w [(aj M A,32)]) [(aj M A,32)] func29 ?_;cases p;case' true=>cases q
   all_goals exact bm (t:=2) (v:=.bool false) Bs.eng {eq:=[(6,ak r)],cv:=[(5,fQ s),(10,mI z),(17,fQ y)]} 300 (Bs.start _ _) (λn h=>⟨cp,h.2⟩)
 | true =>
   have J:=qR K;obtain ⟨H,I,f,i,k⟩:=hs.cs 9 ab;obtain ⟨pc,x,m,b,a,d,l,c,o⟩:=M;dsimp only at *;refine bC (S:=Bs w [(aj ⟨pc,x,m,b,a,d,l,c,o⟩ A,32)]) [(aj ⟨pc,x,m,b,a,d,l,c,o⟩ A,32)] func29 ?_;have G:∀ W,Bs w [(aj ⟨pc,x,m,b,a,d,l,c,o⟩ A,32)] W->W.cell? ⟨H,I+9,none⟩=some (.u (b.getD 9 0)):=λW h=>(h.2.cell (by exact i)).trans k;cases p;case' true =>cases q;case' true =>cases C;case' true =>cases D;case' true=>cases c<;>cases E<;>cases F
   all_goals exact bm (t:=2) (v:=.bool _) Bs.eng {eq:=[(6,ak r),(35,ak L),(47,ak N)],ov:=[(41,kF b.length A.cc .i64 9 f ab underlying23 ba),(42,iL _ _ underlying22 rfl G)],cv:=[(5,fQ s),(10,mI z),(17,fQ y),(22,mI P),(27,fQ O),(46,fQ Q)]} 300 (Bs.start _ _) (λn h=>⟨rfl,h.2⟩)
end Go.Proofs.YtfagphfjfhpmjaaGreatDoor
