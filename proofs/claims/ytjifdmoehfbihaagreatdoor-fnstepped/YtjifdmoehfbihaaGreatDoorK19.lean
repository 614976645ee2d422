/- Own lemmas. -/
import Derived.Test.YtjifdmoehfbihaaGreatDoorAut
import Derived.Test.YtjifdmoehfbihaaGreatDoorK18
set_option maxRecDepth 100000
set_option maxHeartbeats 1600000
namespace Go.Proofs.YtjifdmoehfbihaaGreatDoor
open Go.RowKit Tryz
set_option linter.unusedVariables false
structure Vw where
 at_:Int
 num:Int
 rd:Int
 wr:Int
 ok:Bool
def Vw.cells (v:Vw):Array Value:=#[.i v.num,.u v.rd,.u v.wr]
def cU (n m:Int):Nat->Nat->Vw
 | 0,_=>⟨-1,0,0,0,false⟩
 | f+1,k=>if ((fS k).1==n)=true then ⟨k,n,18446744073709551615,18446744073709551615,true⟩
   else if ((fS k).2.sees&&(nu (fS k).2==n))=true then ⟨k,nu (fS k).2,u2 m (fS k).2,u5 m (fS k).2,true⟩ else cU n m f (k+1)
theorem IB (n m:Int) (k:Nat) (hk:k<22) (r:Int × CK) (hr:r=fS k) (h:(r.1==n)=true):cU n m (22-k) k=⟨k,n,18446744073709551615,18446744073709551615,true⟩:=by subst hr;rw [show 22-k=(22-(k+1))+1 from ab,cU,if_pos h]
theorem D5 (n m:Int) (k:Nat) (hk:k<22) (r:Int × CK) (hr:r=fS k) (h:(r.1==n)=false) (a:r.2.sees=true) (b:(nu r.2==n)=true):cU n m (22-k) k=⟨k,nu r.2,u2 m r.2,u5 m r.2,true⟩:=by subst hr;rw [show 22-k=(22-(k+1))+1 from ab,cU,if_neg (by rw [h];decide),a,b];rfl
theorem uZ7 (n m:Int) (k:Nat) (hk:k<22) (r:Int × CK) (hr:r=fS k) (h:(r.1==n)=false) (a:(r.2.sees&&(nu r.2==n))=false):cU n m (22-k) k=cU n m (22-(k+1)) (k+1):=by subst hr;rw [show 22-k=(22-(k+1))+1 from ab,cU,if_neg (by rw [h];decide),a,if_neg bb]
theorem D6 (k:CK) (hk:k.sees=true) (w:World):(method 425 k.ty k.val "loop.example/g00134/impl.view").run prog w=.ok (k.viewF,k.val) w:=by cases k<;>first | (cases hk;done) | kernel_rfl
theorem Bl (k:CK) (hk:k.sees=true):(prog.funcs[k.viewF]?).map (λa=>(a.name == "runtime.NumGoroutine",a.body.isSome))=some (false,true):=by cases k<;>first | (cases hk;done) | kernel_rfl
theorem KL (k:CK) (hk:k.sees=true) (a:TypeId) (w:World):(Instr.typeAssert (.iface k.ty k.val) a 290 true).run prog w=.ok (.tuple #[.iface k.ty k.val,.bool true]) w:=by cases k<;>first | (cases hk;done) | exact run_typeAssert_hasB underlying290 al _ a w
theorem D7 (k:CK) (hk:k.sees=false) (a:TypeId) (w:World):(Instr.typeAssert (.iface k.ty k.val) a 290 true).run prog w=.ok (.tuple #[.nilIface,.bool false]) w:=by cases k<;>first | (cases hk;done) | exact run_typeAssert_lacksB underlying290 al al _ a w
theorem oo {P:Program} {fn:Func} {s p u:Tmp} {ty:TypeId} (h:fn.results=#[.tmp s,.cell p ty,.tmp u]) (tmps:Array Value) (w:World) (g:Nat) (t:TypeId) (cs:Array Value) (e:Nat × Nat) (d:TypeDesc) (k:tmps.getD p undef=.p g 0) (i:w.heap[g]?=some (.cells cs t e)) (l:P.underlying ty=some d) (hd:(match d with | .struct _ | .array _ _=>true | _=>false)=true) (j:(P.info? ty).map (·.size)=some cs.size):(results fn tmps).run P w=.ok (.tuple #[tmps.getD s undef,.agg cs,tmps.getD u undef]) w:=by
 have f:(results fn tmps).run P w=((asAddr (tmps.getD p undef)).run P w).andThen λa b=>((loadVar ty a).run P b).andThen λv c=>.ok (.tuple #[tmps.getD s undef,v,tmps.getD u undef]) c:=by simp only [results,h];simp [Sem.run_bind,Result.andThen]
 rw [f,k];simp [asAddr,run_loadVar_row w g t ty cs e d i l hd j]
theorem na {w:World} {g:Nat} {cs:Array Value} {t:TypeId} {a:Nat × Nat} (h:w.heap[g]?=some (.cells cs t a)) (i:Nat) (v:Value):(w.setCell ⟨g,i,none⟩ v).heap[g]?=some (.cells (cs.setIfInBounds i v) t a):=by simp [World.setCell,Array.getElem?_modify,h]
theorem qu:(prog.info? 280).map (·.size)=some 3:=by kernel_rfl
theorem KM (a b c:Int):(#[Value.int .i64 a,.u b,.u c]:Array Value).all (·.oneCell')=true:=by simp [Value.oneCell']
theorem vb (n m:Int) (w:World):CB 245 #[.i n,.u m] w (.tuple #[.i (cU n m 22 0).at_,.agg (cU n m 22 0).cells,.bool (cU n m 22 0).ok]):=by
 obtain ⟨V,U⟩:∃ V,V=cU n m 22 0:=⟨_,rfl⟩;rw [<- U];obtain ⟨p,l⟩:∃ p,p=w.alloc (.cells #[.i 0,.u 0,.u 0] 280):=⟨_,rfl⟩;have HW0:Hid (p=w.alloc (.cells #[.i 0,.u 0,.u 0] 280)):=l;have W:Hid (cU n m (22-0) 0=V):=U.symm;have J:p.heap[w.heap.size]?=some (.cells #[.i 0,.u 0,.u 0] 280 (0,0)):=by rw [l];exact heap_alloc_new _ _
 have B:Hid (p.heap[w.heap.size]?=some (.cells #[.i 0,.u 0,.u 0] 280 (0,0))):=J;have c:w.heap.size<p.heap.size:=by rw [l];simp
 have t:Hid (Bw w p):=by show Below _ _ _;rw [l];exact bal _ _
 clear U J;go_enter func245,ntmps245;go_wp2_with fail;rw [<- l];clear l;refine (oP _).mono ?_;rintro e w1 ⟨T,rfl,Q,hb⟩;go_wp2_with fail;go_loopw [13] (λi wr=>∃ k:Nat,k<=22/\i=.i k/\Hid (cU n m (22-k) k=V)/\Bw p wr)
  (λi _=>22-(intOf i).toNat)
 case atStart=>exact ⟨0,ab,rfl,W,hb⟩
 case round =>
  obtain ⟨k,hk,rfl,I,b⟩:=hrel;by_cases j:k<22
  ·obtain ⟨r,hr⟩:∃ r,r=fS k:=⟨_,rfl⟩;have HR:Hid (r=fS k):=hr;clear hr;have dk:decide ((k:Int)<22)=true:=bh;have g:wr.heap[w.heap.size]?=some (.cells #[.i 0,.u 0,.u 0] 280 (0,0)):=(by rw [b.block _ c];exact B.out);cases N:(r.1==n) with
   | true =>have F:Hid (V=⟨k,n,18446744073709551615,18446744073709551615,true⟩):=I.out.symm.trans (IB n m k j r HR.out N);have y:∀ o,(wr.alloc o).heap[w.heap.size]?=some (.cells #[.i 0,.u 0,.u 0] 280 (0,0)):=(by intro o;rw [((Below.refl wr.heap.size wr).alloc (Nat.le_refl _) o).block _ (Nat.lt_of_lt_of_le c b.size)];exact g);have q:Hid (∀ o,(wr.alloc o).heap[w.heap.size]?=some (.cells #[.i 0,.u 0,.u 0] 280 (0,0))):=y;clear g y;go_wp2_with (first | refine gK Q .i64 k j r HR rfl (.tmp 12) (.tmp 13) rfl rfl rfl ?_ | (refine wpList_store_rowTo rfl 280 (.tmp 5) (.tmp 23) rfl rfl w.heap.size #[.i n,.u 18446744073709551615,.u 18446744073709551615] rfl rfl 280 _ (q.out _) qu rfl (KM _ _ _) ?_));refine bodyPost_ret (oo results245 _ _ w.heap.size _ _ _ _ rfl (setRow_heap _ _ _ _ _ _ (q.out _)) underlying280 rfl qu) rfl ⟨bc,?_⟩;exact aE (Below.alloc (aa t.out b) (aa t.out b).size _) (Nat.le_refl _) _
   | false =>
     cases u:r.2.sees with
     | false =>
       have F:Hid (cU n m (22-(k+1)) (k+1)=V):=(uZ7 n m k j r HR.out N (by rw [u];rfl)).symm.trans I.out;have hla:=D7 r.2 u;clear g;go_wp2_with (first | refine gK Q .i64 k j r HR rfl (.tmp 12) (.tmp 13) rfl rfl rfl ?_);go_roundw;case rel=>exact ⟨k+1,ab,by go_num,F,b.alloc b.size _⟩
       case measure=>simp [intOf];omega
     | true =>
       have X:=KL r.2 u;have mf:=D6 r.2 u;have en:=qt (Bl r.2 u);clear g;go_wp2_with (first | refine gK Q .i64 k j r HR rfl (.tmp 12) (.tmp 13) rfl rfl rfl ?_);refine (KK r.2 u m _).mono ?_;rintro e d ⟨rfl,H⟩;have M:Bw p d:=aa (b.alloc b.size _) H;have A:Hid (Bw p d):=M;have C:d.heap[w.heap.size]?=some (.cells #[.i 0,.u 0,.u 0] 280 (0,0)):=(by rw [M.block _ c];exact B.out);have z:w.heap.size<d.heap.size:=Nat.lt_of_lt_of_le c M.size;have f:Hid (d.heap[w.heap.size]?=some (.cells #[.i 0,.u 0,.u 0] 280 (0,0))):=C;have K:∀ o,(d.alloc o).heap[w.heap.size]?=some (.cells #[.i 0,.u 0,.u 0] 280 (0,0)):=(by intro o;rw [((Below.refl d.heap.size d).alloc (Nat.le_refl _) o).block _ z];exact C);have HG3:Hid (∀ o,(d.alloc o).heap[w.heap.size]?=some (.cells #[.i 0,.u 0,.u 0] 280 (0,0))):=K;have vn:Hid (r.1==n)=Hid (r.1==n):=rfl;obtain ⟨G,s⟩:∃ v,nu r.2=v:=⟨_,rfl⟩;obtain ⟨O,D⟩:∃ v,u2 m r.2=v:=⟨_,rfl⟩;obtain ⟨P,E⟩:∃ v,u5 m r.2=v:=⟨_,rfl⟩;have R:Hid ((G==n)=false->Hid (cU n m (22-(k+1)) (k+1)=V)):=λh=>(uZ7 n m k j r HR.out N (by rw [u,s,h];rfl)).symm.trans I.out;have S:Hid ((G==n)=true->Hid (V=⟨k,G,O,P,true⟩)):=λh=>I.out.symm.trans (by rw [D5 n m k j r HR.out N u (by rw [s];exact h),s,D,E]);rw [s,D,E];clear vn s D E C K M H mf en X;cases d3:(G==n) with
       | false =>
         have F:=R.out d3;clear R S;go_wp2_with fail;go_roundw;case rel=>exact ⟨k+1,ab,by go_num,F,A.out.alloc A.out.size _⟩
         case measure=>simp [intOf];omega
       | true =>
         have F:=S.out d3;clear R S;have c0:d.cell? ⟨w.heap.size,0,none⟩=some (.i 0):=cell_of_row _ _ _ _ _ _ f.out;have c1:d.cell? ⟨w.heap.size,1,none⟩=some (.u 0):=cell_of_row _ _ _ _ _ _ f.out;have c2:d.cell? ⟨w.heap.size,2,none⟩=some (.u 0):=cell_of_row _ _ _ _ _ _ f.out;have f0:d.frozen? ⟨w.heap.size,0,none⟩=false:=frozen_of_row _ _ _ _ _ f.out;have f1:d.frozen? ⟨w.heap.size,1,none⟩=false:=frozen_of_row _ _ _ _ _ f.out;have f2:d.frozen? ⟨w.heap.size,2,none⟩=false:=frozen_of_row _ _ _ _ _ f.out;go_wp2_with fail;go_region;all_goals go_wp2_with fail
         have L:((((d.setCell ⟨w.heap.size,0,none⟩ (.i G)).setCell ⟨w.heap.size,1,none⟩ (.u O)).setCell ⟨w.heap.size,2,none⟩ (.u P)).alloc (.cells #[.i G,.u O,.u P] 280)).drew.heap[w.heap.size]?=some (.cells #[.i G,.u O,.u P] 280 (0,0)):=(by show (World.alloc _ _).heap[w.heap.size]?=_;rw [(bal _ _).block _ (by simpa [World.setCell] using z)];exact na (na (na f.out 0 _) 1 _) 2 _);refine bodyPost_ret (oo results245 _ _ w.heap.size _ _ _ _ rfl L underlying280 rfl qu) rfl ⟨bc,?_⟩;have Z:=aa t.out A.out;refine Below.drew (Below.alloc (((Z.setCell (Nat.le_refl _) _).setCell (Nat.le_refl _) _).setCell (Nat.le_refl _) _) ?_ _);simpa [World.setCell] using Z.size
  ·have Y:k=22:=ab;subst Y;have F:Hid (V=⟨-1,0,0,0,false⟩):=I.out.symm;have g:wr.heap[w.heap.size]?=some (.cells #[.i 0,.u 0,.u 0] 280 (0,0)):=(by rw [b.block _ c];exact B.out);have q:Hid (wr.heap[w.heap.size]?=some (.cells #[.i 0,.u 0,.u 0] 280 (0,0))):=g;clear g;go_wp2_with (first | (refine wpList_store_rowTo rfl 280 (.tmp 5) (.tmp 41) rfl rfl w.heap.size #[.i 0,.u 0,.u 0] rfl rfl 280 _ q.out qu rfl (KM _ _ _) ?_));refine bodyPost_ret (oo results245 _ _ w.heap.size _ _ _ _ rfl (setRow_heap _ _ _ _ _ _ q.out) underlying280 rfl qu) rfl ⟨bc,?_⟩;exact aE (aa t.out b) (Nat.le_refl _) _
def CK.goodB:CK->Bool
 | .addr e=>decide (e<4) | _=>true
theorem Ou:∀ k,k<22->(fS k).2.goodB=true:=by decide
theorem IC (k:CK) (hk:k.holds=true) (f:k.goodB=true) (a:Option Addr) (cap:Nat) (l:List Int) (x:Int) (w:World) (hz:l.length=22) (hs:Sl .u64 w a l) (hl:∀ j,0<=l.getD j 0/\l.getD j 0<18446744073709551616) (c:0<=x) (d:x<18446744073709551616):CB k.staysF #[k.val,.slice a 22 cap,.u x] w (.u (jm (l.getD 16 0) k x)):=by
 cases k with
 | plain b=>cases hk
 | mst=>cases hk
 | mie=>cases hk
 | mip=>exact Iy a cap x w
 | satp=>exact DX a cap _ x c d w
 | cfg=>exact Iz a cap l x w hz hs hl
 | addr e=>exact DY e (by simpa [CK.goodB] using f) a cap l x w hz hs hl
theorem Bm (k:CK) (hk:k.holds=true) (w:World):(method 425 k.ty k.val "loop.example/g00134/impl.stays").run prog w=.ok (k.staysF,k.val) w:=by cases k<;>first | (cases hk;done) | kernel_rfl
theorem zn (k:CK) (hk:k.holds=true):(prog.funcs[k.staysF]?).map (λa=>(a.name == "runtime.NumGoroutine",a.body.isSome))=some (false,true):=by cases k<;>first | (cases hk;done) | kernel_rfl
theorem ID (k:CK) (hk:k.holds=true) (a:TypeId) (w:World):(Instr.typeAssert (.iface k.ty k.val) a 294 true).run prog w=.ok (.tuple #[.iface k.ty k.val,.bool true]) w:=by cases k<;>first | (cases hk;done) | exact run_typeAssert_hasB underlying294 al _ a w
theorem Bn (k:CK) (hk:k.holds=false) (a:TypeId) (w:World):(Instr.typeAssert (.iface k.ty k.val) a 294 true).run prog w=.ok (.tuple #[.nilIface,.bool false]) w:=by cases k<;>first | (cases hk;done) | exact run_typeAssert_lacksB underlying294 al al _ a w
def lw (c:Int) (k:CK) (wr x:Int):Int:=if k.holds=true then bits .andNot .u64 wr (jm c k x) else wr
def kC (l:List Int) (k:Nat) (wr x:Int):Int :=
 bits .or .u64 (bits .andNot .u64 (l.getD k 0) (lw (l.getD 16 0) (fS k).2 wr x)) (bits .and .u64 (gV (fS k).2 x) (lw (l.getD 16 0) (fS k).2 wr x))
theorem vd (k:CK) (x:Int) (c:0<=x) (d:x<18446744073709551616) (w:World) (p:Addr) (u:Value) (b:w.cell? p=some u) :
 Calls prog k.fitF #[k.val,.u x] w λe a=>e=.returned (.u (gV k x))/\Bw w a/\a.cell? p=some u :=
 (FY k x c d w).mono λe a h=>⟨h.1,h.2,(h.2.cell (World.block_lt_of_cell? _ _ b)).trans b⟩
theorem D9 (n:Int) (t:TypeId) (v:Value) (w:World):(Instr.field 126 (.agg #[.i n,.iface t v]) 1).run prog w=.ok (.iface t v) w:=by kernel_rfl
theorem Ea (a:Option Addr) (cap:Nat) (l:List Int) (k:Nat) (hk:k<22) (wr x:Int) (w:World) (hz:l.length=22) (hs:Sl .u64 w a l) (hl:∀ j,0<=l.getD j 0/\l.getD j 0<18446744073709551616) (D:0<=x) (E:x<18446744073709551616):CB 248 #[.slice a 22 cap,.i k,.u wr,.u x] w (.u (kC l k wr x)):=by
 have g:kC l k wr x=bits .or .u64 (bits .andNot .u64 (l.getD k 0) (lw (l.getD 16 0) (fS k).2 wr x)) (bits .and .u64 (gV (fS k).2 x) (lw (l.getD 16 0) (fS k).2 wr x)):=rfl;have z:=Ou k hk;have I:=hs k ab;have m:Hid (∀ (K:CK),K.holds=true->K.goodB=true->∀ w,Sl .u64 w a l->CB K.staysF #[K.val,.slice a 22 cap,.u x] w (.u (jm (l.getD 16 0) K x))):=λK S U w hs=>IC K S U a cap l x w hz hs hl D E;have Q:Hid (Sl .u64 w a l):=hs;obtain ⟨r,L⟩:∃ r,r=fS k:=⟨_,rfl⟩;have HR:Hid (r=fS k):=L;rw [<- L] at g z;obtain ⟨b,c,rfl,u,O⟩:=I;generalize l.getD k 0=y at *;have X:(0:Int)<=(k:Int):=ab
 have Y:(k:Int)<22:=ab
 have mf:=xR r.2;have en:=qt (u6 r.2);have V:=D9 r.1 r.2.ty r.2.val;clear L hz hl hs;cases d:r.2.holds with
 | false =>have q:lw (l.getD 16 0) r.2 wr x=wr:=(by simp [lw,d]);rw [q] at g;have F:Hid (kC l k wr x=bits .or .u64 (bits .andNot .u64 y wr) (bits .and .u64 (gV r.2 x) wr)):=g;clear g q m;have Z:=Bn r.2 d;go_enter func248,ntmps248;go_wp2_with fail;refine (oP _).mono ?_;rintro e w1 ⟨T,rfl,C,t⟩;have H:w1.cell? ⟨b,c+k,none⟩=some (.u y):=(t.cell (by exact u)).trans O;go_wp2_with (first | refine gK C .i64 k hk r HR rfl (.tmp 12) (.tmp 13) rfl rfl rfl ?_);go_region_held3 (λf=>f.cell? ⟨b,c+k,none⟩=some (.u y)) (go_keep) (first | (refine (vd r.2 x D E _ ⟨b,c+k,none⟩ (.u y) ?_).mono ?_;(first | assumption | (simp [*]));rintro e w2 ⟨rfl,o,J⟩));go_wp2_with fail;go_ret;exact ⟨bc,aa (w1:=w1.drew) t.drew o⟩
 | true =>obtain ⟨A,p⟩:∃ A,jm (l.getD 16 0) r.2 x=A:=⟨_,rfl⟩;have q:lw (l.getD 16 0) r.2 wr x=bits .andNot .u64 wr A:=(by unfold lw;rw [if_pos d,p]);rw [q] at g;obtain ⟨B,M⟩:∃ B,bits .andNot .u64 wr A=B:=⟨_,rfl⟩;rw [M] at g;have F:Hid (kC l k wr x=bits .or .u64 (bits .andNot .u64 y B) (bits .and .u64 (gV r.2 x) B)):=g;have s:Hid (∀ w,Sl .u64 w (some ⟨b,c,none⟩) l->CB r.2.staysF #[r.2.val,.slice (some ⟨b,c,none⟩) 22 cap,.u x] w (.u A)):=(by rw [<- p];exact m.out r.2 d z);clear g q m p;have W:=ID r.2 d;have mf2:=Bm r.2 d;have R:=qt (zn r.2 d);go_enter func248,ntmps248;go_wp2_with fail;refine (oP _).mono ?_;rintro e w1 ⟨T,rfl,C,t⟩;go_wp2_with (first | refine gK C .i64 k hk r HR rfl (.tmp 12) (.tmp 13) rfl rfl rfl ?_);refine (s.out _ (Q.out.below t)).mono ?_;rintro e P ⟨rfl,G⟩;have N:=aa t G;have H:P.cell? ⟨b,c+k,none⟩=some (.u y):=(N.cell (by exact u)).trans O;go_wp2_with fail;go_region_held3 (λf=>f.cell? ⟨b,c+k,none⟩=some (.u y)) (go_keep) (first | (refine (vd r.2 x D E _ ⟨b,c+k,none⟩ (.u y) ?_).mono ?_;(first | assumption | (simp [*]));rintro e w2 ⟨rfl,o,J⟩));go_wp2_with fail;go_ret;exact ⟨bc,aa (w1:=P.drew) N.drew o⟩
theorem ve (p:Int) (w:World):CE 109 #[.i p] w (.bool (bC p)):=by
 have F:Hid (bC p=((p==0)||(p==1)||(p==3))):=(rfl:bC p=_);cases b:(p==0) with
 | true =>rw [b] at F;exact a0b
 | false =>
   cases c:(p==1) with
   | true =>rw [b,c] at F;exact a0b
   | false =>rw [b,c] at F;exact a0b
def nf (n p:Int):Bool:=bC p&&decide (bits .and .i64 (n/256) 3<=p)
theorem qw (n p:Int) (w:World):CE 244 #[.i n,.i p] w (.bool (nf n p)):=by
 have d:Hid (∀ w,CE 109 #[.i p] w (.bool (bC p))):=ve p;have F:Hid (nf n p=(bC p&&decide (bits .and .i64 (n/256) 3<=p))):=(rfl:nf n p=_);generalize bC p=q at *;cases q with
 | false =>go_enter func244,ntmps244;go_wp2_with fail;refine (d.out _).mono ?_;rintro e f ⟨rfl,b⟩;exact a02
 | true =>go_enter func244,ntmps244;go_wp2_with fail;refine (d.out _).mono ?_;rintro e f ⟨rfl,b⟩;exact a02
def sH (n:Int):Bool:=(bits .and .i64 (n/1024) 3==3)
theorem zo (n:Int) (w:World):CE 247 #[.i n] w (.bool (sH n)):=by have F:Hid (sH n=(bits .and .i64 (n/1024) 3==3)):=(rfl:sH n=_);go_enter func247,ntmps247;exact yn
def vf (n:Int):Bool:=(n==769)||(n==3860)
def wV (n:Int):Int:=if n=769 then 9223372036856090881 else 0
theorem qx (n:Int) (w:World):CE 246 #[.i n] w (.tuple #[.u (wV n),.bool (vf n)]):=by
 by_cases b:n=769;·subst b;go_enter func246,ntmps246;go_wp2_with fail;go_ret2;exact a06
 ·by_cases c:n=3860;·subst c;go_enter func246,ntmps246;go_wp2_with fail;go_ret2;exact ⟨rfl,rfl⟩
  ·have f:(n==769)=false:=kd;have g:(n==3860)=false:=i5;have F:Hid (wV n=0/\vf n=false):=⟨by simp [wV,b],by simp [vf,b,c]⟩;clear b c;go_enter func246,ntmps246;go_wp2_with fail;go_ret2;exact ⟨by rw [F.out.1,F.out.2];rfl,rfl⟩
theorem qy (w:World) (base:Nat):w.ownsRow base 22 1 (.slice none 0 0) 0 (([]:List Int).map (Value.int .u64)):=⟨rfl,.inl ⟨rfl,rfl⟩⟩
theorem nv (w:World):Calls prog 221 #[] w λe o=>e=.returned (.slice (some ⟨w.heap.size,0,none⟩) 22 22) /\ o.ownsRow w.heap.size 22 1 (.slice (some ⟨w.heap.size,0,none⟩) 22 22) 22 ((List.replicate 22 (0:Int)).map (Value.int .u64))/\Bw w o:=by
 obtain ⟨m,p,j,l,d⟩:=info_parts An;have f:m.bytes*22<=281474976710656:=by rw [d];omega
 have g:22<=maxLen:=by unfold maxLen;omega
 clear d;go_enter func221,ntmps221;go_wp2_with (at_make;refine wpList_make_full _ rfl (.const (.i 22)) (.const (.i 22)) 23 rfl w.heap.size 22 m (.u 0) 1 underlying23 p j l .i64 .i64 _ _ 22 rfl rfl rfl rfl f g (Nat.le_refl _) ?_;intro q c b);go_ret;refine ⟨rfl,?_,(Below.refl _ _).grown b (Nat.le_refl _) ta⟩;have e:(List.replicate 22 (0:Int)).map (Value.int .u64)=List.replicate 22 (.u 0):=cp
 rw [e,<- toList_madeCells_one];simpa [Value.cells] using c
theorem Bo (n m:Int):∀ f k,k+f<=22->(cU n m f k).ok=true->∃ j:Nat,j<22/\(cU n m f k).at_=(j:Int):=by
 intro f;induction f with
 | zero=>intro k _ h;cases h
 | succ f a =>
   intro k b;unfold cU;split;·intro _;exact ⟨k,ab,rfl⟩
   ·split;·intro _;exact ⟨k,ab,rfl⟩
    ·exact a (k+1) ab
def Eb (m:Nat) (l:List Int) (n p:Int):Bool:=jK m l&&nf n p
def rA (m:Nat) (l:List Int) (n p:Int):Bool:=Eb m l n p&&((cU n (l.getD 2 0) 22 0).ok||vf n)
def vg (m:Nat) (l:List Int) (n p:Int):Int :=
 if Eb m l n p=true then (if (cU n (l.getD 2 0) 22 0).ok=true then bits .and .u64 (l.getD (cU n (l.getD 2 0) 22 0).at_.toNat 0) (cU n (l.getD 2 0) 22 0).rd else wV n) else 0
theorem vh {m:Nat} {l:List Int} (h:jK m l=true):m=22:=by simp only [jK,Bool.and_eq_true,decide_eq_true_eq] at h;exact h.1
theorem tu (a:Option Addr) (m cap:Nat) (l:List Int) (n p:Int) (w:World) (hz:l.length=m) (hs:Sl .u64 w a l) (hl:∀ j,0<=l.getD j 0/\l.getD j 0<18446744073709551616):CB 215 #[.slice a m cap,.i n,.i p] w (.tuple #[.u (vg m l n p),.bool (rA m l n p)]):=by
 have q:=λW (J:Bw w W)=>lu a m cap l W hz (hs.below J) hl;have v:=qw n p;refine bz (S:=Bs w []) (args:=[.slice a m cap,.i n,.i p]) [] func215 ?_;unfold vg rA Eb;generalize nf n p=M at *;cases i:jK m l<;>rw [i] at q;case' true=>cases M
 case true.true =>
  have L:=vh i;subst L;have G:=qx n;have x:=vb n (l.getD 2 0);have f:=Bo n (l.getD 2 0) 22 0 ab;obtain ⟨b,c,rfl,d,H⟩:=hs 2 ab;generalize cU n (l.getD 2 0) 22 0=V at *;generalize l.getD 2 0=u at *;generalize wV n=Q at *;generalize vf n=P at *;obtain ⟨X,C,D,E,N⟩:=V;simp only [Vw.cells] at x f;refine ae Bs.eng {ov:=[(24,iR ⟨b,c+2,none⟩ (.u u) underlying22 rfl λW h=>(h.2.cell (by exact d)).trans H)],cv:=[(12,fW q),(17,mM λW _=>v W),(25,fW λW _=>x W)]} 60 (Bs.start _ _) λW h=>?_;refine dU 1 (dW (T:=280) (z:=.agg #[.i 0,.u 0,.u 0]) al W) ?_;refine cw (R:=[]) trivial {} 9 (aG (g:=W.heap.size) (t:=280) (ty:=280) (cells:=#[.i C,.u D,.u E]) (heap_alloc_new _ _) al rfl al) ?_;refine aH (R1 w W.heap.size #[.i C,.u D,.u E] 280) ?_;cases N;case true =>obtain ⟨k,U,r⟩:=f rfl;subst r;obtain ⟨O,B,e,K,I⟩:=hs k ab;cases e;rw [Int.toNat_natCast];generalize l.getD k 0=y at *;exact eC (t:=6) (s:=7) R1.eng {ov:=[(37,kN (a:=some ⟨b,c,none⟩) (b:=b) (o:=c) 22 cap .i64 (k:Int) rfl ⟨ab,ab⟩ underlying23 al),(38,iR ⟨b,c+(k:Int).toNat,none⟩ (.u y) underlying22 rfl λW h=>(h.2.cell (by exact d)).trans I)]} 60 (R1.new h.2) (λA h=>⟨rfl,h.2⟩)
  exact eC (t:=6) (s:=7) R1.eng {cv:=[(32,jy R1.below λW _=>(G W).mono λe F h=>⟨h.1,by rw [h.2];exact Below.refl _ _⟩)]} 60 (R1.new h.2) (λA h=>⟨rfl,h.2⟩)
 all_goals exact eC (t:=6) (s:=7) Bs.eng {cv:=[(12,fW q),(17,mM λW _=>v W)]} 60 (Bs.start _ _) (λA h=>⟨rfl,h.2⟩)
def oQ (m:Nat) (l:List Int) (n p:Int):Bool:=Eb m l n p&&!sH n&&((cU n (l.getD 2 0) 22 0).ok||vf n)
def ng (l:List Int) (n x:Int):List Int :=
 if (cU n (l.getD 2 0) 22 0).ok=true then l.set (cU n (l.getD 2 0) 22 0).at_.toNat (kC l (cU n (l.getD 2 0) 22 0).at_.toNat (cU n (l.getD 2 0) 22 0).wr x) else l
def nh (m:Nat) (l:List Int) (n p x:Int):List Int:=if oQ m l n p=true then ng l n x else []
theorem FZ {w:World} {base g n:Nat} {t:TypeId} {l:List Int} (hb:base<=g) (hz:l.length=n) (hn:n<=maxLen) (h:w.heap[g]?=some (.cells (l.map (Value.int .u64)).toArray t (0,0))):w.ownsRow base t 1 (.slice (some ⟨g,0,none⟩) n n) n (l.map (Value.int .u64)):=
 ⟨tt,.inr ⟨g,n,_,rfl,hb,h,Nat.le_refl _,hn,tt,by subst hz;simp [List.take_of_length_le]⟩⟩
theorem rB (a:Option Addr) (m cap:Nat) (l:List Int) (n p x:Int) (w:World) (hz:l.length=m) (hs:Sl .u64 w a l) (hl:∀ j,0<=l.getD j 0/\l.getD j 0<18446744073709551616) (h0:0<=x) (h1:x<18446744073709551616):Calls prog 216 #[.slice a m cap,.i n,.i p,.u x] w λe w'=>∃ (a':Option Addr) (c:Nat),e=.returned (.tuple #[.slice a' (nh m l n p x).length c,.bool (oQ m l n p)]) /\ w'.ownsRow w.heap.size 22 1 (.slice a' (nh m l n p x).length c) (nh m l n p x).length ((nh m l n p x).map (Value.int .u64))/\Bw w w':=by
 have J:=λW (H:Bw w W)=>lu a m cap l W hz (hs.below H) hl
 have Q:=qw n p
 have U:=zo n
 refine bz (S:=Bs w []) (args:=[.slice a m cap,.i n,.i p,.u x]) [] func216 ?_
 have F:oQ m l n p=(jK m l&&nf n p&&!sH n&&((cU n (l.getD 2 0) 22 0).ok||vf n)):=rfl
 have I:ng l n x=if (cU n (l.getD 2 0) 22 0).ok=true then l.set (cU n (l.getD 2 0) 22 0).at_.toNat (kC l (cU n (l.getD 2 0) 22 0).at_.toNat (cU n (l.getD 2 0) 22 0).wr x) else l:=rfl
 unfold nh
 generalize nf n p=re at *
 generalize sH n=on at *
 generalize oQ m l n p=wb at *
 generalize ng l n x=L at *
 cases D:jK m l<;>rw [D] at J F
 case' true=>cases re;case' true=>cases on
 case true.true.false =>
  have hm:=vh D
  subst hm
  have HF:=qx n
  have Z:=vb n (l.getD 2 0)
  have C:=Bo n (l.getD 2 0) 22 0 ab
  obtain ⟨b,r,rfl,N,c2⟩:=hs 2 ab
  generalize cU n (l.getD 2 0) 22 0=V at *
  generalize l.getD 2 0=O at *
  generalize wV n=fv at *
  generalize vf n=G at *
  obtain ⟨va,A,B,d,E⟩:=V
  simp only [Vw.cells] at Z C F I
  refine ae Bs.eng {ov:=[(33,iR ⟨b,r+2,none⟩ (.u O) underlying22 rfl λW h=>(h.2.cell (by exact N)).trans c2)],cv:=[(17,fW J),(22,mM λW _=>Q W),(27,mM λW _=>U W),(34,fW λW _=>Z W)]} 60 (Bs.start _ _) λW h=>?_
  refine dU 1 (dW (T:=280) (z:=.agg #[.i 0,.u 0,.u 0]) al W) ?_
  refine cw (R:=[]) trivial {} 9 (aG (g:=W.heap.size) (t:=280) (ty:=280) (cells:=#[.i A,.u B,.u d]) (heap_alloc_new _ _) al rfl al) ?_
  refine aH (R1 w W.heap.size #[.i A,.u B,.u d] 280) ?_
  have hF:∀ X,R1 w W.heap.size #[.i A,.u B,.u d] 280 X->_:=λX _=>(HF X).mono λe w' (h:_/\w'=X)=>(⟨h.1,by rw [h.2];exact Below.refl _ _⟩:_/\Bw X w')
  have ho:wb=(E||G):=F
  subst ho
  obtain rfl|⟨rfl,rfl⟩|⟨rfl,rfl⟩:E=true\/(E=false/\G=true)\/E=false/\G=false:=by cases E<;>cases G<;>simp
  case inr.inr=>exact eC (t:=8) (s:=9) R1.eng {cv:=[(40,jy R1.below hF)]} 60 (R1.new h.2) (λK h=>⟨none,0,rfl,qy _ _,h.2⟩)
  all_goals
   refine ae R1.eng {cv:=[(40,jy R1.below hF)]} 60 (R1.new h.2) λX f=>?_
   refine dU 1 (s:=do pure (.value (<- Instr.makeSlice 23 (.i 22) (.i 22)))) (v:=.slice (some ⟨X.heap.size,0,none⟩) 22 22) (w':=X.alloc (.cells (Array.replicate 22 (.u 0)) 22)) al ?_
   have H:=f.2.alloc f.2.size (.cells (Array.replicate 22 (.u 0)) 22)
   refine nQ (R:=[]) trivial {} 30 0 (s:=do pure (.value (<- Builtin.copy_ #[23,23] 3 #[.slice (some ⟨X.heap.size,0,none⟩) 22 22,.slice (some ⟨b,r,none⟩) 22 cap]))) (v:=goInt (l.map (Value.int .u64)).length) (w':=(X.alloc (.cells (Array.replicate 22 (.u 0)) 22)).setRow X.heap.size (l.map (Value.int .u64)).toArray) ?_ ?_
   ·have hc:=run_copy_row (P:=prog) _ 23 23 3 22 X.heap.size 0 22 22 ⟨b,r,none⟩ 22 cap _ _ (l.map (Value.int .u64)) underlying23 al (heap_alloc_new X (.cells (Array.replicate 22 (.u 0)) 22)) tt (λj v h=>by
     rw [List.getElem?_map] at h
     obtain ⟨y,hy,rfl⟩:=Option.map_eq_some_iff.1 h
     obtain ⟨b',o',e,_,c⟩:=hs.below H j (List.getElem?_eq_some_iff.1 hy).1
     cases e
     rw [yz,c,List.getD,hy];rfl) tt (λv h=>by obtain ⟨y,_,rfl⟩:=List.mem_map.1 h;rfl)
    simp only [List.take_zero,List.nil_append,Nat.zero_add,List.length_map,hz,Array.toList_replicate,List.drop_replicate,Nat.sub_self,List.replicate_zero,List.append_nil] at hc ⊢
    simp [hc,Result.andThen]
   have h2:R2 w W.heap.size #[.i A,.u B,.u d] 280 X.heap.size (l.map (Value.int .u64)).toArray 22 ((X.alloc (.cells (Array.replicate 22 (.u 0)) 22)).setRow X.heap.size (l.map (Value.int .u64)).toArray):=by
    have hx:=(Array.getElem?_eq_some_iff.1 f.1).1
    exact ⟨⟨(setRow_other _ _ _ _ ab).trans ((Below.heap_alloc X _ _ hx).trans f.1),bm H f.2.size _⟩,setRow_heap _ _ _ _ _ _ (heap_alloc_new _ _)⟩
   refine aH (R2 w W.heap.size #[.i A,.u B,.u d] 280 X.heap.size (l.map (Value.int .u64)).toArray 22) ?_
  case inr.inl =>
   have e:L=l:=I
   rw [e]
   exact eC (t:=8) (s:=9) (v:=.slice (some ⟨X.heap.size,0,none⟩) 22 22) (u:=.bool true) R2.eng {} 60 h2 (λK h=>⟨_,22,by show _=Ending.returned (.tuple #[.slice _ l.length 22,.bool true]);rw [hz],by show World.ownsRow _ _ _ _ (.slice _ l.length 22) l.length (l.map _);rw [hz];exact FZ f.2.size hz bb h.2,h.1.2⟩)
  obtain ⟨k,hk,rfl⟩:=C rfl
  have HB:=λY (h:R2 w W.heap.size #[.i A,.u B,.u d] 280 X.heap.size (l.map (Value.int .u64)).toArray 22 Y)=>Ea _ cap l k hk d x Y hz (hs.below h.1.2) hl h0 h1
  have e:L=l.set k (kC l k d x):=I
  rw [e]
  generalize kC l k d x=y at *
  refine ae R2.eng {ov:=[(62,kN (a:=some ⟨X.heap.size,0,none⟩) (b:=X.heap.size) (o:=0) 22 22 .i64 (k:Int) rfl ⟨ab,ab⟩ underlying23 al)],cv:=[(61,jy R2.below HB)]} 60 h2 λY M=>?_
  refine bJ (bE (i:=0+(k:Int).toNat) (T:=22) (v:=.u y) M.2 (by simp [hz];omega) al rfl) ?_
  have hr:=jF (j:=0+(k:Int).toNat) M.2 (.u y)
  have er:((l.map (Value.int .u64)).toArray.set! (0+(k:Int).toNat) (.u y))=((l.set k y).map (Value.int .u64)).toArray:=by simp [List.map_set]
  rw [er] at hr
  refine aH (R1 w X.heap.size ((l.set k y).map (Value.int .u64)).toArray 22) ?_
  have q:(l.set k y).length=22:=by rw [List.length_set,hz]
  exact eC (t:=8) (s:=9) (v:=.slice (some ⟨X.heap.size,0,none⟩) 22 22) (u:=.bool true) R1.eng {} 60 ⟨hr,M.1.2.setCell f.2.size _⟩ (λK h=>⟨_,22,by show _=Ending.returned (.tuple #[.slice _ (l.set k y).length 22,.bool true]);rw [q],by show World.ownsRow _ _ _ _ (.slice _ (l.set k y).length 22) (l.set k y).length ((l.set k y).map _);rw [q];exact FZ f.2.size q bb h.1,h.2⟩)
 all_goals
  obtain rfl:wb=false:=F
  exact eC (t:=8) (s:=9) Bs.eng {cv:=[(17,fW J),(22,mM λW _=>Q W),(27,mM λW _=>U W)]} 60 (Bs.start _ _) (λK h=>⟨none,0,rfl,qy _ _,h.2⟩)
theorem Tg:∀ i,i<64->∀ (p q:Bool) (o:Bool),(((if i=0 then p else if i=1 then q else o)&&bt 924074 (i+11))&&bt 3 i)=bt ((if p=true then 1 else 0)+(if q=true then 2 else 0)) i:=by decide +kernel
theorem Qh:∀ i,i<64->∀ (p q:Bool) (o:Bool),((if i=11 then p else if i=12 then q else o)&&bt 6144 i)=bt ((if p=true then 2048 else 0)+(if q=true then 4096 else 0)) i:=by decide +kernel
theorem KN (x:Int) (h:U x):gV .mst x=mst x:=by
 have e:bits .and .u64 (bits .and .u64 x 924074/2048) 3=(if bt x 11=true then 1 else 0)+(if bt x 12=true then 2 else 0):=by
  refine br _ _ (af _ _ _) i3 λi c=>?_;have d:=jl (bits .and .u64 x 924074) (af _ _ _) 11 i;rw [show ((2:Int)^11)=2048 from bb] at d;rw [au,d,au,<- Tg i c (bt x 11) (bt x 12) (bt x (i+11))];by_cases a:i=0;·subst a;rfl
  ·by_cases b:i=1;·subst b;rfl
   ·rw [if_neg a,if_neg b]
 have e2:bits .and .u64 x 6144=(if bt x 11=true then 2048 else 0)+(if bt x 12=true then 4096 else 0):=by
  refine br _ _ (af _ _ _) i3 λi c=>?_;rw [au,<- Qh i c (bt x 11) (bt x 12) (bt x i)];by_cases a:i=11;·subst a;rfl
  ·by_cases b:i=12;·subst b;rfl
   ·rw [if_neg a,if_neg b]
 show (if (bits .and .u64 x 6144==4096)=true then bits .andNot .u64 (bits .and .u64 x 924074) 6144 else bits .and .u64 x 924074)=mst x;unfold mst;rw [e,e2];cases bt x 11<;>cases bt x 12<;>rfl
theorem Uj:∀ i,i<64->∀ a:Bool,(a&&bt 18446744073709551613 i)=(a&&!bt 2 i):=by decide +kernel
theorem Uk:∀ i,i<64->∀ a:Bool,(a&&bt 18446744073709551612 i)=(a&&!bt 3 i):=by decide +kernel
theorem zp:∀ i,i<64->bt 18446744073709551615 i=true:=by decide +kernel
theorem Rb:∀ i,i<64->∀ a:Bool,((decide (i<8)&&a)&&bt 159 i)=(a&&bt 159 i):=by decide +kernel
theorem Th (x:Int):bits .and .u64 x 18446744073709551613=bits .andNot .u64 x 2 :=
 br _ _ (af _ _ _) (af _ _ _) λi a=>by rw [au,aw _ _ _ a];exact Uj i a _
theorem Rd (x:Int):bits .and .u64 x 18446744073709551612=bits .andNot .u64 x 3 :=
 br _ _ (af _ _ _) (af _ _ _) λi a=>by rw [au,aw _ _ _ a];exact Uk i a _
theorem oR (x:Int) (h:U x):bits .and .u64 x 18446744073709551615=x :=
 br _ _ (af _ _ _) h λi a=>by rw [au,zp i a,Bool.and_true]
theorem Ow (x:Int) (h:U x) (k:Nat):Bj x k=je x k:=by
 have e:bits .and .u64 (cQ x (8*k) 8) 159=bits .and .u64 (x/2^(8*k)) 159 :=
  br _ _ (af _ _ _) (af _ _ _) λi a=>by
   rw [au,au,ks x h _ _ _ ab,jl x h];exact Rb i a _
 unfold Bj je;rw [e]
theorem KO (x:Int) (h:U x) (k:Nat):px x k=cT x k:=by
 induction k with
 | zero=>rfl
 | succ k a=>rw [px,cT,a,Ow x h]
theorem xS (x:Int) (h:U x) (k:Nat) (hk:k<22) (b:k≠9) (a:k≠15):gV (fS k).2 x=bo k x:=by
 have:k=0\/k=1\/k=2\/k=3\/k=4\/k=5\/k=6\/k=7\/k=8\/k=10\/k=11\/k=12\/k=13\/k=14\/k=16\/k=17\/k=18\/k=19\/k=20\/k=21:=ab
 rcases this with rfl|rfl|rfl|rfl|rfl|rfl|rfl|rfl|rfl|rfl|rfl|rfl|rfl|rfl|rfl|rfl|rfl|rfl|rfl|rfl;·exact KN x h
 ·rfl
 ·rfl
 ·rfl
 ·exact Th x
 ·exact oR x h
 ·exact Rd x
 ·rfl
 ·exact oR x h
 ·exact Th x
 ·exact oR x h
 ·exact Rd x
 ·rfl
 ·exact oR x h
 ·exact KO x h 4
 ·rfl
 ·rfl
 ·rfl
 ·rfl
 ·exact oR x h
theorem F4 (x:Int) (h:U x):hH x=((x/1152921504606846976==0)||(x/1152921504606846976==8)):=by
 have e:cQ x 60 4=x/1152921504606846976:=by unfold cQ;rw [show ((2:Int)^60)=1152921504606846976 from bb,show ((2:Int)^4)=16 from bb];have:=h.1;have:=h.2;omega
 unfold hH;rw [e]
theorem Re (x:Int) (h:U x) (k:Nat) (hk:k<22):(gV (fS k).2 x==x)=fy k x:=by
 by_cases b:k=9;·subst b;rfl
 ·by_cases a:k=15
  ·subst a;show (gV .satp x==x)=((x/1152921504606846976==0)||(x/1152921504606846976==8));rw [<- F4 x h];show ((if hH x=true then x else 0)==x)=hH x;cases c:hH x with
   | true=>simp
   | false =>have d:x≠0:=(by rintro rfl;revert c;decide);simp only [Bool.false_eq_true,if_false,beq_eq_false_iff_ne];exact λh=>d h.symm
  ·rw [xS x h k hk b a];unfold fy;rw [if_neg b,if_neg a]
theorem Bp (l:List Int) (hl:∀ j,U (l.getD j 0)):∀ n k,k+n<=22->dA l n k=fl l n k:=by
 intro n;induction n with
 | zero=>intro k _;rfl
 | succ n a =>intro k b;rw [dA,fl,Re _ (hl k) k ab,a (k+1) ab]
theorem xU (m:Nat) (l:List Int) (hl:∀ j,U (l.getD j 0)):jK m l=bq m l:=by unfold jK bq;rw [Bp l hl 22 0 ab]
def nums:List Int:=[768,770,771,772,773,832,833,834,835,836,261,320,321,322,323,384,928,944,945,946,947,2818,256,260,324]
theorem Ox:∀ k,k<22->(fS k).1 ∈ nums:=by decide
theorem KP:∀ k,k<22->dM.getD k 0 ∈ nums:=by decide
theorem ly (n m:Int) (h:n ∉ nums):∀ f k,k+f<=22->cU n m f k=⟨-1,0,0,0,false⟩:=by
 intro f;induction f with
 | zero=>intro k _;rfl
 | succ f c =>
   intro k g;have a:((fS k).1==n)=false:=(by rw [beq_eq_false_iff_ne];intro e;exact h (e ▸ Ox k ab));have b:((fS k).2.sees&&(nu (fS k).2==n))=false:=by cases d:(fS k).2<;>first | rfl | (simp only [CK.sees,nu,Bool.true_and,beq_eq_false_iff_ne];intro e;apply h;rw [<- e];decide)
   rw [cU,if_neg (by rw [a];decide),if_neg (by rw [b];decide)];exact c (k+1) ab
theorem zq (n:Int) (h:n ∉ nums):∀ f k,k+f<=22->dX n f k=-1:=by
 intro f;induction f with
 | zero=>intro k _;rfl
 | succ f b =>intro k c;have a:(dM.getD k 0==n)=false:=(by rw [beq_eq_false_iff_ne];intro e;exact h (e ▸ KP k ab));rw [dX,if_neg (by rw [a];decide)];exact b (k+1) ab
theorem sI (n:Int) (h:n ∉ nums):cK n=-1:=by unfold cK;rw [if_neg (λe=>h (by rw [e];decide)),if_neg (λe=>h (by rw [e];decide)),if_neg (λe=>h (by rw [e];decide))];exact zq n h 22 0 ab
theorem jL (n:Int) (h:n ∈ nums):n=768\/n=770\/n=771\/n=772\/n=773\/n=832\/n=833\/n=834\/n=835\/n=836\/n=261\/n=320\/n=321\/n=322\/n=323\/n=384\/n=928\/n=944\/n=945\/n=946\/n=947\/n=2818\/n=256\/n=260\/n=324:=by simpa [nums] using h
theorem Bq (n m:Int):((cU n m 22 0).ok||vf n)=dj n:=by
 by_cases h:n ∈ nums;·rcases jL n h with rfl|rfl|rfl|rfl|rfl|rfl|rfl|rfl|rfl|rfl|rfl|rfl|rfl|rfl|rfl|rfl|rfl|rfl|rfl|rfl|rfl|rfl|rfl|rfl|rfl<;>rfl
 ·rw [ly n m h 22 0 ab];unfold dj vf;rw [sI n h];cases (n==769)<;>cases (n==3860)<;>rfl
end Go.Proofs.YtjifdmoehfbihaaGreatDoor
