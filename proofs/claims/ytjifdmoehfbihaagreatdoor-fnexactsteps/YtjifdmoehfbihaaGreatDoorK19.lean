/- Own lemmas. -/
import Derived.Test.YtjifdmoehfbihaaGreatDoorAut
import Derived.Test.YtjifdmoehfbihaaGreatDoorK18
set_option maxRecDepth 100000
set_option maxHeartbeats 3200000
namespace Go.Proofs.YtjifdmoehfbihaaGreatDoor
open Go.RowKit Tryz
set_option linter.unusedVariables false
structure Vw where
 at_:Int
 num:Int
 rd:Int
 wr:Int
 ok:Bool
def Vw.cells (v:Vw):Array Value:=#[.i v.num,.u v.rd,.u v.wr]
def bP (n m:Int):Nat->Nat->Vw
 | 0,_=>⟨-1,0,0,0,false⟩
 | f+1,k=>if ((fC k).1==n)=true then ⟨k,n,18446744073709551615,18446744073709551615,true⟩
   else if ((fC k).2.sees&&(mU (fC k).2==n))=true then ⟨k,mU (fC k).2,tN m (fC k).2,tO m (fC k).2,true⟩ else bP n m f (k+1)
theorem F6 (n m:Int) (k:Nat) (hk:k<22) (r:Int × CK) (hr:r=fC k) (h:(r.1==n)=true):bP n m (22-k) k=⟨k,n,18446744073709551615,18446744073709551615,true⟩:=by subst hr;rw [show 22-k=(22-(k+1))+1 from al,bP,if_pos h]
theorem CF (n m:Int) (k:Nat) (hk:k<22) (r:Int × CK) (hr:r=fC k) (h:(r.1==n)=false) (a:r.2.sees=true) (b:(mU r.2==n)=true):bP n m (22-k) k=⟨k,mU r.2,tN m r.2,tO m r.2,true⟩:=by subst hr;rw [show 22-k=(22-(k+1))+1 from al,bP,if_neg (by rw [h];decide),a,b];rfl
theorem tQ (n m:Int) (k:Nat) (hk:k<22) (r:Int × CK) (hr:r=fC k) (h:(r.1==n)=false) (a:(r.2.sees&&(mU r.2==n))=false):bP n m (22-k) k=bP n m (22-(k+1)) (k+1):=by subst hr;rw [show 22-k=(22-(k+1))+1 from al,bP,if_neg (by rw [h];decide),a,if_neg a5]
theorem CG (k:CK) (hk:k.sees=true) (w:World):(method 425 k.ty k.val "loop.example/g00134/impl.view").run prog w=.ok (k.viewF,k.val) w:=by cases k<;>first | (cases hk;done) | kernel_rfl
theorem zZ (k:CK) (hk:k.sees=true):(prog.funcs[k.viewF]?).map (λa=>(a.name == "runtime.NumGoroutine",a.body.isSome))=some (false,true):=by cases k<;>first | (cases hk;done) | kernel_rfl
theorem IW (k:CK) (hk:k.sees=true) (a:TypeId) (w:World):(Instr.typeAssert (.iface k.ty k.val) a 290 true).run prog w=.ok (.tuple #[.iface k.ty k.val,.bool true]) w:=by cases k<;>first | (cases hk;done) | exact run_typeAssert_hasB underlying290 a3 _ a w
theorem CH (k:CK) (hk:k.sees=false) (a:TypeId) (w:World):(Instr.typeAssert (.iface k.ty k.val) a 290 true).run prog w=.ok (.tuple #[.nilIface,.bool false]) w:=by cases k<;>first | (cases hk;done) | exact run_typeAssert_lacksB underlying290 a3 a3 _ a w
theorem nQ {P:Program} {fn:Func} {s p u:Tmp} {ty:TypeId} (h:fn.results=#[.tmp s,.cell p ty,.tmp u]) (tmps:Array Value) (w:World) (g:Nat) (t:TypeId) (cs:Array Value) (e:Nat × Nat) (d:TypeDesc) (k:tmps.getD p undef=.p g 0) (i:w.heap[g]?=some (.cells cs t e)) (l:P.underlying ty=some d) (hd:(match d with | .struct _ | .array _ _=>true | _=>false)=true) (j:(P.info? ty).map (·.size)=some cs.size):(results fn tmps).run P w=.ok (.tuple #[tmps.getD s undef,.agg cs,tmps.getD u undef]) w:=by
 have f:(results fn tmps).run P w=((asAddr (tmps.getD p undef)).run P w).andThen λa b=>((loadVar ty a).run P b).andThen λv c=>.ok (.tuple #[tmps.getD s undef,v,tmps.getD u undef]) c:=by simp only [results,h];simp [Sem.run_bind,Result.andThen]
 rw [f,k];simp [asAddr,run_loadVar_row w g t ty cs e d i l hd j]
theorem mJ {w:World} {g:Nat} {cs:Array Value} {t:TypeId} {a:Nat × Nat} (h:w.heap[g]?=some (.cells cs t a)) (i:Nat) (v:Value):(w.setCell ⟨g,i,none⟩ v).heap[g]?=some (.cells (cs.setIfInBounds i v) t a):=by simp [World.setCell,Array.getElem?_modify,h]
theorem pK:(prog.info? 280).map (·.size)=some 3:=by kernel_rfl
theorem IY (a b c:Int):(#[Value.int .i64 a,.u b,.u c]:Array Value).all (·.oneCell')=true:=by simp [Value.oneCell']
theorem tR (n m:Int) (w:World):CB 245 #[.i n,.u m] w (.tuple #[.i (bP n m 22 0).at_,.agg (bP n m 22 0).cells,.bool (bP n m 22 0).ok]):=by
 obtain ⟨V,U⟩:∃ V,V=bP n m 22 0:=⟨_,rfl⟩;rw [<- U];obtain ⟨p,l⟩:∃ p,p=w.alloc (.cells #[.i 0,.u 0,.u 0] 280):=⟨_,rfl⟩;have HW0:Hid (p=w.alloc (.cells #[.i 0,.u 0,.u 0] 280)):=l;have W:Hid (bP n m (22-0) 0=V):=U.symm;have J:p.heap[w.heap.size]?=some (.cells #[.i 0,.u 0,.u 0] 280 (0,0)):=by rw [l];exact heap_alloc_new _ _
 have B:Hid (p.heap[w.heap.size]?=some (.cells #[.i 0,.u 0,.u 0] 280 (0,0))):=J;have c:w.heap.size<p.heap.size:=by rw [l];simp
 have t:Hid (Bw w p):=by show Below _ _ _;rw [l];exact bal _ _
 clear U J;go_enter func245,ntmps245;go_wp2_with fail;rw [<- l];clear l;refine (ob _).mono ?_;rintro e w1 ⟨T,rfl,Q,hb⟩;go_wp2_with fail;go_loopw [13] (λi wr=>∃ k:Nat,k<=22/\i=.i k/\Hid (bP n m (22-k) k=V)/\Bw p wr)
  (λi _=>22-(intOf i).toNat)
 case atStart=>exact ⟨0,al,rfl,W,hb⟩
 case round =>
  obtain ⟨k,hk,rfl,I,b⟩:=hrel;by_cases j:k<22
  ·obtain ⟨r,hr⟩:∃ r,r=fC k:=⟨_,rfl⟩;have HR:Hid (r=fC k):=hr;clear hr;have dk:decide ((k:Int)<22)=true:=a7;have g:wr.heap[w.heap.size]?=some (.cells #[.i 0,.u 0,.u 0] 280 (0,0)):=(by rw [b.block _ c];exact B.out);cases N:(r.1==n) with
   | true =>have F:Hid (V=⟨k,n,18446744073709551615,18446744073709551615,true⟩):=I.out.symm.trans (F6 n m k j r HR.out N);have y:∀ o,(wr.alloc o).heap[w.heap.size]?=some (.cells #[.i 0,.u 0,.u 0] 280 (0,0)):=(by intro o;rw [((Below.refl wr.heap.size wr).alloc (Nat.le_refl _) o).block _ (Nat.lt_of_lt_of_le c b.size)];exact g);have q:Hid (∀ o,(wr.alloc o).heap[w.heap.size]?=some (.cells #[.i 0,.u 0,.u 0] 280 (0,0))):=y;clear g y;go_wp2_with (first | refine gu Q .i64 k j r HR rfl (.tmp 12) (.tmp 13) rfl rfl rfl ?_ | (refine wpList_store_rowTo rfl 280 (.tmp 5) (.tmp 23) rfl rfl w.heap.size #[.i n,.u 18446744073709551615,.u 18446744073709551615] rfl rfl 280 _ (q.out _) pK rfl (IY _ _ _) ?_));refine bodyPost_ret (nQ results245 _ _ w.heap.size _ _ _ _ rfl (setRow_heap _ _ _ _ _ _ (q.out _)) underlying280 rfl pK) rfl ⟨a6,?_⟩;exact aD (Below.alloc (aa t.out b) (aa t.out b).size _) (Nat.le_refl _) _
   | false =>
     cases u:r.2.sees with
     | false =>
       have F:Hid (bP n m (22-(k+1)) (k+1)=V):=(tQ n m k j r HR.out N (by rw [u];rfl)).symm.trans I.out;have hla:=CH r.2 u;clear g;go_wp2_with (first | refine gu Q .i64 k j r HR rfl (.tmp 12) (.tmp 13) rfl rfl rfl ?_);go_roundw;case rel=>exact ⟨k+1,al,by go_num,F,b.alloc b.size _⟩
       case measure=>simp [intOf];omega
     | true =>
       have X:=IW r.2 u;have mf:=CG r.2 u;have en:=pJ (zZ r.2 u);clear g;go_wp2_with (first | refine gu Q .i64 k j r HR rfl (.tmp 12) (.tmp 13) rfl rfl rfl ?_);refine (IU r.2 u m _).mono ?_;rintro e d ⟨rfl,H⟩;have M:Bw p d:=aa (b.alloc b.size _) H;have A:Hid (Bw p d):=M;have C:d.heap[w.heap.size]?=some (.cells #[.i 0,.u 0,.u 0] 280 (0,0)):=(by rw [M.block _ c];exact B.out);have z:w.heap.size<d.heap.size:=Nat.lt_of_lt_of_le c M.size;have f:Hid (d.heap[w.heap.size]?=some (.cells #[.i 0,.u 0,.u 0] 280 (0,0))):=C;have K:∀ o,(d.alloc o).heap[w.heap.size]?=some (.cells #[.i 0,.u 0,.u 0] 280 (0,0)):=(by intro o;rw [((Below.refl d.heap.size d).alloc (Nat.le_refl _) o).block _ z];exact C);have HG3:Hid (∀ o,(d.alloc o).heap[w.heap.size]?=some (.cells #[.i 0,.u 0,.u 0] 280 (0,0))):=K;have vn:Hid (r.1==n)=Hid (r.1==n):=rfl;obtain ⟨G,s⟩:∃ v,mU r.2=v:=⟨_,rfl⟩;obtain ⟨O,D⟩:∃ v,tN m r.2=v:=⟨_,rfl⟩;obtain ⟨P,E⟩:∃ v,tO m r.2=v:=⟨_,rfl⟩;have R:Hid ((G==n)=false->Hid (bP n m (22-(k+1)) (k+1)=V)):=λh=>(tQ n m k j r HR.out N (by rw [u,s,h];rfl)).symm.trans I.out;have S:Hid ((G==n)=true->Hid (V=⟨k,G,O,P,true⟩)):=λh=>I.out.symm.trans (by rw [CF n m k j r HR.out N u (by rw [s];exact h),s,D,E]);rw [s,D,E];clear vn s D E C K M H mf en X;cases d3:(G==n) with
       | false =>
         have F:=R.out d3;clear R S;go_wp2_with fail;go_roundw;case rel=>exact ⟨k+1,al,by go_num,F,A.out.alloc A.out.size _⟩
         case measure=>simp [intOf];omega
       | true =>
         have F:=S.out d3;clear R S;have c0:d.cell? ⟨w.heap.size,0,none⟩=some (.i 0):=cell_of_row _ _ _ _ _ _ f.out;have c1:d.cell? ⟨w.heap.size,1,none⟩=some (.u 0):=cell_of_row _ _ _ _ _ _ f.out;have c2:d.cell? ⟨w.heap.size,2,none⟩=some (.u 0):=cell_of_row _ _ _ _ _ _ f.out;have f0:d.frozen? ⟨w.heap.size,0,none⟩=false:=frozen_of_row _ _ _ _ _ f.out;have f1:d.frozen? ⟨w.heap.size,1,none⟩=false:=frozen_of_row _ _ _ _ _ f.out;have f2:d.frozen? ⟨w.heap.size,2,none⟩=false:=frozen_of_row _ _ _ _ _ f.out;go_wp2_with fail;go_region;all_goals go_wp2_with fail
         have L:((((d.setCell ⟨w.heap.size,0,none⟩ (.i G)).setCell ⟨w.heap.size,1,none⟩ (.u O)).setCell ⟨w.heap.size,2,none⟩ (.u P)).alloc (.cells #[.i G,.u O,.u P] 280)).drew.heap[w.heap.size]?=some (.cells #[.i G,.u O,.u P] 280 (0,0)):=(by show (World.alloc _ _).heap[w.heap.size]?=_;rw [(bal _ _).block _ (by simpa [World.setCell] using z)];exact mJ (mJ (mJ f.out 0 _) 1 _) 2 _);refine bodyPost_ret (nQ results245 _ _ w.heap.size _ _ _ _ rfl L underlying280 rfl pK) rfl ⟨a6,?_⟩;have Z:=aa t.out A.out;refine Below.drew (Below.alloc (((Z.setCell (Nat.le_refl _) _).setCell (Nat.le_refl _) _).setCell (Nat.le_refl _) _) ?_ _);simpa [World.setCell] using Z.size
  ·have Y:k=22:=al;subst Y;have F:Hid (V=⟨-1,0,0,0,false⟩):=I.out.symm;have g:wr.heap[w.heap.size]?=some (.cells #[.i 0,.u 0,.u 0] 280 (0,0)):=(by rw [b.block _ c];exact B.out);have q:Hid (wr.heap[w.heap.size]?=some (.cells #[.i 0,.u 0,.u 0] 280 (0,0))):=g;clear g;go_wp2_with (first | (refine wpList_store_rowTo rfl 280 (.tmp 5) (.tmp 41) rfl rfl w.heap.size #[.i 0,.u 0,.u 0] rfl rfl 280 _ q.out pK rfl (IY _ _ _) ?_));refine bodyPost_ret (nQ results245 _ _ w.heap.size _ _ _ _ rfl (setRow_heap _ _ _ _ _ _ q.out) underlying280 rfl pK) rfl ⟨a6,?_⟩;exact aD (aa t.out b) (Nat.le_refl _) _
def CK.goodB:CK->Bool
 | .addr e=>decide (e<4) | _=>true
theorem LR:∀ k,k<22->(fC k).2.goodB=true:=by decide
theorem F7 (k:CK) (hk:k.holds=true) (f:k.goodB=true) (a:Option Addr) (cap:Nat) (l:List Int) (x:Int) (w:World) (hz:l.length=22) (hs:Sl .u64 w a l) (hl:∀ j,0<=l.getD j 0/\l.getD j 0<18446744073709551616) (c:0<=x) (d:x<18446744073709551616):CB k.staysF #[k.val,.slice a 22 cap,.u x] w (.u (iU (l.getD 16 0) k x)):=by
 cases k with
 | plain b=>cases hk
 | mst=>cases hk
 | mie=>cases hk
 | mip=>exact FZ a cap x w
 | satp=>exact CC a cap _ x c d w
 | cfg=>exact F4 a cap l x w hz hs hl
 | addr e=>exact CD e (by simpa [CK.goodB] using f) a cap l x w hz hs hl
theorem Aa (k:CK) (hk:k.holds=true) (w:World):(method 425 k.ty k.val "loop.example/g00134/impl.stays").run prog w=.ok (k.staysF,k.val) w:=by cases k<;>first | (cases hk;done) | kernel_rfl
theorem xW (k:CK) (hk:k.holds=true):(prog.funcs[k.staysF]?).map (λa=>(a.name == "runtime.NumGoroutine",a.body.isSome))=some (false,true):=by cases k<;>first | (cases hk;done) | kernel_rfl
theorem F8 (k:CK) (hk:k.holds=true) (a:TypeId) (w:World):(Instr.typeAssert (.iface k.ty k.val) a 294 true).run prog w=.ok (.tuple #[.iface k.ty k.val,.bool true]) w:=by cases k<;>first | (cases hk;done) | exact run_typeAssert_hasB underlying294 a3 _ a w
theorem Ab (k:CK) (hk:k.holds=false) (a:TypeId) (w:World):(Instr.typeAssert (.iface k.ty k.val) a 294 true).run prog w=.ok (.tuple #[.nilIface,.bool false]) w:=by cases k<;>first | (cases hk;done) | exact run_typeAssert_lacksB underlying294 a3 a3 _ a w
def kD (c:Int) (k:CK) (wr x:Int):Int:=if k.holds=true then bits .andNot .u64 wr (iU c k x) else wr
def jY (l:List Int) (k:Nat) (wr x:Int):Int :=
 bits .or .u64 (bits .andNot .u64 (l.getD k 0) (kD (l.getD 16 0) (fC k).2 wr x)) (bits .and .u64 (gC (fC k).2 x) (kD (l.getD 16 0) (fC k).2 wr x))
theorem tT (k:CK) (x:Int) (c:0<=x) (d:x<18446744073709551616) (w:World) (p:Addr) (u:Value) (b:w.cell? p=some u) :
 Calls prog k.fitF #[k.val,.u x] w λe a=>e=.returned (.u (gC k x))/\Bw w a/\a.cell? p=some u :=
 (D8 k x c d w).mono λe a h=>⟨h.1,h.2,(h.2.cell (World.block_lt_of_cell? _ _ b)).trans b⟩
theorem CI (n:Int) (t:TypeId) (v:Value) (w:World):(Instr.field 126 (.agg #[.i n,.iface t v]) 1).run prog w=.ok (.iface t v) w:=by kernel_rfl
theorem CJ (a:Option Addr) (cap:Nat) (l:List Int) (k:Nat) (hk:k<22) (wr x:Int) (w:World) (hz:l.length=22) (hs:Sl .u64 w a l) (hl:∀ j,0<=l.getD j 0/\l.getD j 0<18446744073709551616) (D:0<=x) (E:x<18446744073709551616):CB 248 #[.slice a 22 cap,.i k,.u wr,.u x] w (.u (jY l k wr x)):=by
 have g:jY l k wr x=bits .or .u64 (bits .andNot .u64 (l.getD k 0) (kD (l.getD 16 0) (fC k).2 wr x)) (bits .and .u64 (gC (fC k).2 x) (kD (l.getD 16 0) (fC k).2 wr x)):=rfl;have z:=LR k hk;have I:=hs k al;have m:Hid (∀ (K:CK),K.holds=true->K.goodB=true->∀ w,Sl .u64 w a l->CB K.staysF #[K.val,.slice a 22 cap,.u x] w (.u (iU (l.getD 16 0) K x))):=λK S U w hs=>F7 K S U a cap l x w hz hs hl D E;have Q:Hid (Sl .u64 w a l):=hs;obtain ⟨r,L⟩:∃ r,r=fC k:=⟨_,rfl⟩;have HR:Hid (r=fC k):=L;rw [<- L] at g z;obtain ⟨b,c,rfl,u,O⟩:=I;generalize l.getD k 0=y at *;have X:(0:Int)<=(k:Int):=al
 have Y:(k:Int)<22:=al
 have mf:=wj r.2;have en:=pJ (tP r.2);have V:=CI r.1 r.2.ty r.2.val;clear L hz hl hs;cases d:r.2.holds with
 | false =>have q:kD (l.getD 16 0) r.2 wr x=wr:=(by simp [kD,d]);rw [q] at g;have F:Hid (jY l k wr x=bits .or .u64 (bits .andNot .u64 y wr) (bits .and .u64 (gC r.2 x) wr)):=g;clear g q m;have Z:=Ab r.2 d;go_enter func248,ntmps248;go_wp2_with fail;refine (ob _).mono ?_;rintro e w1 ⟨T,rfl,C,t⟩;have H:w1.cell? ⟨b,c+k,none⟩=some (.u y):=(t.cell (by exact u)).trans O;go_wp2_with (first | refine gu C .i64 k hk r HR rfl (.tmp 12) (.tmp 13) rfl rfl rfl ?_);go_region_held3 (λf=>f.cell? ⟨b,c+k,none⟩=some (.u y)) (go_keep) (first | (refine (tT r.2 x D E _ ⟨b,c+k,none⟩ (.u y) ?_).mono ?_;(first | assumption | (simp [*]));rintro e w2 ⟨rfl,o,J⟩));go_wp2_with fail;go_ret;exact ⟨a6,aa (w1:=w1.drew) t.drew o⟩
 | true =>obtain ⟨A,p⟩:∃ A,iU (l.getD 16 0) r.2 x=A:=⟨_,rfl⟩;have q:kD (l.getD 16 0) r.2 wr x=bits .andNot .u64 wr A:=(by unfold kD;rw [if_pos d,p]);rw [q] at g;obtain ⟨B,M⟩:∃ B,bits .andNot .u64 wr A=B:=⟨_,rfl⟩;rw [M] at g;have F:Hid (jY l k wr x=bits .or .u64 (bits .andNot .u64 y B) (bits .and .u64 (gC r.2 x) B)):=g;have s:Hid (∀ w,Sl .u64 w (some ⟨b,c,none⟩) l->CB r.2.staysF #[r.2.val,.slice (some ⟨b,c,none⟩) 22 cap,.u x] w (.u A)):=(by rw [<- p];exact m.out r.2 d z);clear g q m p;have W:=F8 r.2 d;have mf2:=Aa r.2 d;have R:=pJ (xW r.2 d);go_enter func248,ntmps248;go_wp2_with fail;refine (ob _).mono ?_;rintro e w1 ⟨T,rfl,C,t⟩;go_wp2_with (first | refine gu C .i64 k hk r HR rfl (.tmp 12) (.tmp 13) rfl rfl rfl ?_);refine (s.out _ (Q.out.below t)).mono ?_;rintro e P ⟨rfl,G⟩;have N:=aa t G;have H:P.cell? ⟨b,c+k,none⟩=some (.u y):=(N.cell (by exact u)).trans O;go_wp2_with fail;go_region_held3 (λf=>f.cell? ⟨b,c+k,none⟩=some (.u y)) (go_keep) (first | (refine (tT r.2 x D E _ ⟨b,c+k,none⟩ (.u y) ?_).mono ?_;(first | assumption | (simp [*]));rintro e w2 ⟨rfl,o,J⟩));go_wp2_with fail;go_ret;exact ⟨a6,aa (w1:=P.drew) N.drew o⟩
theorem tU (p:Int) (w:World):CE 109 #[.i p] w (.bool (bI p)):=by
 have F:Hid (bI p=((p==0)||(p==1)||(p==3))):=(rfl:bI p=_);cases b:(p==0) with
 | true =>rw [b] at F;exact a0m
 | false =>
   cases c:(p==1) with
   | true =>rw [b,c] at F;exact a0m
   | false =>rw [b,c] at F;exact a0m
def lD (n p:Int):Bool:=bI p&&decide (bits .and .i64 (n/256) 3<=p)
theorem pL (n p:Int) (w:World):CE 244 #[.i n,.i p] w (.bool (lD n p)):=by
 have d:Hid (∀ w,CE 109 #[.i p] w (.bool (bI p))):=tU p;have F:Hid (lD n p=(bI p&&decide (bits .and .i64 (n/256) 3<=p))):=(rfl:lD n p=_);generalize bI p=q at *;cases q with
 | false =>go_enter func244,ntmps244;go_wp2_with fail;refine (d.out _).mono ?_;rintro e f ⟨rfl,b⟩;exact a0d
 | true =>go_enter func244,ntmps244;go_wp2_with fail;refine (d.out _).mono ?_;rintro e f ⟨rfl,b⟩;exact a0d
def rA (n:Int):Bool:=(bits .and .i64 (n/1024) 3==3)
theorem xX (n:Int) (w:World):CE 247 #[.i n] w (.bool (rA n)):=by have F:Hid (rA n=(bits .and .i64 (n/1024) 3==3)):=(rfl:rA n=_);go_enter func247,ntmps247;exact a0a
def om (n:Int):Bool:=(n==769)||(n==3860)
def oo (n:Int):Int:=if n=769 then 9223372036856090881 else 0
theorem pM (n:Int) (w:World):CE 246 #[.i n] w (.tuple #[.u (oo n),.bool (om n)]):=by
 by_cases b:n=769;·subst b;go_enter func246,ntmps246;go_wp2_with fail;go_ret2;exact a0h
 ·by_cases c:n=3860;·subst c;go_enter func246,ntmps246;go_wp2_with fail;go_ret2;exact ⟨rfl,rfl⟩
  ·have f:(n==769)=false:=i3;have g:(n==3860)=false:=tk;have F:Hid (oo n=0/\om n=false):=⟨by simp [oo,b],by simp [om,b,c]⟩;clear b c;go_enter func246,ntmps246;go_wp2_with fail;go_ret2;exact ⟨un,rfl⟩
theorem F9 {B:Nat} {a w:World} (h:Below B a w) (n:Nat):Below B a (w.drewN n):=⟨h.os,h.tape,h.output,h.size,h.block⟩
theorem lW (w:World) (base:Nat):w.ownsRow base 22 1 (.slice none 0 0) 0 (([]:List Int).map (Value.int .u64)):=⟨rfl,.inl ⟨rfl,rfl⟩⟩
theorem Ac (n m:Int):∀ f k,k+f<=22->(bP n m f k).ok=true->∃ j:Nat,j<22/\(bP n m f k).at_=(j:Int):=by
 intro f;induction f with
 | zero=>intro k _ h;cases h
 | succ f a =>
   intro k b;unfold bP;split;·intro _;exact ⟨k,al,rfl⟩
   ·split;·intro _;exact ⟨k,al,rfl⟩
    ·exact a (k+1) al
def oP (m:Nat) (l:List Int) (n p:Int):Bool:=iV m l&&lD n p
def jq (m:Nat) (l:List Int) (n p:Int):Bool:=oP m l n p&&((bP n (l.getD 2 0) 22 0).ok||om n)
def jR (m:Nat) (l:List Int) (n p:Int):Int :=
 if oP m l n p=true then (if (bP n (l.getD 2 0) 22 0).ok=true then bits .and .u64 (l.getD (bP n (l.getD 2 0) 22 0).at_.toNat 0) (bP n (l.getD 2 0) 22 0).rd else oo n) else 0
theorem tV {m:Nat} {l:List Int} (h:iV m l=true):m=22:=by simp only [iV,Bool.and_eq_true,decide_eq_true_eq] at h;exact h.1
theorem rZ (a:Option Addr) (m cap:Nat) (l:List Int) (n p:Int) (w:World) (hz:l.length=m) (hs:Sl .u64 w a l) (hl:∀ j,0<=l.getD j 0/\l.getD j 0<18446744073709551616):CB 215 #[.slice a m cap,.i n,.i p] w (.tuple #[.u (jR m l n p),.bool (jq m l n p)]):=by
 have B:Hid (CB 62 #[.slice a m cap] w (.bool (iV m l))):=kC a m cap l w hz hs hl;have D:Hid (∀ w,CE 244 #[.i n,.i p] w (.bool (lD n p))):=pL n p;have M:Hid (∀ w,CE 246 #[.i n] w (.tuple #[.u (oo n),.bool (om n)])):=pM n;have HS:Hid (Sl .u64 w a l):=hs;cases c:iV m l with
 | false =>have F:Hid (jR m l n p=0/\jq m l n p=false):=⟨by simp [jR,oP,c],by simp [jq,oP,c]⟩;rw [c] at B;clear c hs hl;go_enter func215,ntmps215;go_wp2_with fail;refine B.out.mono ?_;rintro e G ⟨rfl,g⟩;go_wp2_with fail;go_ret2;exact ⟨un,g⟩
 | true =>
   have X:=tV c;subst X;rw [c] at B;cases d:lD n p with
   | false =>have F:Hid (jR 22 l n p=0/\jq 22 l n p=false):=⟨by simp [jR,oP,d],by simp [jq,oP,d]⟩;rw [d] at D;clear c hs hl d;go_enter func215,ntmps215;go_wp2_with fail;refine B.out.mono ?_;rintro e G ⟨rfl,g⟩;go_wp2_with fail;refine (D.out _).mono ?_;rintro e Q ⟨rfl,f⟩;subst f;go_wp2_with fail;go_ret2;exact ⟨un,g⟩
   | true =>
     rw [d] at D;have A:jR 22 l n p=if (bP n (l.getD 2 0) 22 0).ok=true then bits .and .u64 (l.getD (bP n (l.getD 2 0) 22 0).at_.toNat 0) (bP n (l.getD 2 0) 22 0).rd else oo n:=by simp [jR,oP,c,d]
     have C:jq 22 l n p=((bP n (l.getD 2 0) 22 0).ok||om n):=(by simp [jq,oP,c,d]);have H:Hid (∀ w,CB 245 #[.i n,.u (l.getD 2 0)] w (.tuple #[.i (bP n (l.getD 2 0) 22 0).at_,.agg (bP n (l.getD 2 0) 22 0).cells,.bool (bP n (l.getD 2 0) 22 0).ok])):=tR n (l.getD 2 0);have q:=Ac n (l.getD 2 0) 22 0 al;generalize bP n (l.getD 2 0) 22 0=V at *;obtain ⟨va,vn,Z,vw,Y⟩:=V;simp only [Vw.cells] at H A C q;obtain ⟨b,z,rfl,o,N⟩:=hs 2 al;generalize l.getD 2 0=E at *;cases Y with
     | true =>
       obtain ⟨k,hk,J⟩:=q rfl;subst J;rw [if_pos rfl,Int.toNat_natCast] at A;have F:Hid (jR 22 l n p=bits .and .u64 (l.getD k 0) Z/\jq 22 l n p=true):=⟨A,C⟩;obtain ⟨b',P,e,T,R⟩:=hs k al;simp only [Option.some.injEq,Addr.mk.injEq,and_true] at e;obtain ⟨rfl,rfl⟩:=e;generalize l.getD k 0=y at *;have U:(0:Int)<=(k:Int):=al;have W:(k:Int)<22:=al;clear A C q hs hl c d M;go_enter func215,ntmps215;go_wp2_with fail;refine B.out.mono ?_;rintro e G ⟨rfl,g⟩;have I:G.cell? ⟨b,z+2,none⟩=some (.u E):=(g.cell (by exact o)).trans N;go_wp2_with fail;refine (D.out _).mono ?_;rintro e Q ⟨rfl,f⟩;have u:=f.symm;subst u;go_wp2_with fail;refine (H.out _).mono ?_;rintro e L ⟨rfl,t⟩;have s:=aa g t;have S:L.cell? ⟨b,z+k,none⟩=some (.u y):=(s.cell (by exact o)).trans R;have O:b<L.heap.size:=Nat.lt_of_lt_of_le o s.size;go_wp2_with fail;go_quiet (fail)
       go_wp2_with fail;go_ret2;exact ⟨un,F9 (s.alloc s.size _) _⟩
     | false =>have F:Hid (jR 22 l n p=oo n/\jq 22 l n p=om n):=⟨A,C⟩;clear A C q hs hl c d;generalize oo n=fv at *;generalize om n=fb at *;go_enter func215,ntmps215;go_wp2_with fail;refine B.out.mono ?_;rintro e G ⟨rfl,g⟩;have I:G.cell? ⟨b,z+2,none⟩=some (.u E):=(g.cell (by exact o)).trans N;go_wp2_with fail;refine (D.out _).mono ?_;rintro e Q ⟨rfl,f⟩;have u:=f.symm;subst u;go_wp2_with fail;refine (H.out _).mono ?_;rintro e L ⟨rfl,t⟩;have s:=aa g t;go_wp2_with fail;refine (M.out _).mono ?_;rintro e w4 ⟨rfl,K⟩;subst K;go_wp2_with fail;go_ret2;exact ⟨un,s.alloc s.size _⟩
def eD (m:Nat) (l:List Int) (n p:Int):Bool:=oP m l n p&&!rA n&&((bP n (l.getD 2 0) 22 0).ok||om n)
def mK (l:List Int) (n x:Int):List Int :=
 if (bP n (l.getD 2 0) 22 0).ok=true then l.set (bP n (l.getD 2 0) 22 0).at_.toNat (jY l (bP n (l.getD 2 0) 22 0).at_.toNat (bP n (l.getD 2 0) 22 0).wr x) else l
def fK (m:Nat) (l:List Int) (n p x:Int):List Int:=if eD m l n p=true then mK l n x else []
theorem wk {w:World} {base a:Nat} {e:TypeId} {size:Nat} {v:Value} {n:Nat} {xs:List Value} (h:w.ownsRow base e size v n xs) (hb:a<=base):w.ownsRow a e size v n xs:=by
 obtain ⟨d,c⟩:=h;refine ⟨d,?_⟩;rcases c with c|⟨g,cap,b,i,f,r⟩;·exact Or.inl c
 ·exact Or.inr ⟨g,cap,b,i,Nat.le_trans hb f,r⟩
theorem qy (a:Option Addr) (m cap:Nat) (l:List Int) (n p x:Int) (w:World) (hz:l.length=m) (hs:Sl .u64 w a l) (hl:∀ j,0<=l.getD j 0/\l.getD j 0<18446744073709551616) (h0:0<=x) (h1:x<18446744073709551616):Calls prog 216 #[.slice a m cap,.i n,.i p,.u x] w λe D=>∃ (a':Option Addr) (c:Nat),e=.returned (.tuple #[.slice a' (fK m l n p x).length c,.bool (eD m l n p)]) /\ D.ownsRow w.heap.size 22 1 (.slice a' (fK m l n p x).length c) (fK m l n p x).length ((fK m l n p x).map (Value.int .u64))/\Bw w D:=by
 have Q:Hid (CB 62 #[.slice a m cap] w (.bool (iV m l))):=kC a m cap l w hz hs hl;have W:Hid (∀ w,CE 244 #[.i n,.i p] w (.bool (lD n p))):=pL n p;have HF:Hid (∀ w,CE 246 #[.i n] w (.tuple #[.u (oo n),.bool (om n)])):=pM n;have HN:Hid (∀ w,CE 247 #[.i n] w (.bool (rA n))):=xX n;have HS:Hid (Sl .u64 w a l):=hs;cases s:iV m l with
 | false =>have g:eD m l n p=false:=(by simp [eD,oP,s]);have F:Hid (fK m l n p x=[]/\eD m l n p=false):=⟨by simp [fK,g],g⟩;rw [s] at Q;clear s hs hl g;go_enter func216,ntmps216;go_wp2_with fail;refine Q.out.mono ?_;rintro e T ⟨rfl,C⟩;exact a0n
 | true =>
   have hm:=tV s;subst hm;rw [s] at Q;cases A:lD n p with
   | false =>have g:eD 22 l n p=false:=(by simp [eD,oP,A]);have F:Hid (fK 22 l n p x=[]/\eD 22 l n p=false):=⟨by simp [fK,g],g⟩;rw [A] at W;clear s hs hl A g;go_enter func216,ntmps216;go_wp2_with fail;refine Q.out.mono ?_;rintro e T ⟨rfl,C⟩;go_wp2_with fail;refine (W.out _).mono ?_;rintro e U ⟨rfl,f⟩;subst f;exact a0n
   | true =>
     rw [A] at W;cases B:rA n with
     | true =>have g:eD 22 l n p=false:=(by simp [eD,B]);have F:Hid (fK 22 l n p x=[]/\eD 22 l n p=false):=⟨by simp [fK,g],g⟩;rw [B] at HN;clear s hs hl A g B;go_enter func216,ntmps216;go_wp2_with fail;refine Q.out.mono ?_;rintro e T ⟨rfl,C⟩;go_wp2_with fail;refine (W.out _).mono ?_;rintro e U ⟨rfl,f⟩;subst f;go_wp2_with fail;refine (HN.out _).mono ?_;rintro e U ⟨rfl,f⟩;subst f;exact a0n
     | false =>
       rw [B] at HN;have g:eD 22 l n p=((bP n (l.getD 2 0) 22 0).ok||om n):=(by simp [eD,oP,s,A,B]);have R:mK l n x=if (bP n (l.getD 2 0) 22 0).ok=true then l.set (bP n (l.getD 2 0) 22 0).at_.toNat (jY l (bP n (l.getD 2 0) 22 0).at_.toNat (bP n (l.getD 2 0) 22 0).wr x) else l:=rfl
       have O:fK 22 l n p x=if eD 22 l n p=true then mK l n x else []:=rfl
       have HV:Hid (∀ w,CB 245 #[.i n,.u (l.getD 2 0)] w (.tuple #[.i (bP n (l.getD 2 0) 22 0).at_,.agg (bP n (l.getD 2 0) 22 0).cells,.bool (bP n (l.getD 2 0) 22 0).ok])):=tR n (l.getD 2 0);have K:=Ac n (l.getD 2 0) 22 0 al;generalize bP n (l.getD 2 0) 22 0=V at *;obtain ⟨va,vn,vr,N,vo⟩:=V;simp only [Vw.cells] at HV g R K;obtain ⟨b,G,rfl,X,c2⟩:=hs 2 al;generalize l.getD 2 0=mid at *;obtain ⟨i0,hi,hz0,hz1,hz2⟩:=info_parts yS;have S:(prog.info? 22).map (·.size)=some 1:=(by rw [hi];simp [hz1]);have hb2:i0.bytes*22<=281474976710656:=(by rw [hz2];omega);have hb3:22<=maxLen:=i5;have HZ:Hid (l.length=22):=hz;clear hz2 hz;cases vo with
       | true =>
         obtain ⟨k,hk,hva⟩:=K rfl;subst hva;rw [if_pos rfl,Int.toNat_natCast] at R;rw [Bool.true_or] at g;rw [g,if_pos rfl,R] at O;have HLB:Hid (∀ w,Sl .u64 w (some ⟨b,G,none⟩) l->CB 248 #[.slice (some ⟨b,G,none⟩) 22 cap,.i k,.u N,.u x] w (.u (jY l k N x))):=λw hs=>CJ _ cap l k hk N x w HZ.out hs hl h0 h1;generalize jY l k N x=y at *;have F:Hid (fK 22 l n p x=l.set k y/\eD 22 l n p=true):=⟨O,g⟩;have hk0:(0:Int)<=(k:Int):=al;have hk1:(k:Int)<22:=al;clear g R O K hs hl s A B;have HF2:=HF.out;generalize oo n=fv at *;generalize om n=fb at *;have HF3:Hid (∀ w,CE 246 #[.i n] w (.tuple #[.u fv,.bool fb])):=HF2;clear HF2;cases fb with
         | _ =>go_enter func216,ntmps216;go_wp2_with fail;refine Q.out.mono ?_;rintro e T ⟨rfl,C⟩;have c2':T.cell? ⟨b,G+2,none⟩=some (.u mid):=(C.cell (by exact X)).trans c2;go_wp2_with fail;refine (W.out _).mono ?_;rintro e U ⟨rfl,f⟩;have t:=f.symm;subst t;go_wp2_with fail;refine (HN.out _).mono ?_;rintro e U ⟨rfl,f⟩;have t:=f.symm;subst t;go_wp2_with fail;refine (HV.out _).mono ?_;rintro e P ⟨rfl,r⟩;have M:=aa C r;go_wp2_with fail;refine (HF3.out _).mono ?_;rintro e w4 ⟨rfl,L⟩;subst L;have J:Bw w (P.alloc (.cells #[.i vn,.u vr,.u N] 280)):=M.alloc M.size _;obtain ⟨q,E⟩:∃ q,P.alloc (.cells #[.i vn,.u vr,.u N] 280)=q:=⟨_,rfl⟩;have cw5:q.cell? ⟨P.heap.size,2,none⟩=some (.u N):=(by rw [<- E];exact cell_of_row _ _ _ _ _ _ (heap_alloc_new _ _));have lw5:P.heap.size<q.heap.size:=(by rw [<- E];simp);rw [E] at J ⊢;clear E M C r;go_wp2_with (first | (at_make;refine wpList_make_full _ rfl (.const (.i 22)) (.const (.i 22)) 23 rfl q.heap.size 22 i0 (.u 0) 1 underlying23 hi hz0 hz1 .i64 .i64 _ _ 22 rfl rfl rfl rfl hb2 hb3 (Nat.le_refl _) ?_;intro w6 H d) | (refine gL rfl (.tmp 50) (.tmp 51) 23 rfl 22 underlying23 S .u64 q.heap.size q.heap.size 22 22 b G cap l _ rfl rfl H ((HS.out.below J).below ((Below.refl _ _).grown d (Nat.le_refl _) ln)) HZ.out ?_;intro w7 u o;have B7:Bw q w7:=Below.grown ((Below.refl _ _).grown d (Nat.le_refl _) ln) o d.size ps;have cw7:w7.cell? ⟨P.heap.size,2,none⟩=some (.u N):=(B7.cell (by exact lw5)).trans cw5));have B8:=aa J B7;refine (HLB.out _ (HS.out.below B8)).mono ?_;rintro e w8 ⟨rfl,Y⟩;have B9:=aa B8 Y;have z:=dF u Y;have hfr:w8.frozen? ⟨q.heap.size,k,none⟩=false:=z.frozenAt k;have Z:=(z.stored k (.u y)).1;obtain ⟨v3,hv3⟩:∃ v,w8.cell? ⟨q.heap.size,k,none⟩=some v:=(by rw [z.cellAt k al];exact ⟨_,List.getElem?_eq_getElem (by rw [List.length_map,HZ.out];exact hk)⟩);rw [iH] at Z;have HST:Hid ((w8.setCell ⟨q.heap.size,k,none⟩ (.u y)).ownsRow q.heap.size 22 1 (.slice (some ⟨q.heap.size,0,none⟩) 22 22) 22 ((l.set k y).map (Value.int .u64))):=Z;have HBX:Hid (Bw w (w8.setCell ⟨q.heap.size,k,none⟩ (.u y))):=B9.setCell J.size _;have HB4:Hid (w.heap.size<=q.heap.size):=J.size;clear Z H u z d o J B7 B8 B9 Y cw5 cw7;go_wp2_with fail;go_ret2;have hlen:(l.set k y).length=22:=(by rw [List.length_set,HZ.out]);rw [F.out.1,F.out.2,hlen];refine ⟨_,_,rfl,?_,HBX.out⟩;exact wk HST.out HB4.out
       | false =>
         rw [Bool.false_or] at g;rw [if_neg a5] at R;cases I:om n with
         | false =>rw [I] at HF;rw [I] at g;rw [g,if_neg a5] at O;have F:Hid (fK 22 l n p x=[]/\eD 22 l n p=false):=⟨O,g⟩;generalize oo n=fv at *;clear g R O K hs hl s A B I;go_enter func216,ntmps216;go_wp2_with fail;refine Q.out.mono ?_;rintro e T ⟨rfl,C⟩;have c2':T.cell? ⟨b,G+2,none⟩=some (.u mid):=(C.cell (by exact X)).trans c2;go_wp2_with fail;refine (W.out _).mono ?_;rintro e U ⟨rfl,f⟩;have t:=f.symm;subst t;go_wp2_with fail;refine (HN.out _).mono ?_;rintro e U ⟨rfl,f⟩;have t:=f.symm;subst t;go_wp2_with fail;refine (HV.out _).mono ?_;rintro e P ⟨rfl,r⟩;have M:=aa C r;go_wp2_with fail;refine (HF.out _).mono ?_;rintro e w4 ⟨rfl,L⟩;subst L;go_wp2_with fail;go_ret2;rw [F.out.1,F.out.2];exact ⟨_,_,rfl,lW _ _,M.alloc M.size _⟩
         | true =>rw [I] at HF;rw [I] at g;rw [g,if_pos rfl,R] at O;have F:Hid (fK 22 l n p x=l/\eD 22 l n p=true):=⟨O,g⟩;generalize oo n=fv at *;clear g R O K hs hl s A B I;go_enter func216,ntmps216;go_wp2_with fail;refine Q.out.mono ?_;rintro e T ⟨rfl,C⟩;have c2':T.cell? ⟨b,G+2,none⟩=some (.u mid):=(C.cell (by exact X)).trans c2;go_wp2_with fail;refine (W.out _).mono ?_;rintro e U ⟨rfl,f⟩;have t:=f.symm;subst t;go_wp2_with fail;refine (HN.out _).mono ?_;rintro e U ⟨rfl,f⟩;have t:=f.symm;subst t;go_wp2_with fail;refine (HV.out _).mono ?_;rintro e P ⟨rfl,r⟩;have M:=aa C r;go_wp2_with fail;refine (HF.out _).mono ?_;rintro e w4 ⟨rfl,L⟩;subst L;have J:Bw w (P.alloc (.cells #[.i vn,.u vr,.u N] 280)):=M.alloc M.size _;obtain ⟨q,E⟩:∃ q,P.alloc (.cells #[.i vn,.u vr,.u N] 280)=q:=⟨_,rfl⟩;rw [E] at J ⊢;clear E M C r;go_wp2_with (first | (at_make;refine wpList_make_full _ rfl (.const (.i 22)) (.const (.i 22)) 23 rfl q.heap.size 22 i0 (.u 0) 1 underlying23 hi hz0 hz1 .i64 .i64 _ _ 22 rfl rfl rfl rfl hb2 hb3 (Nat.le_refl _) ?_;intro w6 H d) | (refine gL rfl (.tmp 50) (.tmp 51) 23 rfl 22 underlying23 S .u64 q.heap.size q.heap.size 22 22 b G cap l _ rfl rfl H ((HS.out.below J).below ((Below.refl _ _).grown d (Nat.le_refl _) ln)) HZ.out ?_;intro w7 u o;have B7:Bw q w7:=Below.grown ((Below.refl _ _).grown d (Nat.le_refl _) ln) o d.size ps));go_ret2;rw [F.out.1,F.out.2,HZ.out];refine ⟨_,_,rfl,?_,aa J B7⟩;exact wk u J.size
theorem PE:∀ i,i<64->∀ (p q:Bool) (o:Bool),(((if i=0 then p else if i=1 then q else o)&&bt 924074 (i+11))&&bt 3 i)=bt ((if p=true then 1 else 0)+(if q=true then 2 else 0)) i:=by decide +kernel
theorem Ns:∀ i,i<64->∀ (p q:Bool) (o:Bool),((if i=11 then p else if i=12 then q else o)&&bt 6144 i)=bt ((if p=true then 2048 else 0)+(if q=true then 4096 else 0)) i:=by decide +kernel
theorem IZ (x:Int) (h:U x):gC .mst x=mst x:=by
 have e:bits .and .u64 (bits .and .u64 x 924074/2048) 3=(if bt x 11=true then 1 else 0)+(if bt x 12=true then 2 else 0):=by
  refine bg _ _ (aj _ _ _) fa λi c=>?_;have d:=iT (bits .and .u64 x 924074) (aj _ _ _) 11 i;rw [show ((2:Int)^11)=2048 from a5] at d;rw [az,d,az,<- PE i c (bt x 11) (bt x 12) (bt x (i+11))];by_cases a:i=0;·subst a;rfl
  ·by_cases b:i=1;·subst b;rfl
   ·rw [if_neg a,if_neg b]
 have f:bits .and .u64 x 6144=(if bt x 11=true then 2048 else 0)+(if bt x 12=true then 4096 else 0):=by
  refine bg _ _ (aj _ _ _) fa λi c=>?_;rw [az,<- Ns i c (bt x 11) (bt x 12) (bt x i)];by_cases a:i=11;·subst a;rfl
  ·by_cases b:i=12;·subst b;rfl
   ·rw [if_neg a,if_neg b]
 show (if (bits .and .u64 x 6144==4096)=true then bits .andNot .u64 (bits .and .u64 x 924074) 6144 else bits .and .u64 x 924074)=mst x;unfold mst;rw [e,f];cases bt x 11<;>cases bt x 12<;>rfl
theorem Qo:∀ i,i<64->∀ a:Bool,(a&&bt 18446744073709551613 i)=(a&&!bt 2 i):=by decide +kernel
theorem Qp:∀ i,i<64->∀ a:Bool,(a&&bt 18446744073709551612 i)=(a&&!bt 3 i):=by decide +kernel
theorem xY:∀ i,i<64->bt 18446744073709551615 i=true:=by decide +kernel
theorem Og:∀ i,i<64->∀ a:Bool,((decide (i<8)&&a)&&bt 159 i)=(a&&bt 159 i):=by decide +kernel
theorem PF (x:Int):bits .and .u64 x 18446744073709551613=bits .andNot .u64 x 2 :=
 bg _ _ (aj _ _ _) (aj _ _ _) λi a=>by rw [az,aA _ _ _ a];exact Qo i a _
theorem Oh (x:Int):bits .and .u64 x 18446744073709551612=bits .andNot .u64 x 3 :=
 bg _ _ (aj _ _ _) (aj _ _ _) λi a=>by rw [az,aA _ _ _ a];exact Qp i a _
theorem oc (x:Int) (h:U x):bits .and .u64 x 18446744073709551615=x :=
 bg _ _ (aj _ _ _) h λi a=>by rw [az,xY i a,Bool.and_true]
theorem LS (x:Int) (h:U x) (k:Nat):zX x k=iO x k:=by
 have e:bits .and .u64 (cI x (8*k) 8) 159=bits .and .u64 (x/2^(8*k)) 159 :=
  bg _ _ (aj _ _ _) (aj _ _ _) λi a=>by
   rw [az,az,jO x h _ _ _ al,iT x h];exact Og i a _
 unfold zX iO;rw [e]
theorem I0 (x:Int) (h:U x) (k:Nat):oO x k=cJ x k:=by
 induction k with
 | zero=>rfl
 | succ k a=>rw [oO,cJ,a,LS x h]
theorem wm (x:Int) (h:U x) (k:Nat) (hk:k<22) (b:k≠9) (a:k≠15):gC (fC k).2 x=aX k x:=by
 have:k=0\/k=1\/k=2\/k=3\/k=4\/k=5\/k=6\/k=7\/k=8\/k=10\/k=11\/k=12\/k=13\/k=14\/k=16\/k=17\/k=18\/k=19\/k=20\/k=21:=al
 rcases this with rfl|rfl|rfl|rfl|rfl|rfl|rfl|rfl|rfl|rfl|rfl|rfl|rfl|rfl|rfl|rfl|rfl|rfl|rfl|rfl;·exact IZ x h
 ·rfl
 ·rfl
 ·rfl
 ·exact PF x
 ·exact oc x h
 ·exact Oh x
 ·rfl
 ·exact oc x h
 ·exact PF x
 ·exact oc x h
 ·exact Oh x
 ·rfl
 ·exact oc x h
 ·exact I0 x h 4
 ·rfl
 ·rfl
 ·rfl
 ·rfl
 ·exact oc x h
theorem D9 (x:Int) (h:U x):gI x=((x/1152921504606846976==0)||(x/1152921504606846976==8)):=by
 have e:cI x 60 4=x/1152921504606846976:=by unfold cI;rw [show ((2:Int)^60)=1152921504606846976 from a5,show ((2:Int)^4)=16 from a5];have:=h.1;have:=h.2;omega
 unfold gI;rw [e]
theorem Oi (x:Int) (h:U x) (k:Nat) (hk:k<22):(gC (fC k).2 x==x)=eZ k x:=by
 by_cases b:k=9;·subst b;rfl
 ·by_cases a:k=15
  ·subst a;show (gC .satp x==x)=((x/1152921504606846976==0)||(x/1152921504606846976==8));rw [<- D9 x h];show ((if gI x=true then x else 0)==x)=gI x;cases c:gI x with
   | true=>simp
   | false =>have d:x≠0:=(by rintro rfl;revert c;decide);simp only [Bool.false_eq_true,if_false,beq_eq_false_iff_ne];exact λh=>d h.symm
  ·rw [wm x h k hk b a];unfold eZ;rw [if_neg b,if_neg a]
theorem Ad (l:List Int) (hl:∀ j,U (l.getD j 0)):∀ n k,k+n<=22->dh l n k=eO l n k:=by
 intro n;induction n with
 | zero=>intro k _;rfl
 | succ n a =>intro k b;rw [dh,eO,Oi _ (hl k) k al,a (k+1) al]
theorem wo (m:Nat) (l:List Int) (hl:∀ j,U (l.getD j 0)):iV m l=bf m l:=by unfold iV bf;rw [Ad l hl 22 0 al]
def nums:List Int:=[768,770,771,772,773,832,833,834,835,836,261,320,321,322,323,384,928,944,945,946,947,2818,256,260,324]
theorem LT:∀ k,k<22->(fC k).1 ∈ nums:=by decide
theorem I1:∀ k,k<22->eQ.getD k 0 ∈ nums:=by decide
theorem kE (n m:Int) (h:n ∉ nums):∀ f k,k+f<=22->bP n m f k=⟨-1,0,0,0,false⟩:=by
 intro f;induction f with
 | zero=>intro k _;rfl
 | succ f c =>
   intro k g;have a:((fC k).1==n)=false:=(by rw [beq_eq_false_iff_ne];intro e;exact h (e ▸ LT k al));have b:((fC k).2.sees&&(mU (fC k).2==n))=false:=by cases d:(fC k).2<;>first | rfl | (simp only [CK.sees,mU,Bool.true_and,beq_eq_false_iff_ne];intro e;apply h;rw [<- e];decide)
   rw [bP,if_neg (by rw [a];decide),if_neg (by rw [b];decide)];exact c (k+1) al
theorem xZ (n:Int) (h:n ∉ nums):∀ f k,k+f<=22->dM n f k=-1:=by
 intro f;induction f with
 | zero=>intro k _;rfl
 | succ f b =>intro k c;have a:(eQ.getD k 0==n)=false:=(by rw [beq_eq_false_iff_ne];intro e;exact h (e ▸ I1 k al));rw [dM,if_neg (by rw [a];decide)];exact b (k+1) al
theorem rB (n:Int) (h:n ∉ nums):cE n=-1:=by unfold cE;rw [if_neg (λe=>h (by rw [e];decide)),if_neg (λe=>h (by rw [e];decide)),if_neg (λe=>h (by rw [e];decide))];exact xZ n h 22 0 al
theorem jr (n:Int) (h:n ∈ nums):n=768\/n=770\/n=771\/n=772\/n=773\/n=832\/n=833\/n=834\/n=835\/n=836\/n=261\/n=320\/n=321\/n=322\/n=323\/n=384\/n=928\/n=944\/n=945\/n=946\/n=947\/n=2818\/n=256\/n=260\/n=324:=by simpa [nums] using h
theorem Ae (n m:Int):((bP n m 22 0).ok||om n)=cS n:=by
 by_cases h:n ∈ nums;·rcases jr n h with rfl|rfl|rfl|rfl|rfl|rfl|rfl|rfl|rfl|rfl|rfl|rfl|rfl|rfl|rfl|rfl|rfl|rfl|rfl|rfl|rfl|rfl|rfl|rfl|rfl<;>rfl
 ·rw [kE n m h 22 0 al];unfold cS om;rw [rB n h];cases (n==769)<;>cases (n==3860)<;>rfl
end Go.Proofs.YtjifdmoehfbihaaGreatDoor
