/- Own lemmas. -/
import Derived.Test.YtjifdmoehfbihaaGreatDoorAuj
import Derived.Test.YtjifdmoehfbihaaGreatDoorJ10
set_option maxRecDepth 100000
set_option maxHeartbeats 6400000
namespace Go.Proofs.YtjifdmoehfbihaaGreatDoor
open Go.RowKit Tryz
open IntKind renaming u64->Uz
set_option linter.unusedVariables false
variable {l:List Int} {x:Nat} {n:World} {m:TypeId} {w:Int} (k:List Int) (p:Option Addr) (e y:Nat) (a:List Int) (c s t b f:Int) (g:World) (M j:Nat)
structure Vw where
 at_:Int
 num:Int
 rd:Int
 wr:Int
 ok:Bool
def Vw.cells (v:Vw):Array Value:=#[.i v.num,.u v.rd,.u v.wr]
def dx (n m:Int):Nat->Nat->Vw
 | 0,_=>⟨-1,0,0,0,false⟩
 | f+1,k=>if ((gp k).1==n)=true then ⟨k,n,18446744073709551615,18446744073709551615,true⟩
   else if ((gp k).2.sees&&(nT (gp k).2==n))=true then ⟨k,nT (gp k).2,vY m (gp k).2,vZ m (gp k).2,true⟩ else dx n m f (k+1)
theorem JJ (hk:M<22) (r:Int × CK) (hr:r=gp M) (h:(r.1==c)=true):dx c s (22-M) M=⟨M,c,18446744073709551615,18446744073709551615,true⟩:=by subst hr;rw [show 22-M=(22-(M+1))+1 from ab,dx,if_pos h]
theorem Fb (hk:M<22) (r:Int × CK) (hr:r=gp M) (h:(r.1==c)=false) (a:r.2.sees=true) (b:(nT r.2==c)=true):dx c s (22-M) M=⟨M,nT r.2,vY s r.2,vZ s r.2,true⟩:=by subst hr;rw [show 22-M=(22-(M+1))+1 from ab,dx,if_neg (by rw [h];decide),a,b];rfl
theorem wh (hk:M<22) (r:Int × CK) (hr:r=gp M) (h:(r.1==c)=false) (a:(r.2.sees&&(nT r.2==c))=false):dx c s (22-M) M=dx c s (22-(M+1)) (M+1):=by subst hr;rw [show 22-M=(22-(M+1))+1 from ab,dx,if_neg (by rw [h];decide),a,if_neg bc]
theorem Fc (k:CK) (hk:k.sees=true) (w:World):(method 425 k.ty k.val "loop.example/g00134/impl.view").run prog w=.ok (k.viewF,k.val) w:=by cases k<;>first | (cases hk;done) | kernel_rfl
theorem Cp (k:CK) (hk:k.sees=true):(prog.funcs[k.viewF]?).map (λa=>(a.name == "runtime.NumGoroutine",a.body.isSome))=some (false,true):=by cases k<;>first | (cases hk;done) | kernel_rfl
theorem Mh (k:CK) (hk:k.sees=true) (a:TypeId) (w:World):(Instr.typeAssert (.iface k.ty k.val) a 290 true).run prog w=.ok (.tuple #[.iface k.ty k.val,.bool true]) w:=by cases k<;>first | (cases hk;done) | exact run_typeAssert_hasB underlying290 ba _ a w
theorem Fe (k:CK) (hk:k.sees=false) (a:TypeId) (w:World):(Instr.typeAssert (.iface k.ty k.val) a 290 true).run prog w=.ok (.tuple #[.nilIface,.bool false]) w:=by cases k<;>first | (cases hk;done) | exact run_typeAssert_lacksB underlying290 ba ba _ a w
theorem oO {P:Program} {fn:Func} {s p u:Tmp} {ty:TypeId} (h:fn.results=#[.tmp s,.cell p ty,.tmp u]) (tmps:Array Value) (w:World) (g:Nat) (t:TypeId) (cs:Array Value) (e:Nat × Nat) (d:TypeDesc) (k:tmps.getD p undef=.p g 0) (i:w.heap[g]?=some (.cells cs t e)) (l:P.underlying ty=some d) (hd:(match d with | .struct _ | .array _ _=>true | _=>false)=true) (j:(P.info? ty).map (·.size)=some cs.size):(results fn tmps).run P w=.ok (.tuple #[tmps.getD s undef,.agg cs,tmps.getD u undef]) w:=by
 have f:(results fn tmps).run P w=((asAddr (tmps.getD p undef)).run P w).andThen λa b=>((loadVar ty a).run P b).andThen λv c=>.ok (.tuple #[tmps.getD s undef,v,tmps.getD u undef]) c:=by simp only [results,h];simp [Sem.run_bind,Result.andThen]
 rw [f,k];simp [asAddr,run_loadVar_row w g t ty cs e d i l hd j]
theorem nH {cs:Array Value} {a:Nat × Nat} (h:n.heap[x]?=some (.cells cs m a)) (i:Nat) (v:Value): (n.setCell ⟨x,i,none⟩ v).heap[x]?=some (.cells (cs.setIfInBounds i v) m a):=by simp [World.setCell,Array.getElem?_modify,h]
theorem qU:(prog.info? 280).map (·.size)=some 3:=by kernel_rfl
theorem Mi:(#[Value.int .i64 c,.u s,.u t]:Array Value).all (·.oneCell')=true:=by simp [Value.oneCell']
theorem wi: CB 245 #[.i c,.u s] g (.tuple #[.i (dx c s 22 0).at_,.agg (dx c s 22 0).cells,.bool (dx c s 22 0).ok]):=by
 obtain ⟨V,U⟩:∃ V,V=dx c s 22 0:=⟨_,rfl⟩;rw [<- U];obtain ⟨p,l⟩:∃ p,p=g.alloc (.cells #[.i 0,.u 0,.u 0] 280):=⟨_,rfl⟩;have HW0:Hid (p=g.alloc (.cells #[.i 0,.u 0,.u 0] 280)):=l;have W:Hid (dx c s (22-0) 0=V):=U.symm;have J:p.heap[g.heap.size]?=some (.cells #[.i 0,.u 0,.u 0] 280 (0,0)):=by rw [l];exact heap_alloc_new _ _
 have B:Hid (p.heap[g.heap.size]?=some (.cells #[.i 0,.u 0,.u 0] 280 (0,0))):=J;have n:g.heap.size<p.heap.size:=by rw [l];simp
 have t:Hid (Bw g p):=by show Below _ _ _;rw [l];exact bal _ _
 clear U J;go_enter func245,ntmps245;go_wp2_with fail;rw [<- l];clear l;refine (pB _).mono ?_;rintro e w1 ⟨T,rfl,Q,hb⟩;go_wp2_with fail;go_loopw [13] (λi wr=>∃ k:Nat,k<=22/\i=.i k/\Hid (dx c s (22-k) k=V)/\Bw p wr)
  (λi _=>22-(intOf i).toNat)
 case atStart=>exact ⟨0,ab,rfl,W,hb⟩
 case round =>
  obtain ⟨k,hk,rfl,I,b⟩:=hrel;by_cases j:k<22
  ·obtain ⟨r,hr⟩:∃ r,r=gp k:=⟨_,rfl⟩;have HR:Hid (r=gp k):=hr;clear hr;have dk:decide ((k:Int)<22)=true:=bv;have w:wr.heap[g.heap.size]?=some (.cells #[.i 0,.u 0,.u 0] 280 (0,0)):=(by rw [b.block _ n];exact B.out);cases N:(r.1==c) with
   | true =>have F:Hid (V=⟨k,c,18446744073709551615,18446744073709551615,true⟩):=I.out.symm.trans (JJ c s k j r HR.out N);have y:∀ o,(wr.alloc o).heap[g.heap.size]?=some (.cells #[.i 0,.u 0,.u 0] 280 (0,0)):=(by intro o;rw [((Below.refl wr.heap.size wr).alloc (Nat.le_refl _) o).block _ (Nat.lt_of_lt_of_le n b.size)];exact w);have q:Hid (∀ o,(wr.alloc o).heap[g.heap.size]?=some (.cells #[.i 0,.u 0,.u 0] 280 (0,0))):=y;clear w y;go_wp2_with (first | refine gY Q .i64 k j r HR rfl (.tmp 12) (.tmp 13) rfl rfl rfl ?_ | (refine wpList_store_rowTo rfl 280 (.tmp 5) (.tmp 23) rfl rfl g.heap.size #[.i c,.u 18446744073709551615,.u 18446744073709551615] rfl rfl 280 _ (q.out _) qU rfl (Mi _ _ _) ?_));refine bodyPost_ret (oO results245 _ _ g.heap.size _ _ _ _ rfl (setRow_heap _ _ _ _ _ _ (q.out _)) underlying280 rfl qU) rfl ⟨bh,?_⟩;exact aI (Below.alloc (aa t.out b) (aa t.out b).size _) (Nat.le_refl _) _
   | false =>
     cases u:r.2.sees with
     | false =>
       have F:Hid (dx c s (22-(k+1)) (k+1)=V):=(wh c s k j r HR.out N (by rw [u];rfl)).symm.trans I.out;have hla:=Fe r.2 u;clear w;go_wp2_with (first | refine gY Q .i64 k j r HR rfl (.tmp 12) (.tmp 13) rfl rfl rfl ?_);go_roundw;case rel=>exact ⟨k+1,ab,by go_num,F,b.alloc b.size _⟩
       case measure=>simp [intOf];omega
     | true =>
       have X:=Mh r.2 u;have mf:=Fc r.2 u;have en:=qS (Cp r.2 u);clear w;go_wp2_with (first | refine gY Q .i64 k j r HR rfl (.tmp 12) (.tmp 13) rfl rfl rfl ?_);refine (Mg r.2 u s _).mono ?_;rintro e d ⟨rfl,H⟩;have M:Bw p d:=aa (b.alloc b.size _) H;have A:Hid (Bw p d):=M;have C:d.heap[g.heap.size]?=some (.cells #[.i 0,.u 0,.u 0] 280 (0,0)):=(by rw [M.block _ n];exact B.out);have z:g.heap.size<d.heap.size:=Nat.lt_of_lt_of_le n M.size;have f:Hid (d.heap[g.heap.size]?=some (.cells #[.i 0,.u 0,.u 0] 280 (0,0))):=C;have K:∀ o,(d.alloc o).heap[g.heap.size]?=some (.cells #[.i 0,.u 0,.u 0] 280 (0,0)):=(by intro o;rw [((Below.refl d.heap.size d).alloc (Nat.le_refl _) o).block _ z];exact C);have HG3:Hid (∀ o,(d.alloc o).heap[g.heap.size]?=some (.cells #[.i 0,.u 0,.u 0] 280 (0,0))):=K;have vn:Hid (r.1==c)=Hid (r.1==c):=rfl;obtain ⟨G,m⟩:∃ v,nT r.2=v:=⟨_,rfl⟩;obtain ⟨O,D⟩:∃ v,vY s r.2=v:=⟨_,rfl⟩;obtain ⟨P,E⟩:∃ v,vZ s r.2=v:=⟨_,rfl⟩;have R:Hid ((G==c)=false->Hid (dx c s (22-(k+1)) (k+1)=V)):=λh=>(wh c s k j r HR.out N (by rw [u,m,h];rfl)).symm.trans I.out;have S:Hid ((G==c)=true->Hid (V=⟨k,G,O,P,true⟩)):=λh=>I.out.symm.trans (by rw [Fb c s k j r HR.out N u (by rw [m];exact h),m,D,E]);rw [m,D,E];clear vn m D E C K M H mf en X;cases d3:(G==c) with
       | false =>
         have F:=R.out d3;clear R S;go_wp2_with fail;go_roundw;case rel=>exact ⟨k+1,ab,by go_num,F,A.out.alloc A.out.size _⟩
         case measure=>simp [intOf];omega
       | true =>
         have F:=S.out d3;clear R S;have c0:d.cell? ⟨g.heap.size,0,none⟩=some (.i 0):=cell_of_row _ _ _ _ _ _ f.out;have c1:d.cell? ⟨g.heap.size,1,none⟩=some (.u 0):=cell_of_row _ _ _ _ _ _ f.out;have c2:d.cell? ⟨g.heap.size,2,none⟩=some (.u 0):=cell_of_row _ _ _ _ _ _ f.out;have f0:d.frozen? ⟨g.heap.size,0,none⟩=false:=frozen_of_row _ _ _ _ _ f.out;have f1:d.frozen? ⟨g.heap.size,1,none⟩=false:=frozen_of_row _ _ _ _ _ f.out;have f2:d.frozen? ⟨g.heap.size,2,none⟩=false:=frozen_of_row _ _ _ _ _ f.out;go_wp2_with fail;go_region;all_goals go_wp2_with fail
         have L:((((d.setCell ⟨g.heap.size,0,none⟩ (.i G)).setCell ⟨g.heap.size,1,none⟩ (.u O)).setCell ⟨g.heap.size,2,none⟩ (.u P)).alloc (.cells #[.i G,.u O,.u P] 280)).drew.heap[g.heap.size]?=some (.cells #[.i G,.u O,.u P] 280 (0,0)):=(by show (World.alloc _ _).heap[g.heap.size]?=_;rw [(bal _ _).block _ (by simpa [World.setCell] using z)];exact nH (nH (nH f.out 0 _) 1 _) 2 _);refine bodyPost_ret (oO results245 _ _ g.heap.size _ _ _ _ rfl L underlying280 rfl qU) rfl ⟨bh,?_⟩;have Z:=aa t.out A.out;refine Below.drew (Below.alloc (((Z.setCell (Nat.le_refl _) _).setCell (Nat.le_refl _) _).setCell (Nat.le_refl _) _) ?_ _);simpa [World.setCell] using Z.size
  ·have Y:k=22:=ab;subst Y;have F:Hid (V=⟨-1,0,0,0,false⟩):=I.out.symm;have w:wr.heap[g.heap.size]?=some (.cells #[.i 0,.u 0,.u 0] 280 (0,0)):=(by rw [b.block _ n];exact B.out);have q:Hid (wr.heap[g.heap.size]?=some (.cells #[.i 0,.u 0,.u 0] 280 (0,0))):=w;clear w;go_wp2_with (first | (refine wpList_store_rowTo rfl 280 (.tmp 5) (.tmp 41) rfl rfl g.heap.size #[.i 0,.u 0,.u 0] rfl rfl 280 _ q.out qU rfl (Mi _ _ _) ?_));refine bodyPost_ret (oO results245 _ _ g.heap.size _ _ _ _ rfl (setRow_heap _ _ _ _ _ _ q.out) underlying280 rfl qU) rfl ⟨bh,?_⟩;exact aI (aa t.out b) (Nat.le_refl _) _
def CK.goodB:CK->Bool
 | .addr e=>decide (e<4) | _=>true
theorem PY:∀ k,k<22->(gp k).2.goodB=true:=by decide
theorem JK (k:CK) (hk:k.holds=true) (f:k.goodB=true) (a:Option Addr) (cap:Nat) (l:List Int) (x:Int) (w:World) (hz:l.length=22) (hs:Sl .u64 w a l) (hl:∀ j,0<=l.getD j 0/\l.getD j 0<18446744073709551616) (c:0<=x) (d:x<18446744073709551616):CB k.staysF #[k.val,.slice a 22 cap,.u x] w (.u (jF (l.getD 16 0) k x)):=by
 cases k with
 | plain b=>cases hk
 | mst=>cases hk
 | mie=>cases hk
 | mip=>exact JG a cap x w
 | satp=>exact E9 a cap _ x c d w
 | cfg=>exact JH a cap l x w hz hs hl
 | addr e=>exact Fa e (by simpa [CK.goodB] using f) a cap l x w hz hs hl
theorem Cq (k:CK) (hk:k.holds=true) (w:World):(method 425 k.ty k.val "loop.example/g00134/impl.stays").run prog w=.ok (k.staysF,k.val) w:=by cases k<;>first | (cases hk;done) | kernel_rfl
theorem Ak (k:CK) (hk:k.holds=true):(prog.funcs[k.staysF]?).map (λa=>(a.name == "runtime.NumGoroutine",a.body.isSome))=some (false,true):=by cases k<;>first | (cases hk;done) | kernel_rfl
theorem JL (k:CK) (hk:k.holds=true) (a:TypeId) (w:World):(Instr.typeAssert (.iface k.ty k.val) a 294 true).run prog w=.ok (.tuple #[.iface k.ty k.val,.bool true]) w:=by cases k<;>first | (cases hk;done) | exact run_typeAssert_hasB underlying294 ba _ a w
theorem Cr (k:CK) (hk:k.holds=false) (a:TypeId) (w:World):(Instr.typeAssert (.iface k.ty k.val) a 294 true).run prog w=.ok (.tuple #[.nilIface,.bool false]) w:=by cases k<;>first | (cases hk;done) | exact run_typeAssert_lacksB underlying294 ba ba _ a w
def lO (c:Int) (k:CK) (wr x:Int):Int:=if k.holds=true then bits .andNot .u64 wr (jF c k x) else wr
def kU (l:List Int) (k:Nat) (wr x:Int):Int :=
 bits .or .u64 (bits .andNot .u64 (l.getD k 0) (lO (l.getD 16 0) (gp k).2 wr x)) (bits .and .u64 (ig (gp k).2 x) (lO (l.getD 16 0) (gp k).2 wr x))
theorem wj (k:CK) (x:Int) (c:0<=x) (d:x<18446744073709551616) (w:World) (p:Addr) (u:Value) (b:w.cell? p=some u) :
 Calls prog k.fitF #[k.val,.u x] w λe a=>e=.returned (.u (ig k x))/\Bw w a/\a.cell? p=some u :=
 (GZ k x c d w).mono λe a h=>⟨h.1,h.2,(h.2.cell (World.block_lt_of_cell? _ _ b)).trans b⟩
theorem Ff (t:TypeId) (v:Value) (w:World):(Instr.field 126 (.agg #[.i c,.iface t v]) 1).run prog w=.ok (.iface t v) w:=by kernel_rfl
theorem Fg (hk:M<22) (wr x:Int) (w:World) (hz:a.length=22) (hs:Sl .u64 w p a) (hl:∀ j,0<=a.getD j 0/\a.getD j 0<18446744073709551616) (D:0<=x) (E:x<18446744073709551616): CB 248 #[.slice p 22 e,.i M,.u wr,.u x] w (.u (kU a M wr x)):=by
 have g:kU a M wr x=bits .or .u64 (bits .andNot .u64 (a.getD M 0) (lO (a.getD 16 0) (gp M).2 wr x)) (bits .and .u64 (ig (gp M).2 x) (lO (a.getD 16 0) (gp M).2 wr x)):=rfl;have z:=PY M hk;have I:=hs M ab;have m:Hid (∀ (K:CK),K.holds=true->K.goodB=true->∀ w,Sl .u64 w p a->CB K.staysF #[K.val,.slice p 22 e,.u x] w (.u (jF (a.getD 16 0) K x))):=λK S U w hs=>JK K S U p e a x w hz hs hl D E;have Q:Hid (Sl .u64 w p a):=hs;obtain ⟨r,L⟩:∃ r,r=gp M:=⟨_,rfl⟩;have HR:Hid (r=gp M):=L;rw [<- L] at g z;obtain ⟨b,c,rfl,u,O⟩:=I;generalize a.getD M 0=y at *;have X:(0:Int)<=(M:Int):=ab
 have Y:(M:Int)<22:=ab
 have mf:=yO r.2;have en:=qS (wg r.2);have V:=Ff r.1 r.2.ty r.2.val;clear L hz hl hs;cases d:r.2.holds with
 | false =>have q:lO (a.getD 16 0) r.2 wr x=wr:=(by simp [lO,d]);rw [q] at g;have F:Hid (kU a M wr x=bits .or .u64 (bits .andNot .u64 y wr) (bits .and .u64 (ig r.2 x) wr)):=g;clear g q m;have Z:=Cr r.2 d;go_enter func248,ntmps248;go_wp2_with fail;refine (pB _).mono ?_;rintro l w1 ⟨T,rfl,C,t⟩;have H:w1.cell? ⟨b,c+M,none⟩=some (.u y):=(t.cell (by exact u)).trans O;go_wp2_with (first | refine gY C .i64 M hk r HR rfl (.tmp 12) (.tmp 13) rfl rfl rfl ?_);go_region_held3 (λf=>f.cell? ⟨b,c+M,none⟩=some (.u y)) (go_keep) (first | (refine (wj r.2 x D E _ ⟨b,c+M,none⟩ (.u y) ?_).mono ?_;(first | assumption | (simp [*]));rintro l w2 ⟨rfl,o,J⟩));go_wp2_with fail;go_ret;exact ⟨bh,aa (w1:=w1.drew) t.drew o⟩
 | true =>obtain ⟨A,cap⟩:∃ A,jF (a.getD 16 0) r.2 x=A:=⟨_,rfl⟩;have q:lO (a.getD 16 0) r.2 wr x=bits .andNot .u64 wr A:=(by unfold lO;rw [if_pos d,cap]);rw [q] at g;obtain ⟨B,k⟩:∃ B,bits .andNot .u64 wr A=B:=⟨_,rfl⟩;rw [k] at g;have F:Hid (kU a M wr x=bits .or .u64 (bits .andNot .u64 y B) (bits .and .u64 (ig r.2 x) B)):=g;have s:Hid (∀ w,Sl .u64 w (some ⟨b,c,none⟩) a->CB r.2.staysF #[r.2.val,.slice (some ⟨b,c,none⟩) 22 e,.u x] w (.u A)):=(by rw [<- cap];exact m.out r.2 d z);clear g q m cap;have W:=JL r.2 d;have mf2:=Cq r.2 d;have R:=qS (Ak r.2 d);go_enter func248,ntmps248;go_wp2_with fail;refine (pB _).mono ?_;rintro l w1 ⟨T,rfl,C,t⟩;go_wp2_with (first | refine gY C .i64 M hk r HR rfl (.tmp 12) (.tmp 13) rfl rfl rfl ?_);refine (s.out _ (Q.out.below t)).mono ?_;rintro l P ⟨rfl,G⟩;have N:=aa t G;have H:P.cell? ⟨b,c+M,none⟩=some (.u y):=(N.cell (by exact u)).trans O;go_wp2_with fail;go_region_held3 (λf=>f.cell? ⟨b,c+M,none⟩=some (.u y)) (go_keep) (first | (refine (wj r.2 x D E _ ⟨b,c+M,none⟩ (.u y) ?_).mono ?_;(first | assumption | (simp [*]));rintro l w2 ⟨rfl,o,J⟩));go_wp2_with fail;go_ret;exact ⟨bh,aa (w1:=P.drew) N.drew o⟩
theorem wk (p:Int) (w:World):CE 109 #[.i p] w (.bool (cg p)):=by
 have F:Hid (cg p=((p==0)||(p==1)||(p==3))):=(rfl:cg p=_);cases b:(p==0) with
 | true =>rw [b] at F;exact a0b
 | false =>
   cases c:(p==1) with
   | true =>rw [b,c] at F;exact a0b
   | false =>rw [b,c] at F;exact a0b
def nI (n p:Int):Bool:=cg p&&decide (bits .and .i64 (n/256) 3<=p)
theorem qV:CE 244 #[.i c,.i s] g (.bool (nI c s)):=by
 have d:Hid (∀ g,CE 109 #[.i s] g (.bool (cg s))):=wk s;have F:Hid (nI c s=(cg s&&decide (bits .and .i64 (c/256) 3<=s))):=(rfl:nI c s=_);generalize cg s=q at *;cases q with
 | false =>go_enter func244,ntmps244;go_wp2_with fail;refine (d.out _).mono ?_;rintro e f ⟨rfl,b⟩;exact a05
 | true =>go_enter func244,ntmps244;go_wp2_with fail;refine (d.out _).mono ?_;rintro e f ⟨rfl,b⟩;exact a05
def tK (n:Int):Bool:=(bits .and .i64 (n/1024) 3==3)
theorem Al:CE 247 #[.i c] g (.bool (tK c)):=by have F:Hid (tK c=(bits .and .i64 (c/1024) 3==3)):=(rfl:tK c=_);go_enter func247,ntmps247;exact a02
def wm (n:Int):Bool:=(n==769)||(n==3860)
def xS (n:Int):Int:=if n=769 then 9223372036856090881 else 0
theorem qW (n:Int) (w:World):CE 246 #[.i n] w (.tuple #[.u (xS n),.bool (wm n)]):=by
 by_cases b:n=769;·subst b;go_enter func246,ntmps246;go_wp2_with fail;go_ret2;exact a07
 ·by_cases c:n=3860;·subst c;go_enter func246,ntmps246;go_wp2_with fail;go_ret2;exact ⟨rfl,rfl⟩
  ·have f:(n==769)=false:=la;have g:(n==3860)=false:=i6;have F:Hid (xS n=0/\wm n=false):=⟨by simp [xS,b],by simp [wm,b,c]⟩;clear b c;go_enter func246,ntmps246;go_wp2_with fail;go_ret2;exact ⟨by rw [F.out.1,F.out.2];rfl,rfl⟩
theorem qX:g.ownsRow M 22 1 (.slice none 0 0) 0 (([]:List Int).map (Value.int .u64)):=⟨rfl,.inl ⟨rfl,rfl⟩⟩
theorem nU:Calls prog 221 #[] g λe o=>e=.returned (.slice (some ⟨g.heap.size,0,none⟩) 22 22) /\ o.ownsRow g.heap.size 22 1 (.slice (some ⟨g.heap.size,0,none⟩) 22 22) 22 ((List.replicate 22 (0:Int)).map (Value.int .u64))/\Bw g o:=by
 obtain ⟨m,p,j,l,d⟩:=info_parts Bq;have f:m.bytes*22<=281474976710656:=by rw [d];omega
 have w:22<=maxLen:=by unfold maxLen;omega
 clear d;go_enter func221,ntmps221;go_wp2_with (at_make;refine wpList_make_full _ rfl (.const (.i 22)) (.const (.i 22)) 23 rfl g.heap.size 22 m (.u 0) 1 underlying23 p j l .i64 .i64 _ _ 22 rfl rfl rfl rfl f w (Nat.le_refl _) ?_;intro q c b);go_ret;refine ⟨rfl,?_,(Below.refl _ _).grown b (Nat.le_refl _) tk⟩;have e:(List.replicate 22 (0:Int)).map (Value.int .u64)=List.replicate 22 (.u 0):=cp
 rw [e,<- toList_madeCells_one];simpa [Value.cells] using c
theorem Ct:∀ f k,k+f<=22->(dx c s f k).ok=true->∃ j:Nat,j<22/\(dx c s f k).at_=(j:Int):=by
 intro f;induction f with
 | zero=>intro k _ h;cases h
 | succ f a =>
   intro k b;unfold dx;split;·intro _;exact ⟨k,ab,rfl⟩
   ·split;·intro _;exact ⟨k,ab,rfl⟩
    ·exact a (k+1) ab
def Fh (m:Nat) (l:List Int) (n p:Int):Bool:=j5 m l&&nI n p
def sm (m:Nat) (l:List Int) (n p:Int):Bool:=Fh m l n p&&((dx n (l.getD 2 0) 22 0).ok||wm n)
def wo (m:Nat) (l:List Int) (n p:Int):Int :=
 if Fh m l n p=true then (if (dx n (l.getD 2 0) 22 0).ok=true then bits .and .u64 (l.getD (dx n (l.getD 2 0) 22 0).at_.toNat 0) (dx n (l.getD 2 0) 22 0).rd else xS n) else 0
theorem wq (h:j5 x l=true):x=22:=by simp only [j5,Bool.and_eq_true,decide_eq_true_eq] at h;exact h.1
theorem ut (cap:Nat) (l:List Int) (n a:Int) (w:World) (hz:l.length=e) (hs:Sl .u64 w p l) (hl:∀ j,0<=l.getD j 0/\l.getD j 0<18446744073709551616): CB 215 #[.slice p e cap,.i n,.i a] w (.tuple #[.u (wo e l n a),.bool (sm e l n a)]):=by
 have q:=λW (J:Bw w W)=>jG p e cap l W hz (hs.below J) hl;have v:=qV n a;refine bD (S:=Bs w []) (args:=[.slice p e cap,.i n,.i a]) [] func215 ?_;unfold wo sm Fh;generalize nI n a=M at *;cases i:j5 e l<;>rw [i] at q;case' true=>cases M
 case true.true =>
  have L:=wq i;subst L;have G:=qW n;have x:=wi n (l.getD 2 0);have f:=Ct n (l.getD 2 0) 22 0 ab;obtain ⟨b,c,rfl,d,H⟩:=hs 2 ab;generalize dx n (l.getD 2 0) 22 0=V at *;generalize l.getD 2 0=u at *;generalize xS n=Q at *;generalize wm n=P at *;obtain ⟨X,C,D,E,N⟩:=V;simp only [Vw.cells] at x f;refine ae Bs.eng {ov:=[(24,je ⟨b,c+2,none⟩ (.u u) underlying22 rfl λW h=>(h.2.cell (by exact d)).trans H)],cv:=[(12,fY q),(17,mL λW _=>v W),(25,fY λW _=>x W)]} 60 (Bs.start _ _) λW h=>?_;refine dM 1 (dQ (T:=280) (z:=.agg #[.i 0,.u 0,.u 0]) ba W) ?_;refine ct (R:=[]) trivial {} 9 (aD (g:=W.heap.size) (t:=280) (ty:=280) (cells:=#[.i C,.u D,.u E]) (heap_alloc_new _ _) ba rfl ba) ?_;refine aJ (R1 w W.heap.size #[.i C,.u D,.u E] 280) ?_;cases N;case true =>obtain ⟨k,U,r⟩:=f rfl;subst r;obtain ⟨O,B,m,K,I⟩:=hs k ab;cases m;rw [Int.toNat_natCast];generalize l.getD k 0=y at *;exact eY (t:=6) (s:=7) R1.eng {ov:=[(37,kJ (a:=some ⟨b,c,none⟩) (b:=b) (o:=c) 22 cap .i64 (k:Int) rfl ⟨ab,ab⟩ underlying23 ba),(38,je ⟨b,c+(k:Int).toNat,none⟩ (.u y) underlying22 rfl λW h=>(h.2.cell (by exact d)).trans I)]} 60 (R1.new h.2) (λA h=>⟨rfl,h.2⟩)
  exact eY (t:=6) (s:=7) R1.eng {cv:=[(32,jQ R1.below λW _=>(G W).mono λm F h=>⟨h.1,by rw [h.2];exact Below.refl _ _⟩)]} 60 (R1.new h.2) (λA h=>⟨rfl,h.2⟩)
 all_goals exact eY (t:=6) (s:=7) Bs.eng {cv:=[(12,fY q),(17,mL λW _=>v W)]} 60 (Bs.start _ _) (λA h=>⟨rfl,h.2⟩)
def pC (m:Nat) (l:List Int) (n p:Int):Bool:=Fh m l n p&&!tK n&&((dx n (l.getD 2 0) 22 0).ok||wm n)
def nJ (l:List Int) (n x:Int):List Int :=
 if (dx n (l.getD 2 0) 22 0).ok=true then l.set (dx n (l.getD 2 0) 22 0).at_.toNat (kU l (dx n (l.getD 2 0) 22 0).at_.toNat (dx n (l.getD 2 0) 22 0).wr x) else l
def nK (m:Nat) (l:List Int) (n p x:Int):List Int:=if pC m l n p=true then nJ l n x else []
theorem G4 {g w:Nat} (hb:x<=g) (hz:l.length=w) (hn:w<=maxLen) (h:n.heap[g]?=some (.cells (l.map (Value.int .u64)).toArray m (0,0))):n.ownsRow x m 1 (.slice (some ⟨g,0,none⟩) w w) w (l.map (Value.int .u64)):=
 ⟨vo,.inr ⟨g,w,_,rfl,hb,h,Nat.le_refl _,hn,vo,by subst hz;simp [List.take_of_length_le]⟩⟩
theorem sn (m x:Int) (w:World) (hz:a.length=e) (hs:Sl .u64 w p a) (hl:∀ j,0<=a.getD j 0/\a.getD j 0<18446744073709551616) (h0:0<=x) (h1:x<18446744073709551616): Calls prog 216 #[.slice p e y,.i c,.i m,.u x] w λcap w'=>∃ (a':Option Addr) (n:Nat),cap=.returned (.tuple #[.slice a' (nK e a c m x).length n,.bool (pC e a c m)]) /\ w'.ownsRow w.heap.size 22 1 (.slice a' (nK e a c m x).length n) (nK e a c m x).length ((nK e a c m x).map (Value.int .u64))/\Bw w w':=by
 have J:=λW (H:Bw w W)=>jG p e y a W hz (hs.below H) hl
 have Q:=qV c m
 have U:=Al c
 refine bD (S:=Bs w []) (args:=[.slice p e y,.i c,.i m,.u x]) [] func216 ?_
 have F:pC e a c m=(j5 e a&&nI c m&&!tK c&&((dx c (a.getD 2 0) 22 0).ok||wm c)):=rfl
 have I:nJ a c x=if (dx c (a.getD 2 0) 22 0).ok=true then a.set (dx c (a.getD 2 0) 22 0).at_.toNat (kU a (dx c (a.getD 2 0) 22 0).at_.toNat (dx c (a.getD 2 0) 22 0).wr x) else a:=rfl
 unfold nK
 generalize nI c m=re at *
 generalize tK c=on at *
 generalize pC e a c m=wb at *
 generalize nJ a c x=L at *
 cases D:j5 e a<;>rw [D] at J F
 case' true=>cases re;case' true=>cases on
 case true.true.false =>
  have hm:=wq D
  subst hm
  have HF:=qW c
  have Z:=wi c (a.getD 2 0)
  have C:=Ct c (a.getD 2 0) 22 0 ab
  obtain ⟨b,r,rfl,N,c2⟩:=hs 2 ab
  generalize dx c (a.getD 2 0) 22 0=V at *
  generalize a.getD 2 0=O at *
  generalize xS c=fv at *
  generalize wm c=G at *
  obtain ⟨va,A,B,d,E⟩:=V
  simp only [Vw.cells] at Z C F I
  refine ae Bs.eng {ov:=[(33,je ⟨b,r+2,none⟩ (.u O) underlying22 rfl λW h=>(h.2.cell (by exact N)).trans c2)],cv:=[(17,fY J),(22,mL λW _=>Q W),(27,mL λW _=>U W),(34,fY λW _=>Z W)]} 60 (Bs.start _ _) λW h=>?_
  refine dM 1 (dQ (T:=280) (z:=.agg #[.i 0,.u 0,.u 0]) ba W) ?_
  refine ct (R:=[]) trivial {} 9 (aD (g:=W.heap.size) (t:=280) (ty:=280) (cells:=#[.i A,.u B,.u d]) (heap_alloc_new _ _) ba rfl ba) ?_
  refine aJ (R1 w W.heap.size #[.i A,.u B,.u d] 280) ?_
  have hF:∀ X,R1 w W.heap.size #[.i A,.u B,.u d] 280 X->_:=λX _=>(HF X).mono λcap w' (h:_/\w'=X)=>(⟨h.1,by rw [h.2];exact Below.refl _ _⟩:_/\Bw X w')
  have ho:wb=(E||G):=F
  subst ho
  obtain rfl|⟨rfl,rfl⟩|⟨rfl,rfl⟩:E=true\/(E=false/\G=true)\/E=false/\G=false:=by cases E<;>cases G<;>simp
  case inr.inr=>exact eY (t:=8) (s:=9) R1.eng {cv:=[(40,jQ R1.below hF)]} 60 (R1.new h.2) (λK h=>⟨none,0,rfl,qX _ _,h.2⟩)
  all_goals
   refine ae R1.eng {cv:=[(40,jQ R1.below hF)]} 60 (R1.new h.2) λX f=>?_
   refine dM 1 (s:=do pure (.value (<- Instr.makeSlice 23 (.i 22) (.i 22)))) (v:=.slice (some ⟨X.heap.size,0,none⟩) 22 22) (w':=X.alloc (.cells (Array.replicate 22 (.u 0)) 22)) ba ?_
   have H:=f.2.alloc f.2.size (.cells (Array.replicate 22 (.u 0)) 22)
   refine kz (R:=[]) trivial {} 30 0 (s:=do pure (.value (<- Builtin.copy_ #[23,23] 3 #[.slice (some ⟨X.heap.size,0,none⟩) 22 22,.slice (some ⟨b,r,none⟩) 22 y]))) (v:=goInt (a.map (Value.int .u64)).length) (w':=(X.alloc (.cells (Array.replicate 22 (.u 0)) 22)).setRow X.heap.size (a.map (Value.int .u64)).toArray) ?_ ?_
   ·have hc:=run_copy_row (P:=prog) _ 23 23 3 22 X.heap.size 0 22 22 ⟨b,r,none⟩ 22 y _ _ (a.map (Value.int .u64)) underlying23 ba (heap_alloc_new X (.cells (Array.replicate 22 (.u 0)) 22)) vo (λj v h=>by
     rw [List.getElem?_map] at h
     obtain ⟨l,hy,rfl⟩:=Option.map_eq_some_iff.1 h
     obtain ⟨b',o',cap,_,n⟩:=hs.below H j (List.getElem?_eq_some_iff.1 hy).1
     cases cap
     rw [zB,n,List.getD,hy];rfl) vo (λv h=>by obtain ⟨l,_,rfl⟩:=List.mem_map.1 h;rfl)
    simp only [List.take_zero,List.nil_append,Nat.zero_add,List.length_map,hz,Array.toList_replicate,List.drop_replicate,Nat.sub_self,List.replicate_zero,List.append_nil] at hc ⊢
    simp [hc,Result.andThen]
   have h2:R2 w W.heap.size #[.i A,.u B,.u d] 280 X.heap.size (a.map (Value.int .u64)).toArray 22 ((X.alloc (.cells (Array.replicate 22 (.u 0)) 22)).setRow X.heap.size (a.map (Value.int .u64)).toArray):=by
    have hx:=(Array.getElem?_eq_some_iff.1 f.1).1
    exact ⟨⟨(setRow_other _ _ _ _ ab).trans ((Below.heap_alloc X _ _ hx).trans f.1),aS H f.2.size _⟩,setRow_heap _ _ _ _ _ _ (heap_alloc_new _ _)⟩
   refine aJ (R2 w W.heap.size #[.i A,.u B,.u d] 280 X.heap.size (a.map (Value.int .u64)).toArray 22) ?_
  case inr.inl =>
   have cap:L=a:=I
   rw [cap]
   exact eY (t:=8) (s:=9) (v:=.slice (some ⟨X.heap.size,0,none⟩) 22 22) (u:=.bool true) R2.eng {} 60 h2 (λK h=>⟨_,22,by show _=Ending.returned (.tuple #[.slice _ a.length 22,.bool true]);rw [hz],by show World.ownsRow _ _ _ _ (.slice _ a.length 22) a.length (a.map _);rw [hz];exact G4 f.2.size hz bc h.2,h.1.2⟩)
  obtain ⟨k,hk,rfl⟩:=C rfl
  have HB:=λY (h:R2 w W.heap.size #[.i A,.u B,.u d] 280 X.heap.size (a.map (Value.int .u64)).toArray 22 Y)=>Fg _ y a k hk d x Y hz (hs.below h.1.2) hl h0 h1
  have cap:L=a.set k (kU a k d x):=I
  rw [cap]
  generalize kU a k d x=l at *
  refine ae R2.eng {ov:=[(62,kJ (a:=some ⟨X.heap.size,0,none⟩) (b:=X.heap.size) (o:=0) 22 22 .i64 (k:Int) rfl ⟨ab,ab⟩ underlying23 ba)],cv:=[(61,jQ R2.below HB)]} 60 h2 λY M=>?_
  refine bM (bJ (i:=0+(k:Int).toNat) (T:=22) (v:=.u l) M.2 (by simp [hz];omega) ba rfl) ?_
  have hr:=jX (j:=0+(k:Int).toNat) M.2 (.u l)
  have er:((a.map (Value.int .u64)).toArray.set! (0+(k:Int).toNat) (.u l))=((a.set k l).map (Value.int .u64)).toArray:=by simp [List.map_set]
  rw [er] at hr
  refine aJ (R1 w X.heap.size ((a.set k l).map (Value.int .u64)).toArray 22) ?_
  have q:(a.set k l).length=22:=by rw [List.length_set,hz]
  exact eY (t:=8) (s:=9) (v:=.slice (some ⟨X.heap.size,0,none⟩) 22 22) (u:=.bool true) R1.eng {} 60 ⟨hr,M.1.2.setCell f.2.size _⟩ (λK h=>⟨_,22,by show _=Ending.returned (.tuple #[.slice _ (a.set k l).length 22,.bool true]);rw [q],by show World.ownsRow _ _ _ _ (.slice _ (a.set k l).length 22) (a.set k l).length ((a.set k l).map _);rw [q];exact G4 f.2.size q bc h.1,h.2⟩)
 all_goals
  obtain rfl:wb=false:=F
  exact eY (t:=8) (s:=9) Bs.eng {cv:=[(17,fY J),(22,mL λW _=>Q W),(27,mL λW _=>U W)]} 60 (Bs.start _ _) (λK h=>⟨none,0,rfl,qX _ _,h.2⟩)
theorem UT:∀ i,i<64->∀ (p q:Bool) (o:Bool),(((if i=0 then p else if i=1 then q else o)&&bt 924074 (i+11))&&bt 3 i)=bt ((if p=true then 1 else 0)+(if q=true then 2 else 0)) i:=by decide +kernel
theorem Se:∀ i,i<64->∀ (p q:Bool) (o:Bool),((if i=11 then p else if i=12 then q else o)&&bt 6144 i)=bt ((if p=true then 2048 else 0)+(if q=true then 4096 else 0)) i:=by decide +kernel
theorem Mj (h:U c):ig .mst c=mst c:=by
 have e:bits .and .u64 (bits .and .u64 c 924074/2048) 3=(if bt c 11=true then 1 else 0)+(if bt c 12=true then 2 else 0):=by
  refine bA _ _ (ah _ _ _) l6 λi x=>?_;have d:=jD (bits .and .u64 c 924074) (ah _ _ _) 11 i;rw [show ((2:Int)^11)=2048 from bc] at d;rw [az,d,az,<- UT i x (bt c 11) (bt c 12) (bt c (i+11))];by_cases a:i=0;·subst a;rfl
  ·by_cases b:i=1;·subst b;rfl
   ·rw [if_neg a,if_neg b]
 have e2:bits .and .u64 c 6144=(if bt c 11=true then 2048 else 0)+(if bt c 12=true then 4096 else 0):=by
  refine bA _ _ (ah _ _ _) l6 λi x=>?_;rw [az,<- Se i x (bt c 11) (bt c 12) (bt c i)];by_cases a:i=11;·subst a;rfl
  ·by_cases b:i=12;·subst b;rfl
   ·rw [if_neg a,if_neg b]
 show (if (bits .and .u64 c 6144==4096)=true then bits .andNot .u64 (bits .and .u64 c 924074) 6144 else bits .and .u64 c 924074)=mst c;unfold mst;rw [e,e2];cases bt c 11<;>cases bt c 12<;>rfl
theorem VX:∀ i,i<64->∀ a:Bool,(a&&bt 18446744073709551613 i)=(a&&!bt 2 i):=by decide +kernel
theorem VY:∀ i,i<64->∀ a:Bool,(a&&bt 18446744073709551612 i)=(a&&!bt 3 i):=by decide +kernel
theorem Am:∀ i,i<64->bt 18446744073709551615 i=true:=by decide +kernel
theorem Tn:∀ i,i<64->∀ a:Bool,((decide (i<8)&&a)&&bt 159 i)=(a&&bt 159 i):=by decide +kernel
theorem UU:bits .and .u64 c 18446744073709551613=bits .andNot .u64 c 2 :=
 bA _ _ (ah _ _ _) (ah _ _ _) λi a=>by rw [az,aA _ _ _ a];exact VX i a _
theorem To:bits .and .u64 c 18446744073709551612=bits .andNot .u64 c 3 :=
 bA _ _ (ah _ _ _) (ah _ _ _) λi a=>by rw [az,aA _ _ _ a];exact VY i a _
theorem pE (h:U c):bits .and .u64 c 18446744073709551615=c :=
 bA _ _ (ah _ _ _) h λi a=>by rw [az,Am i a,Bool.and_true]
theorem P1 (h:U c) (k:Nat):Cn c k=jx c k:=by
 have e:bits .and .u64 (dg c (8*k) 8) 159=bits .and .u64 (c/2^(8*k)) 159 :=
  bA _ _ (ah _ _ _) (ah _ _ _) λi a=>by
   rw [az,az,kM c h _ _ _ ab,jD c h];exact Tn i a _
 unfold Cn jx;rw [e]
theorem Ml (h:U c) (k:Nat):qj c k=dq c k:=by
 induction k with
 | zero=>rfl
 | succ k a=>rw [qj,dq,a,P1 c h]
theorem yP (h:U c) (k:Nat) (hk:k<22) (b:k≠9) (a:k≠15):ig (gp k).2 c=bn k c:=by
 have:k=0\/k=1\/k=2\/k=3\/k=4\/k=5\/k=6\/k=7\/k=8\/k=10\/k=11\/k=12\/k=13\/k=14\/k=16\/k=17\/k=18\/k=19\/k=20\/k=21:=ab
 rcases this with rfl|rfl|rfl|rfl|rfl|rfl|rfl|rfl|rfl|rfl|rfl|rfl|rfl|rfl|rfl|rfl|rfl|rfl|rfl|rfl;·exact Mj c h
 ·rfl
 ·rfl
 ·rfl
 ·exact UU c
 ·exact pE c h
 ·exact To c
 ·rfl
 ·exact pE c h
 ·exact UU c
 ·exact pE c h
 ·exact To c
 ·rfl
 ·exact pE c h
 ·exact Ml c h 4
 ·rfl
 ·rfl
 ·rfl
 ·rfl
 ·exact pE c h
theorem G5 (h:U c):iz c=((c/1152921504606846976==0)||(c/1152921504606846976==8)):=by
 have e:dg c 60 4=c/1152921504606846976:=by unfold dg;rw [show ((2:Int)^60)=1152921504606846976 from bc,show ((2:Int)^4)=16 from bc];have:=h.1;have:=h.2;omega
 unfold iz;rw [e]
theorem Tp (x:Int) (h:U x) (k:Nat) (hk:k<22):(ig (gp k).2 x==x)=fq k x:=by
 by_cases b:k=9;·subst b;rfl
 ·by_cases a:k=15
  ·subst a;show (ig .satp x==x)=((x/1152921504606846976==0)||(x/1152921504606846976==8));rw [<- G5 x h];show ((if iz x=true then x else 0)==x)=iz x;cases c:iz x with
   | true=>simp
   | false =>have d:x≠0:=(by rintro rfl;revert c;decide);simp only [Bool.false_eq_true,if_false,beq_eq_false_iff_ne];exact λh=>d h.symm
  ·rw [yP x h k hk b a];unfold fq;rw [if_neg b,if_neg a]
theorem Cu (hl:∀ j,U (k.getD j 0)):∀ n l,l+n<=22->dK k n l=fH k n l:=by
 intro n;induction n with
 | zero=>intro l _;rfl
 | succ n a =>intro l b;rw [dK,fH,Tp _ (hl l) l ab,a (l+1) ab]
theorem sp (hl:∀ j,U (a.getD j 0)):j5 e a=bo e a:=by unfold j5 bo;rw [Cu a hl 22 0 ab]
def nums:List Int:=[768,770,771,772,773,832,833,834,835,836,261,320,321,322,323,384,928,944,945,946,947,2818,256,260,324]
theorem P4:∀ k,k<22->(gp k).1 ∈ nums:=by decide
theorem Mm:∀ k,k<22->eg.getD k 0 ∈ nums:=by decide
theorem lP (h:c ∉ nums):∀ f k,k+f<=22->dx c s f k=⟨-1,0,0,0,false⟩:=by
 intro f;induction f with
 | zero=>intro k _;rfl
 | succ f n =>
   intro k g;have a:((gp k).1==c)=false:=(by rw [beq_eq_false_iff_ne];intro e;exact h (e ▸ P4 k ab));have b:((gp k).2.sees&&(nT (gp k).2==c))=false:=by cases d:(gp k).2<;>first | rfl | (simp only [CK.sees,nT,Bool.true_and,beq_eq_false_iff_ne];intro e;apply h;rw [<- e];decide)
   rw [dx,if_neg (by rw [a];decide),if_neg (by rw [b];decide)];exact n (k+1) ab
theorem An (h:c ∉ nums):∀ f k,k+f<=22->eH c f k=-1:=by
 intro f;induction f with
 | zero=>intro k _;rfl
 | succ f b =>intro k n;have a:(eg.getD k 0==c)=false:=(by rw [beq_eq_false_iff_ne];intro e;exact h (e ▸ Mm k ab));rw [eH,if_neg (by rw [a];decide)];exact b (k+1) ab
theorem tL (h:c ∉ nums):cZ c=-1:=by unfold cZ;rw [if_neg (λe=>h (by rw [e];decide)),if_neg (λe=>h (by rw [e];decide)),if_neg (λe=>h (by rw [e];decide))];exact An c h 22 0 ab
theorem j6 (h:c ∈ nums):c=768\/c=770\/c=771\/c=772\/c=773\/c=832\/c=833\/c=834\/c=835\/c=836\/c=261\/c=320\/c=321\/c=322\/c=323\/c=384\/c=928\/c=944\/c=945\/c=946\/c=947\/c=2818\/c=256\/c=260\/c=324:=by simpa [nums] using h
theorem Cx:((dx c s 22 0).ok||wm c)=dt c:=by
 by_cases h:c ∈ nums;·rcases j6 c h with rfl|rfl|rfl|rfl|rfl|rfl|rfl|rfl|rfl|rfl|rfl|rfl|rfl|rfl|rfl|rfl|rfl|rfl|rfl|rfl|rfl|rfl|rfl|rfl|rfl<;>rfl
 ·rw [lP c s h 22 0 ab];unfold dt wm;rw [tL c h];cases (c==769)<;>cases (c==3860)<;>rfl
theorem kE (h:dt c=true):c=3860\/c=769\/c ∈ nums:=by
 by_cases a:c ∈ nums;·exact .inr (.inr a)
 ·simp only [dt,tL c a,Bool.or_eq_true,beq_iff_eq,decide_eq_true_eq] at h;omega
theorem Mn (h:dt c=true):nI c s=(cg s&&decide ((wrap64 (c.tdiv 256)).tmod 4<=s)):=by
 have e:bits .and .i64 (c/256) 3=(wrap64 (c.tdiv 256)).tmod 4:=by
  rcases kE c h with rfl|rfl|a;·decide +kernel
  ·decide +kernel
  ·rcases j6 c a with rfl|rfl|rfl|rfl|rfl|rfl|rfl|rfl|rfl|rfl|rfl|rfl|rfl|rfl|rfl|rfl|rfl|rfl|rfl|rfl|rfl|rfl|rfl|rfl|rfl<;>decide +kernel
 unfold nI;rw [e]
theorem P5 (h:dt c=true):tK c=((wrap64 (c.tdiv 1024)).tmod 4==3):=by
 have e:bits .and .i64 (c/1024) 3=(wrap64 (c.tdiv 1024)).tmod 4:=by
  rcases kE c h with rfl|rfl|a;·decide +kernel
  ·decide +kernel
  ·rcases j6 c a with rfl|rfl|rfl|rfl|rfl|rfl|rfl|rfl|rfl|rfl|rfl|rfl|rfl|rfl|rfl|rfl|rfl|rfl|rfl|rfl|rfl|rfl|rfl|rfl|rfl<;>decide +kernel
 unfold tK;rw [e]
theorem wu (l:List Int) (hl:∀ j,U (l.getD j 0)) (n p:Int):sm e l n p=iS e l n p:=by
 unfold sm iS Fh;rw [sp e l hl,Cx];cases a:dt n with
 | false=>simp
 | true =>rw [Mn n p a];cases bo e l<;>cases cg p<;>simp
theorem dD (hl:∀ j,U (k.getD j 0)) (n:Int) (l:Nat) (a:dx n (k.getD 2 0) 22 0=⟨l,n,18446744073709551615,18446744073709551615,true⟩) (hr:de k n=k.getD l 0): (if (dx n (k.getD 2 0) 22 0).ok=true then bits .and .u64 (k.getD (dx n (k.getD 2 0) 22 0).at_.toNat 0) (dx n (k.getD 2 0) 22 0).rd else xS n)=de k n:=by rw [a,hr];show bits .and .u64 (k.getD ((l:Int)).toNat 0) 18446744073709551615=_;rw [Int.toNat_natCast,pE _ (hl l)]
theorem P7 (hl:∀ j,U (k.getD j 0)) (n:Int) (h:dt n=true): (if (dx n (k.getD 2 0) 22 0).ok=true then bits .and .u64 (k.getD (dx n (k.getD 2 0) 22 0).at_.toNat 0) (dx n (k.getD 2 0) 22 0).rd else xS n)=de k n:=by
 rcases kE n h with rfl|rfl|a;·rw [lP 3860 _ bc 22 0 ab];rfl
 ·rw [lP 769 _ bc 22 0 ab];rfl
 ·rcases j6 n a with rfl|rfl|rfl|rfl|rfl|rfl|rfl|rfl|rfl|rfl|rfl|rfl|rfl|rfl|rfl|rfl|rfl|rfl|rfl|rfl|rfl|rfl|rfl|rfl|rfl;·exact dD k hl 768 0 rfl rfl
  ·exact dD k hl 770 1 rfl rfl
  ·exact dD k hl 771 2 rfl rfl
  ·exact dD k hl 772 3 rfl rfl
  ·exact dD k hl 773 4 rfl rfl
  ·exact dD k hl 832 5 rfl rfl
  ·exact dD k hl 833 6 rfl rfl
  ·exact dD k hl 834 7 rfl rfl
  ·exact dD k hl 835 8 rfl rfl
  ·exact dD k hl 836 9 rfl rfl
  ·exact dD k hl 261 10 rfl rfl
  ·exact dD k hl 320 11 rfl rfl
  ·exact dD k hl 321 12 rfl rfl
  ·exact dD k hl 322 13 rfl rfl
  ·exact dD k hl 323 14 rfl rfl
  ·exact dD k hl 384 15 rfl rfl
  ·exact dD k hl 928 16 rfl rfl
  ·exact dD k hl 944 17 rfl rfl
  ·exact dD k hl 945 18 rfl rfl
  ·exact dD k hl 946 19 rfl rfl
  ·exact dD k hl 947 20 rfl rfl
  ·exact dD k hl 2818 21 rfl rfl
  ·rfl
  ·rfl
  ·rfl
theorem Mo (hl:∀ j,U (a.getD j 0)) (n p:Int):wo e a n p=(if iS e a n p=true then de a n else 0):=by
 have l:=wu e a hl n p;unfold sm at l;rw [Cx] at l;cases b:dt n with
 | false =>have d:iS e a n p=false:=(by unfold iS;rw [b];cases bo e a<;>rfl);rw [d,if_neg bc];unfold wo;have c:=Cx n (a.getD 2 0);rw [b,Bool.or_eq_false_iff] at c;rw [c.1];have m:xS n=0:=(by have:=c.2;simp only [wm,Bool.or_eq_false_iff,beq_eq_false_iff_ne] at this;unfold xS;rw [if_neg this.1]);rw [m];cases Fh e a n p<;>rfl
 | true =>rw [b,Bool.and_true] at l;unfold wo;rw [l,P7 a hl n b]
theorem Ao (h:U s):bits .or .u64 (bits .andNot .u64 c 18446744073709551615) (bits .and .u64 s 18446744073709551615)=s :=
 bA _ _ (ah _ _ _) h λi a=>by rw [cC,aA _ _ _ a,az,Am i a];cases bt c i<;>cases bt s i<;>rfl
theorem G9 (h:U c):bits .or .u64 (bits .andNot .u64 c 0) (bits .and .u64 s 0)=c :=
 bA _ _ (ah _ _ _) h λi b=>by
  have a:bt 0 i=false:=by unfold bt;simp
  rw [cC,aA _ _ _ b,az,a];cases bt c i<;>cases bt s i<;>rfl
theorem yQ:bits .andNot .u64 18446744073709551615 0=18446744073709551615:=by decide +kernel
theorem tM:bits .andNot .u64 18446744073709551615 18446744073709551615=0:=by decide +kernel
theorem UV (k:CK) (x:Int) (h:U x):U (ig k x):=by
 cases k with
 | plain b=>exact ah .and x b
 | mst =>
   show U (if (bits .and .u64 x 6144==4096)=true then bits .andNot .u64 (bits .and .u64 x 924074) 6144 else bits .and .u64 x 924074);split;·exact ah _ _ _
   ·exact ah _ _ _
 | mie=>exact ah .and x 2730
 | mip=>exact ah .and x 2730
 | satp =>
   show U (if iz x=true then x else 0);split;·exact h
   ·constructor<;>decide
 | cfg=>rw [show ig .cfg x=qj x 4 from rfl,qj];exact ah _ _ _
 | addr e=>exact ah .and x 18014398509481983
theorem JM (hk:(gp e).2.holds=false) (x:Int) (h:U x):kU k e 18446744073709551615 x=ig (gp e).2 x:=by unfold kU lO;rw [hk,if_neg bc];exact Ao _ _ (UV _ x h)
theorem mZ (hk:e<k.length):k.set e (k.getD e 0)=k:=by
 have l:k.getD e 0=k[e]:=by simp [List.getD,List.getElem?_eq_getElem hk]
 rw [l,List.set_getElem_self]
theorem Tr:∀ i,i<64->∀ y x:Bool,(((y&&bt 2730 i)&&!(bt 18446744073709551615 i&&!bt 2184 i))||((x&&bt 2730 i)&&(bt 18446744073709551615 i&&!bt 2184 i)))=(((y&&bt 2730 i)&&!bt 546 i)||(x&&bt 546 i)):=by decide +kernel
theorem Mq (hy:bits .and .u64 c 2730=c): bits .or .u64 (bits .andNot .u64 c (bits .andNot .u64 18446744073709551615 2184)) (bits .and .u64 (bits .and .u64 s 2730) (bits .andNot .u64 18446744073709551615 2184))=iT c 546 s:=by
 unfold iT;refine bA _ _ (ah _ _ _) (ah _ _ _) λi a=>?_;have b:bt c i=(bt c i&&bt 2730 i):=by conv=>lhs;rw [<- hy,az]
 rw [cC,aA _ _ _ a,az,az,aA _ _ _ a,cC,aA _ _ _ a,az,b];exact Tr i a _ _
theorem Mr:∀ i,i<64->∀ x:Bool,((x&&bt 924074 i)&&bt 786722 i)=(x&&bt 786722 i)/\(((x&&bt 924074 i)&&!bt 6144 i)&&bt 786722 i)=(x&&bt 786722 i):=by decide +kernel
theorem Ms:bits .or .u64 (bits .andNot .u64 c 786722) (bits .and .u64 (ig .mst s) 786722)=iT c 786722 s:=by
 unfold iT;refine bA _ _ (ah _ _ _) (ah _ _ _) λi a=>?_;have b:bt (bits .and .u64 (ig .mst s) 786722) i=bt (bits .and .u64 s 786722) i:=by
  show bt (bits .and .u64 (if (bits .and .u64 s 6144==4096)=true then bits .andNot .u64 (bits .and .u64 s 924074) 6144 else bits .and .u64 s 924074) 786722) i=_;split;·rw [az,aA _ _ _ a,az,az];exact (Mr i a _).2
  ·rw [az,az,az];exact (Mr i a _).1
 rw [cC,b,cC]
theorem Mt (hy:bits .and .u64 c 2730=c):bits .or .u64 (bits .andNot .u64 c s) (bits .and .u64 (bits .and .u64 t 2730) s)=bn 3 (iT c s t):=by
 show _=bits .and .u64 (bits .or .u64 (bits .andNot .u64 c s) (bits .and .u64 t s)) 2730;refine bA _ _ (ah _ _ _) (ah _ _ _) λi a=>?_;have b:bt c i=(bt c i&&bt 2730 i):=by conv=>lhs;rw [<- hy,az]
 rw [cC,aA _ _ _ a,az,az,az,cC,aA _ _ _ a,az,b];cases bt c i<;>cases bt s i<;>cases bt t i<;>cases bt 2730 i<;>rfl
theorem Ts:∀ i,i<64->∀ y m x:Bool,((y&&!((m&&bt 2 i)&&!bt 2184 i))||((x&&bt 2730 i)&&((m&&bt 2 i)&&!bt 2184 i)))=((y&&!(m&&bt 2 i))||(x&&(m&&bt 2 i))):=by decide +kernel
theorem Mu:bits .or .u64 (bits .andNot .u64 c (bits .andNot .u64 (bits .and .u64 s 2) 2184)) (bits .and .u64 (bits .and .u64 t 2730) (bits .andNot .u64 (bits .and .u64 s 2) 2184))=iT c (bits .and .u64 s 2) t:=by unfold iT;refine bA _ _ (ah _ _ _) (ah _ _ _) λi a=>?_;rw [cC,aA _ _ _ a,az,az,aA _ _ _ a,az,cC,aA _ _ _ a,az,az,az];exact Ts i a _ _ _
theorem Fi (h:U (k.getD 16 0)) (l:Nat):db k l=dg (k.getD 16 0) (8*l) 8:=iE _ (8*l) 8 h.1 h.2 ab
theorem UW:∀ z:Nat,z<256->(bits .and .u64 (z:Int) 128 != 0)=((z:Int)/128==1):=by decide +kernel
theorem qY (h:U (k.getD 16 0)) (l:Nat):fP (k.getD 16 0) l=(db k l/128==1):=by
 rw [Fi k h]
 unfold fP
 have a:=kL (k.getD 16 0) (8*l) 8
 obtain ⟨z,b⟩:=Int.eq_ofNat_of_zero_le a.1
 rw [b] at a ⊢
 exact UW z (by have:((2:Int)^8)=256:=by decide
                omega)
theorem Fj (h:U c):∀ l,U (eI k c l):=by
 intro l;induction l with
 | zero=>exact h
 | succ l a =>
   rw [eI];split;·exact ah _ _ _
   ·exact a
theorem ss (h:U (k.getD 16 0)) (y:Int) (i:Nat) (c:i<64):∀ l,bt (eI k y l) i=if bt (gI (k.getD 16 0) l) i=true then bt (k.getD 16 0) i else bt y i:=by
 intro l;induction l with
 | zero =>
   have b:bt 0 i=false:=(by unfold bt;simp);show bt y i=if bt 0 i=true then _ else _
   rw [b,if_neg bc]
 | succ l a =>
   rw [eI,gI,qY k h];cases (db k l/128==1) with
   | false=>exact a
   | true =>rw [if_pos rfl,if_pos rfl,cC,aA _ _ _ c,az,cC,a];cases bt (Uz.wrap (255*2^(8*l))) i<;>cases bt (gI (k.getD 16 0) l) i<;>cases bt (k.getD 16 0) i<;>cases bt y i<;>rfl
theorem Mv (h:U (k.getD 16 0)) (f:Int) (b:U f): bits .or .u64 (bits .andNot .u64 (k.getD 16 0) (bits .andNot .u64 18446744073709551615 (gI (k.getD 16 0) 4))) (bits .and .u64 f (bits .andNot .u64 18446744073709551615 (gI (k.getD 16 0) 4)))=eI k f 4:=by refine bA _ _ (ah _ _ _) (Fj k f b 4) λi a=>?_;rw [ss k h f i a,cC,aA _ _ _ a,az,aA _ _ _ a,Am i a];cases bt (gI (k.getD 16 0) 4) i<;>cases bt (k.getD 16 0) i<;>cases bt f i<;>rfl
theorem Ha:∀ i,i<64->8<=i->bt 159 i=false:=by decide +kernel
theorem Hb (b:8<=j):bt (jx c M) j=false:=by
 by_cases a:j<64
 ·unfold jx;split;·rw [aA _ _ _ a,az,Ha j a b,Bool.and_false,Bool.false_and]
  ·rw [az,Ha j a b,Bool.and_false]
 ·exact uG _ _ ab
theorem Mw:U (jx c M):=by unfold jx;split<;>exact ah _ _ _
theorem Mx (b:32<=M):∀ k,k<=4->bt (dq c k) M=false:=by
 intro k;induction k with
 | zero=>intro _;unfold bt;simp [dq]
 | succ k a =>intro x;rw [dq,cC,a ab,nB _ (Mw c k),Hb c k _ ab,Bool.and_false,Bool.or_false]
theorem Mz (b:U c) (h:bn 16 c=c):fP c 4=false:=by
 have a:dq c 4=c:=h;have e:dg c (8*4) 8=0:=by
  refine bA _ _ (qE _ _ _ ab) (by constructor<;>decide) λi d=>?_;rw [kM c b _ _ _ ab];have:bt c (i+8*4)=false:=by rw [<- a];exact Mx c _ ab 4 ab
  rw [this,Bool.and_false];unfold bt;simp
 unfold fP;rw [e];decide +kernel
theorem yR (h:U (k.getD 16 0)) (l:Nat) (hk:l<4):iP (k.getD 16 0) l=bits .and .u64 (db k l/8) 3:=by rw [Fi k h];have a:=cK (dg (k.getD 16 0) (8*l) 8/8) 2 (by have:=(kL (k.getD 16 0) (8*l) 8).1;omega) (by have b:=qE (k.getD 16 0) (8*l) 8 ab;have c:=b.1;have d:=b.2;omega) ab;rw [show ((2:Int)^2-1)=3 from bc,show ((2:Int)^2)=4 from bc] at a;rw [a];unfold iP dg;rw [Int.pow_add,show ((2:Int)^3)=8 from bc,show ((2:Int)^2)=4 from bc,show ((2:Int)^8)=256 from bc,<- Int.ediv_ediv_of_nonneg (Int.le_of_lt (Int.pow_pos ab))];generalize k.getD 16 0/2^(8*l)=z;omega
theorem Fk (h:U (k.getD 16 0)) (b:bn 16 (k.getD 16 0)=k.getD 16 0) (e:Nat) (he:e<4): (fP (k.getD 16 0) e||(fP (k.getD 16 0) (e+1)&&(iP (k.getD 16 0) (e+1)==1)))=fw k e:=by
 unfold fw;by_cases a:e<3;·rw [qY k h,qY k h,yR k h _ ab,show decide (e<3)=true from oi,Bool.true_and]
 ·have:e=3:=by omega
  subst this;rw [Mz _ h b,qY k h];simp
theorem pF (h:U (k.getD 16 0)) (a:bn 16 (k.getD 16 0)=k.getD 16 0) (l e:Nat) (he:e<4) (hk:(gp l).2=.addr e) (hy:U (k.getD l 0)) (x:Int) (hx:U x): kU k l 18446744073709551615 x=if fw k e=true then k.getD l 0 else bits .and .u64 x 18014398509481983:=by
 unfold kU lO;rw [hk];show bits .or .u64 (bits .andNot .u64 (k.getD l 0) (bits .andNot .u64 18446744073709551615 (if (fP (k.getD 16 0) e||(fP (k.getD 16 0) (e+1)&&(iP (k.getD 16 0) (e+1)==1)))=true then 18446744073709551615 else 0)))
  (bits .and .u64 (bits .and .u64 x 18014398509481983) (bits .andNot .u64 18446744073709551615 (if (fP (k.getD 16 0) e||(fP (k.getD 16 0) (e+1)&&(iP (k.getD 16 0) (e+1)==1)))=true then 18446744073709551615 else 0)))=_
 rw [Fk k h a e he];cases fw k e with
 | true=>rw [if_pos rfl,if_pos rfl,tM];exact G9 _ _ hy
 | false=>rw [if_neg bc,if_neg bc,yQ];exact Ao _ _ (ah _ _ _)
theorem JN (hy:U (k.getD 15 0)) (x:Int) (hx:U x):kU k 15 18446744073709551615 x=if iz x=true then x else k.getD 15 0:=by
 unfold kU lO;show bits .or .u64 (bits .andNot .u64 (k.getD 15 0) (bits .andNot .u64 18446744073709551615 (if iz x=true then 0 else 18446744073709551615)))
  (bits .and .u64 (if iz x=true then x else 0) (bits .andNot .u64 18446744073709551615 (if iz x=true then 0 else 18446744073709551615)))=_
 cases iz x with
 | true=>rw [if_pos rfl,if_pos rfl,if_pos rfl,yQ];exact Ao _ _ hx
 | false=>rw [if_neg bc,if_neg bc,if_neg bc,tM];exact G9 _ _ hy
theorem JO:∀ n l,fH k n l=true->∀ j,l<=j->j<l+n->fq j (k.getD j 0)=true:=by
 intro n;induction n with
 | zero=>intro l _ j a b;omega
 | succ n d =>
   intro l h j a b;rw [fH,Bool.and_eq_true] at h;by_cases c:j=l;·subst c;exact h.1
   ·exact d (l+1) h.2 j ab ab
theorem eC (h:bo x l=true) (j:Nat) (a:j<22):fq j (l.getD j 0)=true:=by simp only [bo,Bool.and_eq_true,decide_eq_true_eq] at h;exact JO l 22 0 h.2 j ab ab
theorem jv (a:dx c (k.getD 2 0) 22 0=⟨M,c,18446744073709551615,18446744073709551615,true⟩) (b:bW k c s=fV k M s) (h:k.set M (kU k M 18446744073709551615 s)=fV k M s):nJ k c s=bW k c s:=by unfold nJ;rw [a,b];show k.set ((M:Int)).toNat (kU k ((M:Int)).toNat 18446744073709551615 s)=_;rw [Int.toNat_natCast];exact h
theorem dS (hx:U s) (l:Nat) (hk:l<22) (b:l≠9) (a:l≠15) (d:(gp l).2.holds=false) (n:dx c (k.getD 2 0) 22 0=⟨l,c,18446744073709551615,18446744073709551615,true⟩) (f:bW k c s=fV k l s) (e:fV k l s=k.set l (bn l s)):
 nJ k c s=bW k c s :=
 jv k c s l n f (by rw [JM k l d s hx,yP s hx l hk b a,e])
theorem MC (hz:k.length=22) (hl:∀ j,U (k.getD j 0)) (b:bo 22 k=true) (n x:Int) (hx:U x) (h:dt n=true):nJ k n x=bW k n x:=by
 have e:bits .and .u64 (k.getD 9 0) 2730=k.getD 9 0:=by have:=eC b 9 ab;exact eq_of_beq this
 have d:bits .and .u64 (k.getD 3 0) 2730=k.getD 3 0:=by have:=eC b 3 ab;exact eq_of_beq this
 have a:bn 16 (k.getD 16 0)=k.getD 16 0:=by have:=eC b 16 ab;exact eq_of_beq this
 rcases kE n h with rfl|rfl|c;·unfold nJ;rw [lP 3860 _ bc 22 0 ab];rfl
 ·unfold nJ;rw [lP 769 _ bc 22 0 ab];rfl
 ·rcases j6 n c with rfl|rfl|rfl|rfl|rfl|rfl|rfl|rfl|rfl|rfl|rfl|rfl|rfl|rfl|rfl|rfl|rfl|rfl|rfl|rfl|rfl|rfl|rfl|rfl|rfl;·exact dS k 768 x hx 0 ab ab ab rfl rfl rfl rfl
  ·exact dS k 770 x hx 1 ab ab ab rfl rfl rfl rfl
  ·exact dS k 771 x hx 2 ab ab ab rfl rfl rfl rfl
  ·exact dS k 772 x hx 3 ab ab ab rfl rfl rfl rfl
  ·exact dS k 773 x hx 4 ab ab ab rfl rfl rfl rfl
  ·exact dS k 832 x hx 5 ab ab ab rfl rfl rfl rfl
  ·exact dS k 833 x hx 6 ab ab ab rfl rfl rfl rfl
  ·exact dS k 834 x hx 7 ab ab ab rfl rfl rfl rfl
  ·exact dS k 835 x hx 8 ab ab ab rfl rfl rfl rfl
  ·refine jv k 836 x 9 rfl rfl ?_;show k.set 9 (bits .or .u64 (bits .andNot .u64 (k.getD 9 0) (bits .andNot .u64 18446744073709551615 2184)) (bits .and .u64 (bits .and .u64 x 2730) (bits .andNot .u64 18446744073709551615 2184)))=k.set 9 (iT (k.getD 9 0) 546 x);rw [Mq _ x e]
  ·exact dS k 261 x hx 10 ab ab ab rfl rfl rfl rfl
  ·exact dS k 320 x hx 11 ab ab ab rfl rfl rfl rfl
  ·exact dS k 321 x hx 12 ab ab ab rfl rfl rfl rfl
  ·exact dS k 322 x hx 13 ab ab ab rfl rfl rfl rfl
  ·exact dS k 323 x hx 14 ab ab ab rfl rfl rfl rfl
  ·refine jv k 384 x 15 rfl rfl ?_;rw [JN k (hl 15) x hx];show _=(if ((x/1152921504606846976==0)||(x/1152921504606846976==8))=true then k.set 15 x else k);rw [<- G5 x hx];cases iz x with
   | true=>rfl
   | false=>rw [if_neg bc,if_neg bc,mZ k 15 ab]
  ·refine jv k 928 x 16 rfl rfl ?_;show k.set 16 (bits .or .u64 (bits .andNot .u64 (k.getD 16 0) (bits .andNot .u64 18446744073709551615 (gI (k.getD 16 0) 4))) (bits .and .u64 (qj x 4) (bits .andNot .u64 18446744073709551615 (gI (k.getD 16 0) 4))))=k.set 16 (eI k (dq x 4) 4);rw [Ml x hx,Mv k (hl 16) (dq x 4) (by rw [dq];exact ah _ _ _)]
  ·refine jv k 944 x 17 rfl rfl ?_;rw [pF k (hl 16) a 17 0 ab rfl (hl 17) x hx];show _=(if fw k 0=true then k else k.set 17 (bits .and .u64 x 18014398509481983));cases fw k 0 with
   | true=>rw [if_pos rfl,if_pos rfl,mZ k 17 ab]
   | false=>rfl
  ·refine jv k 945 x 18 rfl rfl ?_;rw [pF k (hl 16) a 18 1 ab rfl (hl 18) x hx];show _=(if fw k 1=true then k else k.set 18 (bits .and .u64 x 18014398509481983));cases fw k 1 with
   | true=>rw [if_pos rfl,if_pos rfl,mZ k 18 ab]
   | false=>rfl
  ·refine jv k 946 x 19 rfl rfl ?_;rw [pF k (hl 16) a 19 2 ab rfl (hl 19) x hx];show _=(if fw k 2=true then k else k.set 19 (bits .and .u64 x 18014398509481983));cases fw k 2 with
   | true=>rw [if_pos rfl,if_pos rfl,mZ k 19 ab]
   | false=>rfl
  ·refine jv k 947 x 20 rfl rfl ?_;rw [pF k (hl 16) a 20 3 ab rfl (hl 20) x hx];show _=(if fw k 3=true then k else k.set 20 (bits .and .u64 x 18014398509481983));cases fw k 3 with
   | true=>rw [if_pos rfl,if_pos rfl,mZ k 20 ab]
   | false=>rfl
  ·exact dS k 2818 x hx 21 ab ab ab rfl rfl rfl rfl
  ·show k.set 0 (bits .or .u64 (bits .andNot .u64 (k.getD 0 0) 786722) (bits .and .u64 (ig .mst x) 786722))=k.set 0 (iT (k.getD 0 0) 786722 x);rw [Ms]
  ·show k.set 3 (bits .or .u64 (bits .andNot .u64 (k.getD 3 0) (k.getD 2 0)) (bits .and .u64 (bits .and .u64 x 2730) (k.getD 2 0)))=k.set 3 (bn 3 (iT (k.getD 3 0) (k.getD 2 0) x));rw [Mt _ _ _ d]
  ·show k.set 9 (bits .or .u64 (bits .andNot .u64 (k.getD 9 0) (bits .andNot .u64 (bits .and .u64 (k.getD 2 0) 2) 2184)) (bits .and .u64 (bits .and .u64 x 2730) (bits .andNot .u64 (bits .and .u64 (k.getD 2 0) 2) 2184)))=k.set 9 (iT (k.getD 9 0) (bits .and .u64 (k.getD 2 0) 2) x);rw [Mu]
theorem yS (l:List Int) (hl:∀ j,U (l.getD j 0)) (n p:Int):pC e l n p=Ea e l n p:=by
 have b:=wu e l hl n p;unfold sm at b;unfold pC Ea;cases a:dt n with
 | false =>have c:iS e l n p=false:=(by unfold iS;rw [a];cases bo e l<;>rfl);rw [c,Cx,a];simp
 | true =>rw [<- b,P5 n a,Cx,a];cases Fh e l n p<;>cases ((wrap64 (n.tdiv 1024)).tmod 4==3)<;>rfl
theorem JP (hz:a.length=e) (hl:∀ j,U (a.getD j 0)) (n p x:Int) (hx:U x):nK e a n p x=Eb e a n p x:=by
 unfold nK Eb;rw [yS e a hl n p];cases c:Ea e a n p with
 | false=>rfl
 | true =>rw [if_pos rfl,if_pos rfl];have l:iS e a n p=true:=(by unfold Ea at c;rw [Bool.and_eq_true] at c;exact c.1);obtain ⟨rfl,d⟩:=Ec l;have b:bo 22 a=true:=(by simp only [iS,Bool.and_eq_true] at l;exact l.1.1.1);exact MC a hz hl b n x hx d
theorem Tt:bits .and .u64 c 1=if bt c 0=true then 1 else 0:=by
 have b:∀ i,i<64->∀ (p o:Bool),((if i=0 then p else o)&&bt 1 i)=bt (if p=true then 1 else 0) i:=cb
 refine bA _ _ (ah _ _ _) (by split<;>(constructor<;>decide)) λi d=>?_;rw [az,<- b i d (bt c 0) (bt c i)];by_cases a:i=0;·subst a;rfl
 ·rw [if_neg a]
theorem MD:(bits .and .u64 c 6144==4096)=(!bt c 11&&bt c 12):=by
 have e2:bits .and .u64 c 6144=(if bt c 11=true then 2048 else 0)+(if bt c 12=true then 4096 else 0):=by
  refine bA _ _ (ah _ _ _) l6 λi x=>?_;rw [az,<- Se i x (bt c 11) (bt c 12) (bt c i)];by_cases a:i=11;·subst a;rfl
  ·by_cases b:i=12;·subst b;rfl
   ·rw [if_neg a,if_neg b]
 rw [e2];cases bt c 11<;>cases bt c 12<;>rfl
theorem Hc (h:U c):mst c=if (!bt c 11&&bt c 12)=true then bits .andNot .u64 (bits .and .u64 c 924074) 6144 else bits .and .u64 c 924074:=by rw [<- Mj c h,<- MD];rfl
theorem Uu:bt 924074 11=true/\bt 924074 12=true/\bt 6144 11=true/\bt 6144 12=true/\bt 786722 11=false/\bt 786722 12=false:=by decide +kernel
theorem su (h:U c):mst c=c↔bits .and .u64 c 924074=c/\(!bt c 11&&bt c 12)=false:=by
 rw [Hc c h];constructor
 ·intro e;cases a:(!bt c 11&&bt c 12) with
  | true =>
    rw [a,if_pos rfl] at e;have:bt c 12=false:=by rw [<- e,aA _ _ _ ab,Uu.2.2.2.1];simp
    rw [this,Bool.and_false] at a;cases a
  | false=>rw [a,if_neg bc] at e;exact ⟨e,rfl⟩
 ·rintro ⟨e,a⟩;rw [a,if_neg bc];exact e
theorem Sf:U (mst c):=by unfold mst;split<;>exact ah _ _ _
theorem MG (h:U c):mst (mst c)=mst c:=by
 rw [su _ (Sf c)];rw [Hc c h];cases b:(!bt c 11&&bt c 12) with
 | true =>
   rw [if_pos rfl];refine ⟨bA _ _ (ah _ _ _) (ah _ _ _) λi a=>?_,?_⟩;·rw [az,aA _ _ _ a,az];cases bt c i<;>cases bt 924074 i<;>cases bt 6144 i<;>rfl
   ·rw [aA _ _ 12 ab,Uu.2.2.2.1];simp
 | false =>
   rw [if_neg bc];refine ⟨bA _ _ (ah _ _ _) (ah _ _ _) λi a=>?_,?_⟩;·rw [az,az];cases bt c i<;>cases bt 924074 i<;>rfl
   ·rw [az,az,Uu.1,Uu.2.1,Bool.and_true,Bool.and_true];exact b
theorem Tu:∀ i,i<64->∀ a:Bool,((a&&bt 786722 i)&&bt 924074 i)=(a&&bt 786722 i):=by decide +kernel
theorem P8 (hy:U c) (h:mst c=c):mst (iT c 786722 s)=iT c 786722 s:=by
 obtain ⟨b,y⟩:=(su c hy).mp h;unfold iT;rw [su _ (ah _ _ _)];refine ⟨bA _ _ (ah _ _ _) (ah _ _ _) λi a=>?_,?_⟩
 ·have d:bt c i=(bt c i&&bt 924074 i):=by conv=>lhs;rw [<- b,az]
  have e:=Tu i a (bt s i);rw [az,cC,aA _ _ _ a,az,d];revert e;cases bt c i<;>cases bt 924074 i<;>cases bt 786722 i<;>cases bt s i<;>decide
 ·rw [cC,cC,aA _ _ 11 ab,aA _ _ 12 ab,az,az,Uu.2.2.2.2.1,Uu.2.2.2.2.2];simpa using y
theorem jH:bits .and .u64 (bits .and .u64 c s) s=bits .and .u64 c s :=
 bA _ _ (ah _ _ _) (ah _ _ _) λi a=>by rw [az,az];cases bt c i<;>cases bt s i<;>rfl
theorem mo:bits .andNot .u64 (bits .andNot .u64 c s) s=bits .andNot .u64 c s :=
 bA _ _ (ah _ _ _) (ah _ _ _) λi a=>by rw [aA _ _ _ a,aA _ _ _ a];cases bt c i<;>cases bt s i<;>rfl
def wv (x:Int) (i:Nat):Bool:=bt x i&&bt 159 (i%8)&&!(decide (i%8=1)&&!bt x (i-1))
theorem VZ:∀ j,j<64->bt 2 j=decide (j=1):=by decide +kernel
theorem Hd:bt 159 0=true:=by decide +kernel
theorem JQ (h:U c) (k j:Nat) (b:j<64):bt (jx c k) j=(bt c (j+8*k)&&bt 159 j&&!(decide (j=1)&&!bt c (8*k))):=by
 unfold jx;have a:∀ i,bt (c/2^(8*k)) i=bt c (i+8*k):=λi=>jD c h (8*k) i;generalize c/2^(8*k)=z at *;have x:bt c (8*k)=bt z 0:=by rw [a 0,Nat.zero_add]
 rw [x,<- a j,Tt,az,Hd,Bool.and_true];cases d:bt z 0 with
 | true =>rw [if_pos rfl,if_neg bc,az];simp
 | false =>rw [if_neg (show ¬ (false=true) from bc),if_pos (show ((0:Int)==0)=true from rfl),aA _ _ _ b,az,VZ j b];simp
theorem qZ (h:U c) (i:Nat) (d:i<64):∀ k,k<=4->bt (dq c k) i=(decide (i<8*k)&&wv c i):=by
 intro k;induction k with
 | zero=>intro _;rw [dq];have:bt 0 i=false:=by unfold bt;simp
         rw [this];simp
 | succ k g =>
   intro j;rw [dq,cC,g ab,nB _ (Mw c k)];by_cases b:i<8*k;·have x:¬ 8*k<=i:=ab;have a:i<8*(k+1):=ab;simp [b,x,a]
   ·have x:8*k<=i:=ab;by_cases a:i<8*(k+1)
    ·have f:i%8=i-8*k:=ab;rw [JQ c h k _ ab];unfold wv;rw [f,show i-8*k+8*k=i from ab];by_cases e:i-8*k=1;·rw [show i-1=8*k from ab];simp [b,x,a,d]
     ·simp [b,x,a,d,e]
    ·rw [Hb c k _ ab];simp [b,a]
theorem sB (h:U c):bn 16 c=c↔∀ i,i<64->bt c i=(decide (i<32)&&wv c i):=by
 show dq c 4=c↔_;constructor;·intro e i a;have:=qZ c h i a 4 ab;rw [e] at this;exact this
 ·intro b;refine bA _ _ (by rw [dq];exact ah _ _ _) h λi a=>?_;rw [qZ c h i a 4 ab,b i a]
theorem JR (h:U c) (i:Nat) (b:i<32):wv (dq c 4) i=wv c i:=by
 have s:∀ j,j<32->bt (dq c 4) j=wv c j:=λj d=>by rw [qZ c h j ab 4 ab];simp [show j<8*4 from ab]
 show (bt (dq c 4) i&&bt 159 (i%8)&&!(decide (i%8=1)&&!bt (dq c 4) (i-1)))=wv c i;rw [s i b,s (i-1) ab];by_cases a:i%8=1;·have x:(i-1)%8=0:=ab;unfold wv;rw [x,a,Hd];cases bt c i<;>cases bt 159 1<;>cases bt c (i-1)<;>simp
 ·unfold wv;simp only [a,decide_false,Bool.false_and,Bool.not_false,Bool.and_true];cases bt c i<;>cases bt 159 (i%8)<;>rfl
theorem yT (h:U c):bn 16 (dq c 4)=dq c 4:=by
 rw [sB _ (by rw [dq];exact ah _ _ _)];intro i b;rw [qZ c h i b 4 ab];by_cases a:i<32;·rw [JR c h i a]
 ·simp [a]
theorem wA:∀ j,j<64->bt 255 j=decide (j<8):=by decide +kernel
theorem yU (f:M<64):∀ k,k<=4->bt (gI c k) M=(decide (M<8*k)&&fP c (M/8)):=by
 intro k;induction k with
 | zero=>intro _;rw [gI];have:bt 0 M=false:=by unfold bt;simp
         rw [this];simp
 | succ k d =>
   intro h;rw [gI];by_cases a:M<8*k
   ·have b:M<8*(k+1):=ab;have e:¬ 8*k<=M:=ab;cases fP c k with
    | true=>rw [if_pos rfl,cC,d ab,nB _ (by constructor<;>decide)];simp [a,e,b]
    | false=>rw [if_neg bc,d ab];simp [a,b]
   ·have e:8*k<=M:=ab;by_cases b:M<8*(k+1)
    ·have g:M/8=k:=ab;rw [g];cases fP c k with
     | true=>rw [if_pos rfl,cC,d ab,nB _ (by constructor<;>decide),wA _ ab];simp [a,e,b,f];omega
     | false=>rw [if_neg bc,d ab];simp [a]
    ·cases fP c k with
     | true=>rw [if_pos rfl,cC,d ab,nB _ (by constructor<;>decide),wA _ ab];simp [a,b];omega
     | false=>rw [if_neg bc,d ab];simp [a,b]
theorem Fl (h:U (k.getD 16 0)) (p:bn 16 (k.getD 16 0)=k.getD 16 0) (f:Int) (l:U f) (hl:bn 16 f=f):bn 16 (eI k f 4)=eI k f 4:=by
 have e:=λi a=>ss k h f i a 4;rw [sB _ (Fj k f l 4)];have q:=(sB _ h).mp p;have r:=(sB _ l).mp hl;have m:=λi a=>yU (k.getD 16 0) i a 4 ab;intro i a;have c:=q i a;have d:=r i a;unfold wv at c d ⊢;by_cases o:i%8=1
 ·have n:(i-1)/8=i/8:=ab;have s:=m i a;have b:=m (i-1) ab;rw [e i a,e (i-1) ab];have g:decide (i-1<8*4)=decide (i<8*4):=by
   by_cases j:i<8*4;·simp [j];omega
   ·simp [j];omega
  rw [n,g,<- s] at b;rw [b];cases bt (gI (k.getD 16 0) 4) i with
  | true=>rw [if_pos rfl,if_pos rfl];exact c
  | false=>rw [if_neg bc,if_neg bc];exact d
 ·rw [e i a];simp only [o,decide_false,Bool.false_and,Bool.not_false,Bool.and_true] at c d ⊢;cases bt (gI (k.getD 16 0) 4) i with
  | true=>rw [if_pos rfl];exact c
  | false=>rw [if_neg bc];exact d
theorem Fp (h:U c) (k:Nat) (hk:k<22):bn k (bn k c)=bn k c:=by
 have:k=0\/k=1\/k=2\/k=3\/k=4\/k=5\/k=6\/k=7\/k=8\/k=9\/k=10\/k=11\/k=12\/k=13\/k=14\/k=15\/k=16\/k=17\/k=18\/k=19\/k=20\/k=21:=ab
 rcases this with rfl|rfl|rfl|rfl|rfl|rfl|rfl|rfl|rfl|rfl|rfl|rfl|rfl|rfl|rfl|rfl|rfl|rfl|rfl|rfl|rfl|rfl;·exact MG c h
 ·exact jH c 46079
 ·exact jH c 546
 ·exact jH c 2730
 ·exact mo c 2
 ·rfl
 ·exact mo c 3
 ·exact jH c 9223372036854775823
 ·rfl
 ·rfl
 ·exact mo c 2
 ·rfl
 ·exact mo c 3
 ·exact jH c 9223372036854775823
 ·rfl
 ·rfl
 ·exact yT c h
 ·exact jH c 18014398509481983
 ·exact jH c 18014398509481983
 ·exact jH c 18014398509481983
 ·exact jH c 18014398509481983
 ·rfl
theorem JS:∀ n l,(∀ j,l<=j->j<l+n->fq j (k.getD j 0)=true)->fH k n l=true:=by
 intro n;induction n with
 | zero=>intro l _;rfl
 | succ n a =>intro l h;rw [fH,Bool.and_eq_true];exact ⟨h l ab ab,a (l+1) λj b c=>h j ab ab⟩
theorem MH (h:∀ j,j<22->fq j (k.getD j 0)=true):bo 22 k=true:=by simp only [bo,Bool.and_eq_true,decide_eq_true_eq];exact ⟨trivial,JS k 22 0 λj _ a=>h j ab⟩
theorem ls (hk:e<k.length):(k.set e c).getD e 0=c:=by simp [List.getD,hk]
theorem fG (a:e≠y):(k.set e c).getD y 0=k.getD y 0:=by simp [List.getD,a]
theorem cE (hz:k.length=22) (a:bo 22 k=true) (l:Nat) (hk:l<22) (v:Int) (h:fq l v=true):bo 22 (k.set l v)=true:=by
 refine MH _ λj b=>?_;by_cases e:l=j;·subst e;rw [ls k l v ab];exact h
 ·rw [fG k l j v e];exact eC a j b
theorem oR (h:U c) (k:Nat) (hk:k<22) (b:k≠9) (a:k≠15):fq k (bn k c)=true:=by unfold fq;rw [if_neg b,if_neg a,Fp c h k hk];exact beq_self_eq_true _
theorem He (hy:bits .and .u64 c 2730=c) (hm:∀ i,i<64->bt s i=true->bt 2730 i=true):bits .and .u64 (iT c s t) 2730=iT c s t:=by
 unfold iT;refine bA _ _ (ah _ _ _) (ah _ _ _) λi b=>?_;have d:bt c i=(bt c i&&bt 2730 i):=by conv=>lhs;rw [<- hy,az]
 have y:=hm i b;rw [az,cC,aA _ _ _ b,az,d];cases a:bt s i with
 | false=>cases bt c i<;>cases bt 2730 i<;>cases bt t i<;>rfl
 | true=>rw [y a];cases bt c i<;>cases bt t i<;>rfl
theorem UY:∀ i,i<64->bt 546 i=true->bt 2730 i=true:=by decide +kernel
theorem WV:∀ i,i<64->bt 2 i=true->bt 2730 i=true:=by decide +kernel
theorem JT (hz:k.length=22) (hl:∀ j,U (k.getD j 0)) (a:bo 22 k=true) (l:Nat) (hk:l<22) (x:Int) (hx:U x):bo 22 (fV k l x)=true:=by
 have f:bits .and .u64 (k.getD 9 0) 2730=k.getD 9 0:=eq_of_beq (eC a 9 ab);have e:bn 16 (k.getD 16 0)=k.getD 16 0:=eq_of_beq (eC a 16 ab);unfold fV;by_cases d:l=9;·subst d;rw [if_pos (show (((9:Nat):Int)=9) from rfl)];refine cE k hz a 9 ab _ ?_;show (bits .and .u64 (iT (k.getD 9 0) 546 x) 2730==iT (k.getD 9 0) 546 x)=true;rw [He _ _ _ f UY];exact beq_self_eq_true _
 ·rw [if_neg ab];by_cases b:l=15
  ·subst b;rw [if_pos (show (((15:Nat):Int)=15) from rfl)];cases g:((x/1152921504606846976==0)||(x/1152921504606846976==8)) with
   | true=>rw [if_pos rfl];exact cE k hz a 15 ab _ g
   | false=>rw [if_neg bc];exact a
  ·rw [if_neg ab];by_cases c:l=16;·subst c;rw [if_pos (show (((16:Nat):Int)=16) from rfl)];refine cE k hz a 16 ab _ ?_;show (bn 16 (eI k (bn 16 x) 4)==eI k (bn 16 x) 4)=true;rw [Fl k (hl 16) e (bn 16 x) (by show U (dq x 4);rw [dq];exact ah _ _ _) (yT x hx)];exact beq_self_eq_true _
   ·rw [if_neg ab];split
    ·split;·exact a
     ·rw [Int.toNat_natCast];exact cE k hz a l hk _ (oR x hx l hk d b)
    ·rw [Int.toNat_natCast];exact cE k hz a l hk _ (oR x hx l hk d b)
inductive V0 (n:Int):Prop where
 | fixed (h:n=769\/n=3860)
 | st (h:n=256)
 | ie (h:n=260)
 | ip (h:n=324)
 | own (k:Nat) (hk:k<22) (hw:∀ l x,bW l n x=fV l k x) (hr:∀ l,de l n=l.getD k 0) (hp:cZ n=k)
theorem MI (h:dt c=true):V0 c:=by
 rcases kE c h with rfl|rfl|a;·exact .fixed (.inr rfl)
 ·exact .fixed (.inl rfl)
 ·rcases j6 c a with rfl | rfl | rfl | rfl | rfl | rfl | rfl | rfl | rfl | rfl | rfl | rfl | rfl | rfl | rfl | rfl | rfl | rfl | rfl | rfl | rfl | rfl | rfl | rfl | rfl;·exact .own 0 ab (λ_ _=>rfl) (λ_=>rfl) rfl
  ·exact .own 1 ab (λ_ _=>rfl) (λ_=>rfl) rfl
  ·exact .own 2 ab (λ_ _=>rfl) (λ_=>rfl) rfl
  ·exact .own 3 ab (λ_ _=>rfl) (λ_=>rfl) rfl
  ·exact .own 4 ab (λ_ _=>rfl) (λ_=>rfl) rfl
  ·exact .own 5 ab (λ_ _=>rfl) (λ_=>rfl) rfl
  ·exact .own 6 ab (λ_ _=>rfl) (λ_=>rfl) rfl
  ·exact .own 7 ab (λ_ _=>rfl) (λ_=>rfl) rfl
  ·exact .own 8 ab (λ_ _=>rfl) (λ_=>rfl) rfl
  ·exact .own 9 ab (λ_ _=>rfl) (λ_=>rfl) rfl
  ·exact .own 10 ab (λ_ _=>rfl) (λ_=>rfl) rfl
  ·exact .own 11 ab (λ_ _=>rfl) (λ_=>rfl) rfl
  ·exact .own 12 ab (λ_ _=>rfl) (λ_=>rfl) rfl
  ·exact .own 13 ab (λ_ _=>rfl) (λ_=>rfl) rfl
  ·exact .own 14 ab (λ_ _=>rfl) (λ_=>rfl) rfl
  ·exact .own 15 ab (λ_ _=>rfl) (λ_=>rfl) rfl
  ·exact .own 16 ab (λ_ _=>rfl) (λ_=>rfl) rfl
  ·exact .own 17 ab (λ_ _=>rfl) (λ_=>rfl) rfl
  ·exact .own 18 ab (λ_ _=>rfl) (λ_=>rfl) rfl
  ·exact .own 19 ab (λ_ _=>rfl) (λ_=>rfl) rfl
  ·exact .own 20 ab (λ_ _=>rfl) (λ_=>rfl) rfl
  ·exact .own 21 ab (λ_ _=>rfl) (λ_=>rfl) rfl
  ·exact .st rfl
  ·exact .ie rfl
  ·exact .ip rfl
theorem tN (hz:k.length=22) (hl:∀ j,U (k.getD j 0)) (a:bo 22 k=true) (n x:Int) (hx:U x) (h:dt n=true):bo 22 (bW k n x)=true:=by
 have d:mst (k.getD 0 0)=k.getD 0 0:=eq_of_beq (eC a 0 ab);have e:bits .and .u64 (k.getD 9 0) 2730=k.getD 9 0:=eq_of_beq (eC a 9 ab);cases MI n h with
 | fixed b=>unfold bW;rw [if_pos b];exact a
 | st b =>subst b;show bo 22 (k.set 0 (iT (k.getD 0 0) 786722 x))=true;refine cE k hz a 0 ab _ ?_;show (mst (iT (k.getD 0 0) 786722 x)==iT (k.getD 0 0) 786722 x)=true;rw [P8 _ _ (hl 0) d];exact beq_self_eq_true _
 | ie b =>subst b;show bo 22 (k.set 3 (bn 3 (iT (k.getD 3 0) (k.getD 2 0) x)))=true;exact cE k hz a 3 ab _ (oR _ (ah _ _ _) 3 ab ab ab)
 | ip b =>subst b;show bo 22 (k.set 9 (iT (k.getD 9 0) (bits .and .u64 (k.getD 2 0) 2) x))=true;refine cE k hz a 9 ab _ ?_;show (bits .and .u64 (iT (k.getD 9 0) (bits .and .u64 (k.getD 2 0) 2) x) 2730==iT (k.getD 9 0) (bits .and .u64 (k.getD 2 0) 2) x)=true;rw [He _ _ _ e (λi f c=>by rw [az,Bool.and_eq_true] at c;exact WV i f c.2)];exact beq_self_eq_true _
 | own l g m p o=>rw [m];exact JT k hz hl a l g x hx
theorem iZ (hl:∀ j,U (k.getD j 0)) (l:Nat) (v:Int) (hv:U v) (j:Nat):U ((k.set l v).getD j 0):=by
 by_cases e:l=j
 ·subst e;by_cases a:l<k.length;·rw [ls k l v a];exact hv
  ·rw [List.set_eq_of_length_le ab];exact hl l
 ·rw [fG k l j v e];exact hl j
theorem Hf (h:U s):U (bn c s):=by
 unfold bn;split;·exact Sf s
 ·split;·exact ah _ _ _
  ·split;·exact ah _ _ _
   ·split;·exact ah _ _ _
    ·split;·exact ah _ _ _
     ·split;·exact ah _ _ _
      ·split;·exact ah _ _ _
       ·split;·rw [dq];exact ah _ _ _
        ·split;·exact ah _ _ _
         ·exact h
theorem Hg (hl:∀ j,U (k.getD j 0)) (n x:Int) (hx:U x) (j:Nat):U ((bW k n x).getD j 0):=by
 unfold bW;split;·exact hl j
 ·split;·exact iZ k hl _ _ (ah _ _ _) j
  ·split;·exact iZ k hl _ _ (Hf _ _ (ah _ _ _)) j
   ·split;·exact iZ k hl _ _ (ah _ _ _) j
    ·unfold fV;split;·exact iZ k hl _ _ (ah _ _ _) j
     ·split
      ·split;·exact iZ k hl _ _ hx j
       ·exact hl j
      ·split;·exact iZ k hl _ _ (Fj k _ (Hf _ _ hx) 4) j
       ·split
        ·split;·exact hl j
         ·exact iZ k hl _ _ (Hf _ _ hx) j
        ·exact iZ k hl _ _ (Hf _ _ hx) j
theorem Qa (hl:∀ j,U (l.getD j 0)) (b:bo 22 l=true) (j:Nat) (k:17<=j) (i:j<=20):0<=l.getD j 0/\l.getD j 0<18014398509481984:=by
 have h:=eC b j ab;have c:=hl j;have e:bits .and .u64 (l.getD j 0) 18014398509481983=l.getD j 0:=by have a:j=17\/j=18\/j=19\/j=20:=ab;have d:(bits .and .u64 (l.getD j 0) 18014398509481983==l.getD j 0)=true:=(by rcases a with rfl|rfl|rfl|rfl<;>exact h);simpa using d
 have f:=cK (l.getD j 0) 54 c.1 c.2 ab;have g:(2:Int)^54-1=18014398509481983:=bc
 rw [g,e] at f;have p54:(2:Int)^54=18014398509481984:=bc
 rw [p54] at f;refine ⟨c.1,?_⟩;have:=Int.emod_lt_of_pos (l.getD j 0) (show (0:Int)<18014398509481984 by omega);omega
theorem MJ:∀ n k,fl c n k<=n+k:=by
 intro n;induction n with
 | zero=>intro k;show k<=0+k;omega
 | succ n b =>
   intro k;unfold fl;split;·have:=b (k+1);omega
   ·omega
theorem Hh (hm:e<=54) (i:Nat) (a:i<64):bt (Uz.wrap (Uz.wrap (2^e)-1)) i=decide (i<e):=by
 have k:∀ e,e<=54->∀ i,i<64->bt (Uz.wrap (Uz.wrap (2^e)-1)) i=decide (i<e):=cb
 exact k e hm i a
theorem Fq (h:U c) (m:Nat) (hm:m<=54):bits .andNot .u64 c (Uz.wrap (Uz.wrap (2^m)-1))=c/2^m*2^m:=by
 have k:(0:Int)<2^m:=Int.pow_pos ab;have f:=mj c h m;have g:c/2^m*2^m<=c:=Int.ediv_mul_le _ ab;have a:0<=c/2^m*2^m:=Int.mul_nonneg f.1 ab;have j:Uz.wrap (c/2^m*2^m)=c/2^m*2^m:=by have:=h.2;rw [IntKind.wrap_u64];exact Int.emod_eq_of_lt a ab
 refine bA _ _ (ah _ _ _) ⟨a,by have:=h.2;omega⟩ λi e=>?_;rw [aA _ _ _ e,Hh m hm i e,<- j,nB _ f,jD c h];by_cases b:m<=i;·have d:decide (i<m)=false:=decide_eq_false ab;rw [d,decide_eq_true b,decide_eq_true e,Nat.sub_add_cancel b];simp
 ·have d:decide (i<m)=true:=decide_eq_true ab;rw [d,decide_eq_false b];simp
theorem JU {w':World} {o:Obj} (h:(n.alloc o).grownBy w' (Value.slice (some ⟨n.heap.size,0,none⟩) 0 0).ownBlock):Bw n w':=by
 refine Below.grown (bal _ _) h ?_ ?_;·simp
 ·intro k a;simp [Value.ownBlock] at a;omega
theorem rf (h:U c) (i:Nat):ap c i=if bt c i=true then 1 else 0:=by
 have b:∀ i,i<64->∀ (p o:Bool),((if i=0 then p else o)&&bt 1 i)=bt (if p=true then 1 else 0) i:=cb
 unfold ap;have e:∀ y:Int,bits .and .u64 y 1=if bt y 0=true then 1 else 0:=by
  intro y;refine bA _ _ (ah _ _ _) (by split<;>(constructor<;>decide)) λj x=>?_;rw [az,<- b j x (bt y 0) (bt y j)];by_cases a:j=0;·subst a;rfl
  ·rw [if_neg a]
 rw [e,jD c h,Nat.zero_add]
theorem Sg:∀ i,i<64->bt 64 i=decide (i=6):=by decide +kernel
theorem Tv:∀ i,i<64->bt 128 i=decide (i=7):=by decide +kernel
theorem uJ (a:M<64):bt (cn c s) M=(bt c M||decide (M=6)||((s==3)&&decide (M=7))):=by
 unfold cn;cases (s==3) with
 | true=>rw [if_pos rfl,cC,cC,Sg M a,Tv M a,Bool.true_and]
 | false=>rw [if_neg bc,cC,Sg M a,Bool.false_and,Bool.or_false]
theorem jI (h:U c) (i:Nat) (e:i<64) (a:i≠6) (b:i≠7):ap (cn c s) i=ap c i:=by rw [rf _ (mF c s),rf _ h,uJ c s i e];simp [a,b]
theorem Cy (h:U c) (k:Nat) (hk:8<=k):cn c s/2^k=c/2^k:=by
 refine bA _ _ (mj _ (mF c s) k) (mj _ h k) λi d=>?_;rw [jD _ (mF c s),jD _ h];by_cases a:i+k<64;·rw [uJ c s _ a];have b:¬ i+k=6:=ab;have e:¬ i+k=7:=ab;simp [b,e]
 ·rw [uG _ _ ab,uG _ _ ab]
theorem JV (h:U c):cn (cn c s) s=cn c s:=by refine bA _ _ (mF _ _) (mF _ _) λi a=>?_;rw [uJ _ s i a,uJ c s i a];cases bt c i<;>cases decide (i=6)<;>cases ((s==3)&&decide (i=7))<;>rfl
theorem Hi (h:U c):bits .and .u64 c 1=ap c 0:=by unfold ap;rw [Int.pow_zero,Int.ediv_one]
theorem Cz (h:U c):pL (cn c s)=pL c:=by unfold pL;rw [Hi _ (mF c s),Hi _ h,jI c s h 0 ab ab ab,jI c s h 1 ab ab ab,jI c s h 2 ab ab ab];have:=Cy c s h 54 ab;rw [show ((2:Int)^54)=18014398509481984 from rfl] at this;rw [this]
theorem CD (h:U c):mC (cn c s)=mC c:=by unfold mC;rw [jI c s h 1 ab ab ab,jI c s h 3 ab ab ab]
theorem wC (h:U c):eB (cn c s)=eB c:=by unfold eB;have:=Cy c s h 10 ab;rw [show ((2:Int)^10)=1024 from rfl] at this;rw [this]
theorem gU:ey c≠0:=by unfold ey;split<;>(try split)<;>decide
theorem iF:dJ c≠0:=by unfold dJ;split<;>(try split)<;>decide
theorem rh (p va kind e x:Int) (lv:Nat) (h:(cH k p va kind e x lv).code=0): mD e lv=false/\gO k kind e=false/\gQ k p kind e=false/\(((cn e kind != e)=true/\ay k 1 x (aU x 8) 3 4 0=true/\cH k p va kind e x lv=⟨gH e va lv,0,true,x,cn e kind⟩)\/((cn e kind != e)=false/\cH k p va kind e x lv=⟨gH e va lv,0,false,0,0⟩)):=by
 unfold cH at h ⊢;cases a:mD e lv with
 | true=>rw [a,if_pos rfl] at h;exact absurd h (gU kind)
 | false =>
   rw [a,if_neg bc] at h;cases b:gO k kind e with
   | true=>rw [b,if_pos rfl] at h;exact absurd h (gU kind)
   | false =>
     rw [b,if_neg bc] at h;cases c:gQ k p kind e with
     | true=>rw [c,if_pos rfl] at h;exact absurd h (gU kind)
     | false =>
       rw [c,if_neg bc] at h;refine ⟨rfl,rfl,rfl,?_⟩;cases d:(cn e kind != e) with
       | true =>
         rw [d,if_pos rfl] at h;cases f:ay k 1 x (aU x 8) 3 4 0 with
         | true=>exact .inl ⟨rfl,rfl,rfl⟩
         | false=>rw [f,if_neg bc] at h;exact absurd h (iF kind)
       | false=>exact .inr ⟨rfl,rfl⟩
theorem wE (he:U b) (h:(cH k c s t b f M).code=0):cH k c s t (cn b t) f M=⟨gH b s M,0,false,0,0⟩:=by
 obtain ⟨a,e,p,_⟩:=rh k c s t b f M h;have d:mD (cn b t) M=false:=by unfold mD at a ⊢;rw [wC b t he];exact a
 have e2:gO k t (cn b t)=false:=by unfold gO at e ⊢;rw [jI b t he 1 ab ab ab,jI b t he 2 ab ab ab,jI b t he 3 ab ab ab];exact e
 have e3:gQ k c t (cn b t)=false:=by unfold gQ at p ⊢;rw [jI b t he 4 ab ab ab];exact p
 have e4:(cn (cn b t) t != cn b t)=false:=by rw [JV b t he];simp
 have e5:gH (cn b t) s M=gH b s M:=by unfold gH;rw [wC b t he]
 unfold cH;rw [d,e2,e3,e4,e5];rfl
theorem U1 (hz:∀ i,0<=k.getD i 0/\k.getD i 0<=255) (x:Int):U (fI k x):=uT k hz 8 _ ab
theorem U2 (a:c%8=0):bK c s M%8=0:=by unfold bK;generalize bits .and .u64 (s/2^(12+9*M)) 511=z;rw [IntKind.wrap_u64,IntKind.wrap_u64];omega
theorem MK:Uz.wrap (c*4096)%8=0:=by rw [IntKind.wrap_u64];omega
theorem CF (hz:k.length=e) (x v:Int) (hx:gi e x 8=true) (hv:U v):fI (jT k (x-2147483648).toNat v 8) x=v:=by have h:=zY hx;unfold fI;rw [S7 k _ 8 v ab];have:=hv.1;have:=hv.2;omega
theorem Qb (hx:gi e c 8=true) (hy:gi e s 8=true) (b:c%8=0) (x:s%8=0) (a:c≠s):fI (jT k (c-2147483648).toNat t 8) s=fI k s:=by have h:=zY hx;have d:=zY hy;unfold fI;exact EJ k _ _ 8 t ab
theorem JW (hz:k.length=e) (hb:∀ i,0<=k.getD i 0/\k.getD i 0<=255) (l:List Int) (p va kind:Int):∀ a T,T%8=0->(bC k e l p va kind a T).code=0->(bC k e l p va kind a T).marked=true -> gi e (bC k e l p va kind a T).at_ 8=true/\(bC k e l p va kind a T).at_%8=0/\mC (fI k (bC k e l p va kind a T).at_)=false /\ bC (jT k ((bC k e l p va kind a T).at_-2147483648).toNat (bC k e l p va kind a T).entry 8) e l p va kind a T=⟨(bC k e l p va kind a T).addr,0,false,0,0⟩:=by
 intro a;induction a with
 | zero =>
   intro T q b g;have E:=gR k e l p va kind 0 T;have f:=U2 T va 0 q;have m:=U1 k hb (bK T va 0);generalize w:bC k e l p va kind 0 T=W at *;cases c:gi e (bK T va 0) 8 with
   | false=>rw [c,if_neg bc] at E;subst E;exact absurd b (iF kind)
   | true =>
     rw [c,if_pos rfl] at E;cases h:ay l 1 (bK T va 0) (aU (bK T va 0) 8) 2 4 0 with
     | false=>rw [h,if_neg bc] at E;subst E;exact absurd b (iF kind)
     | true =>
       rw [h,if_pos rfl] at E;cases j:pL (fI k (bK T va 0)) with
       | true=>rw [j,if_pos rfl] at E;subst E;exact absurd b (gU kind)
       | false =>
         rw [j,if_neg bc] at E;cases d:mC (fI k (bK T va 0)) with
         | true =>have s:jt (fI k (bK T va 0)) 0=true:=rfl;rw [d,if_pos rfl,s,if_pos rfl] at E;subst E;exact absurd b (gU kind)
         | false =>
           rw [d,if_neg bc] at E;rw [E] at b g;obtain ⟨_,_,_,⟨_,_,zs⟩|⟨_,zs⟩⟩:=rh _ _ _ _ _ _ _ b;·rw [E,zs];refine ⟨c,f,d,?_⟩;rw [gR,c,if_pos rfl,h,if_pos rfl,CF k e hz _ _ c (mF _ _),Cz _ kind m,j,if_neg bc,CD _ kind m,d,if_neg bc];exact wE _ _ _ _ _ _ _ m b
           ·rw [zs] at g;cases g
 | succ a y =>
   intro T q b g;have E:=gR k e l p va kind (a+1) T;have f:=U2 T va (a+1) q;have m:=U1 k hb (bK T va (a+1));rw [show a+1-1=a from rfl] at E;generalize w:bC k e l p va kind (a+1) T=W at *;cases c:gi e (bK T va (a+1)) 8 with
   | false=>rw [c,if_neg bc] at E;subst E;exact absurd b (iF kind)
   | true =>
     rw [c,if_pos rfl] at E;cases h:ay l 1 (bK T va (a+1)) (aU (bK T va (a+1)) 8) 2 4 0 with
     | false=>rw [h,if_neg bc] at E;subst E;exact absurd b (iF kind)
     | true =>
       rw [h,if_pos rfl] at E;cases j:pL (fI k (bK T va (a+1))) with
       | true=>rw [j,if_pos rfl] at E;subst E;exact absurd b (gU kind)
       | false =>
         rw [j,if_neg bc] at E;cases d:mC (fI k (bK T va (a+1))) with
         | true =>
           rw [d,if_pos rfl] at E;cases o:jt (fI k (bK T va (a+1))) (a+1) with
           | true=>rw [o,if_pos rfl] at E;subst E;exact absurd b (gU kind)
           | false =>rw [o,if_neg bc] at E;rw [E] at b g;obtain ⟨u,v,t,x⟩:=y _ (MK _) b g;rw [E];refine ⟨u,v,t,?_⟩;have r:(bC k e l p va kind a (Uz.wrap (eB (fI k (bK T va (a+1)))*4096))).at_≠bK T va (a+1):=(by intro n;rw [n,d] at t;cases t);rw [gR _ _ _ _ _ _ (a+1),c,if_pos rfl,h,if_pos rfl,Qb k e _ _ _ u c v f r,j,if_neg bc,d,if_pos rfl,o,if_neg bc];exact x
         | false =>
           rw [d,if_neg bc] at E;rw [E] at b g;obtain ⟨_,_,_,⟨_,_,zs⟩|⟨_,zs⟩⟩:=rh _ _ _ _ _ _ _ b;·rw [E,zs];refine ⟨c,f,d,?_⟩;rw [gR,c,if_pos rfl,h,if_pos rfl,CF k e hz _ _ c (mF _ _),Cz _ kind m,j,if_neg bc,CD _ kind m,d,if_neg bc];exact wE _ _ _ _ _ _ _ m b
           ·rw [zs] at g;cases g
theorem wG:∀ l T,l<=2 -> ((bC k e a c s t l T).code=0/\(∃ n zs,zs<=2/\(bC k e a c s t l T).addr=gH n s zs)/\((bC k e a c s t l T).marked=false->bC k e a c s t l T=⟨(bC k e a c s t l T).addr,0,false,0,0⟩)) \/ ((bC k e a c s t l T).code≠0/\(bC k e a c s t l T).addr=0/\(bC k e a c s t l T).marked=false):=by
 have p:∀ n x zs,zs<=2->((cH a c s t n x zs).code=0/\(∃ j i,i<=2/\(cH a c s t n x zs).addr=gH j s i)/\((cH a c s t n x zs).marked=false->cH a c s t n x zs=⟨(cH a c s t n x zs).addr,0,false,0,0⟩))\/((cH a c s t n x zs).code≠0/\(cH a c s t n x zs).addr=0/\(cH a c s t n x zs).marked=false):=by
  intro n x zs g;by_cases b:(cH a c s t n x zs).code=0
  ·obtain ⟨_,_,_,⟨_,_,f⟩ | ⟨_,f⟩⟩:=rh _ _ _ _ _ _ _ b;·rw [f];exact .inl ⟨rfl,⟨n,zs,g,rfl⟩,λh=>l7⟩
   ·rw [f];exact .inl ⟨rfl,⟨n,zs,g,rfl⟩,λ_=>rfl⟩
  ·refine .inr ⟨b,?_⟩;unfold cH at b ⊢;split;·exact ⟨rfl,rfl⟩
   ·rename_i m;rw [if_neg m] at b;split;·exact ⟨rfl,rfl⟩
    ·rename_i o;rw [if_neg o] at b;split;·exact ⟨rfl,rfl⟩
     ·rename_i q;rw [if_neg q] at b;split
      ·rename_i d;rw [if_pos d] at b;split;·rename_i r;rw [if_pos r] at b;exact absurd rfl b
       ·exact ⟨rfl,rfl⟩
      ·rename_i d;rw [if_neg d] at b;exact absurd rfl b
 intro l;induction l with
 | zero =>
   intro T _;rw [bC];split
   ·split
    ·split;·exact .inr ⟨gU t,rfl,rfl⟩
     ·split;·exact .inr ⟨gU t,rfl,rfl⟩
      ·exact p _ _ _ ab
    ·exact .inr ⟨iF t,rfl,rfl⟩
   ·exact .inr ⟨iF t,rfl,rfl⟩
 | succ l kind =>
   intro T va;rw [bC];split
   ·split
    ·split;·exact .inr ⟨gU t,rfl,rfl⟩
     ·split
      ·split;·exact .inr ⟨gU t,rfl,rfl⟩
       ·exact kind _ ab
      ·exact p _ _ _ ab
    ·exact .inr ⟨iF t,rfl,rfl⟩
   ·exact .inr ⟨iF t,rfl,rfl⟩
theorem Qc:∀ i,i<64->bt 4095 i=decide (i<12):=by decide +kernel
theorem ML (hk:M<=2):bits .and .u64 (gH c s M) 4095=bits .and .u64 s 4095:=by
 refine bA _ _ (ah _ _ _) (ah _ _ _) λi a=>?_;unfold gH Jw;rw [az,az,cC,aA _ _ _ a,az,Hh _ ab i a,Qc i a];by_cases h:i<12;·have b:i<12+9*M:=ab;simp [h,b]
 ·simp [h]
theorem Fs (hz:k.length=e) (hb:∀ i,0<=k.getD i 0/\k.getD i 0<=255) (l:List Int) (p va kind:Int): ((bN k e l p va kind).code=0/\bN (bp k (bN k e l p va kind)) e l p va kind=⟨(bN k e l p va kind).addr,0,false,0,0⟩/\bits .and .u64 (bN k e l p va kind).addr 4095=bits .and .u64 va 4095) \/ ((bN k e l p va kind).code≠0/\(bN k e l p va kind).addr=0/\(bN k e l p va kind).marked=false):=by
 have E:∀ c,bN c e l p va kind=if ((p==3)||(l.getD 15 0/1152921504606846976==0))=true then ⟨va,0,false,0,0⟩ else if (au 39 va != va)=true then bZ kind else bC c e l p va kind 2 (kY l):=λc=>rfl
 rw [E k];cases f:((p==3)||(l.getD 15 0/1152921504606846976==0)) with
 | true =>rw [if_pos rfl];refine .inl ⟨rfl,?_,rfl⟩;rw [E,f,if_pos rfl]
 | false =>
   rw [if_neg bc];cases g:(au 39 va != va) with
   | true=>rw [if_pos rfl];exact .inr ⟨gU kind,rfl,rfl⟩
   | false =>
     rw [if_neg bc];rcases wG k e l p va kind 2 (kY l) ab with ⟨d,⟨n,zs,o,m⟩,b⟩|h
     ·refine .inl ⟨d,?_,by rw [m];exact ML n va zs o⟩;rw [E,f,if_neg bc,g,if_neg bc];cases a:(bC k e l p va kind 2 (kY l)).marked with
      | true =>have j:kY l%8=0:=MK _;obtain ⟨_,_,_,q⟩:=JW k e hz hb l p va kind 2 (kY l) j d a;unfold bp;rw [a,if_pos rfl];exact q
      | false =>unfold bp;rw [a,if_neg bc];exact b a
     ·exact .inr h
structure MW (M:MV):Prop where
 cs:∀ j,U (M.cs.getD j 0)
 ram:∀ y ∈ M.ram,(Lit.int .u8 y).wf=true
 xs:∀ y ∈ M.d.xs,(Lit.int .u8 y).wf=true
 ys:∀ y ∈ M.d.ys,(Lit.int .u8 y).wf=true
theorem Hj (h:(Lit.int .u8 w).wf=true):0<=w/\w<=255:=by simpa [Lit.wf,IntKind.min,IntKind.max,IntKind.signed,IntKind.bits] using h
theorem MN {y:Int} (h:0<=y/\y<=255):(Lit.int .u8 y).wf=true:=by simpa [Lit.wf,IntKind.min,IntKind.max,IntKind.signed,IntKind.bits] using h
theorem MO (h:∀ y ∈ k,(Lit.int .u8 y).wf=true) (f:Nat) (x:Int) (zs:Nat):∀ y ∈ jT k f x zs,(Lit.int .u8 y).wf=true:=λy a=>MN (KU k (λz b=>Hj (h z b)) f x zs y a)
theorem Ap (h:∀ y ∈ k,(Lit.int .u8 y).wf=true) (F:Fd):∀ y ∈ bp k F,(Lit.int .u8 y).wf=true:=by
 unfold bp;split;·exact MO k h _ _ _
 ·exact h
theorem aC {M:MV} (h:dU M=true):M.cs.length=22/\bo 22 M.cs=true/\cg M.pr=true/\bf M.ram.length=true/\nZ M.d.xs.length M.d.ys.length M.d.ir=true/\lN M=true:=by unfold dU at h;simp only [Bool.and_eq_true] at h;obtain ⟨⟨⟨⟨⟨⟨_,_⟩,c⟩,d⟩,e⟩,_⟩,f⟩:=h;have a:=qO c;have b:=c;unfold bj at b;rw [Bool.and_eq_true] at b;rw [a] at b;exact ⟨a,b.1,b.2,d,e,f⟩
theorem U5 (h:U c):c/2048%4=(if bt c 11=true then 1 else 0)+2*(if bt c 12=true then 1 else 0):=by
 have b:ap c 11=c/2^11%2^1:=by have a:=mj c h 11;exact cK (c/2^11) 1 a.1 a.2 ab
 have e2:ap c 12=c/2^12%2^1:=by have a:=mj c h 12;exact cK (c/2^12) 1 a.1 a.2 ab
 have s:=rf c h 11;have d:=rf c h 12;rw [<- s,<- d,b,e2];omega
theorem CG (a:U c) (s:fq 0 c=true):cg (wrap64 (bits .and .u64 (c/2048) 3))=true:=by
 have g:mst c=c:=by unfold fq bn at s;simpa using s
 have b:=((su _ a).1 g).2;have d:=mj c a 11;have f:=cK (c/2^11) 2 d.1 d.2 ab;have e:bits .and .u64 (c/2048) 3=c/2048%4:=f;rw [e,U5 c a];revert b;cases bt c 11<;>cases bt c 12<;>intro b;·decide +kernel
 ·cases b
 ·decide +kernel
 ·decide +kernel
theorem wH (c:U (l.getD 0 0)) (a:bo 22 l=true) (d:cg w=true) (kind:Int):cg (fO l w kind)=true:=by
 unfold fO;split;·have b:fq 0 (l.getD 0 0)=true:=(by unfold bo fH at a;simp only [Bool.and_eq_true] at a;exact a.2.1);exact CG _ c b
 ·exact d
theorem uK (h:U s):U (bN k e a c s t).addr:=by
 unfold bN;split;·exact h
 ·split;·exact ⟨by show (0:Int)<=0;omega,by show (0:Int)<_;omega⟩
  ·rcases wG k e a c s t 2 (kY a) ab with ⟨_,⟨n,zs,_,l⟩,_⟩|⟨_,l,_⟩;·rw [l];exact ah _ _ _
   ·rw [l];exact ⟨ab,ab⟩
theorem Ft (a:1<=s) (b:s<=8):aU c s=Uz.wrap (Uz.wrap (c+s)-1):=by unfold aU;rw [show Uz.wrap s=s by rw [IntKind.wrap_u64];omega]
theorem fA (hz:a.length=e) (hs:Sl .u64 g p a) (hl:∀ j,U (a.getD j 0)): CB 68 #[.slice p e y,.i c] g (.bool (bj e a c)):=by
 have f:Hid (CB 62 #[.slice p e y] g (.bool (bo e a))):=by have:=jG p e y a g hz hs hl;rw [sp e a hl] at this;exact this
 have w:Hid (∀ g,CE 109 #[.i c] g (.bool (cg c))):=wk c;have F:Hid (bj e a c=(bo e a&&cg c)):=(rfl:bj e a c=_);clear hs hz hl;generalize bo e a=q at *;generalize cg c=r at *;cases q with
 | false =>go_enter func68,ntmps68;go_wp2_with fail;refine f.out.mono ?_;rintro n m ⟨rfl,l⟩;go_wp2_with fail;go_ret;exact ⟨bh,l⟩
 | true =>go_enter func68,ntmps68;go_wp2_with fail;refine f.out.mono ?_;rintro n m ⟨rfl,l⟩;go_wp2_with fail;refine (w.out _).mono ?_;rintro n o ⟨rfl,d⟩;subst d;go_wp2_with fail;go_ret;exact ⟨bh,l⟩
theorem Qd (c:Nat) (x:List Int) (w:World) (hx:x.length=e) (hs:Sl .u64 w p x): CE 67 #[.slice p e c] w (.bool (gA e x)):=by
 by_cases h:e=32;·subst h;obtain ⟨b,f,rfl,m,g⟩:=hs 0 ab;have F:Hid (gA 32 x=(x.getD 0 0==0)):=(by show _=_;unfold gA;simp);have j:w.cell? ⟨b,f,none⟩=some (.u (x.getD 0 0)):=g;generalize gA 32 x=V at *;generalize x.getD 0 0=y at *;clear hs hx g;go_enter func67,ntmps67;exact a02
 ·have F:Hid (gA e x=false):=(by show _=_;unfold gA;rw [decide_eq_false h];rfl);have d:((e:Int)==32)=false:=bv;generalize gA e x=V at *;clear hs hx h;go_enter func67,ntmps67;exact a02
theorem Fu:Calls prog 66 #[.u c,.i 0,.i 2] g λe b=>e=.returned (.u (bits .and .u64 c 3))/\b=g.drew:=by
 go_enter func66,ntmps66;go_wp2_with fail;go_region;all_goals go_wp2_with fail
 all_goals go_ret
 all_goals exact ⟨rfl,rfl⟩
theorem yV (D:DV) (a1:Option Addr) (c1:Nat) (a2:Option Addr) (c2:Nat) (w:World) (b:D.xs.length<=1048576) (c:D.ys.length<=1048576):CB 71 #[.agg #[.u D.t,.u D.cm,.bool D.so,.slice a1 D.xs.length c1,.slice a2 D.ys.length c2,.i D.ir]] w (.u (jj D)):=by have g:Hid (∀ w,CB 110 #[.agg #[.u D.t,.u D.cm,.bool D.so,.slice a1 D.xs.length c1,.slice a2 D.ys.length c2,.i D.ir]] w (.u (jj D))):=λw=>xO D a1 c1 a2 c2 w b c;have j:∀ o,Bw w (w.alloc o):=λo=>(Below.refl _ _).alloc (Nat.le_refl _) o;generalize jj D=v at *;clear b c;go_enter func71,ntmps71;go_wp2_with fail;refine (g.out _).mono ?_;rintro e l ⟨rfl,d⟩;go_wp2_with fail;go_ret;exact ⟨rfl,aa (j _) d⟩
theorem hZ (M:MV) (A:MA) (w:World) (hl:kV M) (hs:pn w M A) (R:∀ j,U (M.cs.getD j 0)):CB 27 #[.agg (aj M A)] w (.bool (dU M)):=by
 have s:=λW (_:Bw w W)=>(Fu M.pc W).mono λe w'' ⟨T,V⟩=>And.intro T (show Bw W w'' by rw [V];exact (Below.refl _ _).drew);have z:=λW g=>Qd A.ax M.x.length A.cx _ W rfl (hs.x.below g);have y:=λW g=>fA A.ac M.cs.length A.cc _ M.pr W rfl (hs.cs.below g) R;have P:=λW (_:Bw w W)=>fx A.ar M.ram.length A.cr W hl.ram;have O:=λW (_:Bw w W)=>kl M.d.t M.d.cm M.d.so A.ai M.d.xs.length A.ci A.ao M.d.ys.length A.co M.d.ir W hl.xs hl.ys;have Q:=λW (_:Bw w W)=>yV M.d A.ai A.ci A.ao A.co W hl.xs hl.ys;have u:dU M=((bits .and .u64 M.pc 3==0)&&gA M.x.length M.x&&bj M.cs.length M.cs M.pr&&bf M.ram.length&&nZ M.d.xs.length M.d.ys.length M.d.ir&&(M.hl||(M.hd==0))&&(bits .and .u64 (M.cs.getD 9 0) 2184==jj M.d)):=by unfold dU lN jj;cases nZ M.d.xs.length M.d.ys.length M.d.ir<;>simp
 rw [u];clear u;generalize jj M.d=X at *;generalize r:(bits .and .u64 M.pc 3==0)=p;generalize gA M.x.length M.x=q at *;generalize K:bj M.cs.length M.cs M.pr=B at *;generalize bf M.ram.length=C at *;generalize nZ M.d.xs.length M.d.ys.length M.d.ir=D at *;generalize L:(M.hd==0)=E;generalize N:(bits .and .u64 (M.cs.getD 9 0) 2184==X)=F;cases B with
 | false =>
   refine bD (S:=Bs w [(aj M A,32)]) [(aj M A,32)] func27 ?_;cases p;case' true=>cases q
   all_goals exact bm (t:=2) (v:=.bool false) Bs.eng {eq:=[(6,ak r)],cv:=[(5,fY s),(10,mL z),(17,fY y)]} 300 (Bs.start _ _) (λn h=>⟨cp,h.2⟩)
 | true =>
   have J:=qO K;obtain ⟨H,I,f,i,k⟩:=hs.cs 9 ab;obtain ⟨pc,x,m,b,a,d,l,c,o⟩:=M;dsimp only at *;refine bD (S:=Bs w [(aj ⟨pc,x,m,b,a,d,l,c,o⟩ A,32)]) [(aj ⟨pc,x,m,b,a,d,l,c,o⟩ A,32)] func27 ?_;have G:∀ W,Bs w [(aj ⟨pc,x,m,b,a,d,l,c,o⟩ A,32)] W->W.cell? ⟨H,I+9,none⟩=some (.u (b.getD 9 0)):=λW h=>(h.2.cell (by exact i)).trans k;cases p;case' true =>cases q;case' true =>cases C;case' true =>cases D;case' true=>cases c<;>cases E<;>cases F
   all_goals exact bm (t:=2) (v:=.bool _) Bs.eng {eq:=[(6,ak r),(35,ak L),(47,ak N)],ov:=[(41,kJ b.length A.cc .i64 9 f ab underlying23 ba),(42,je _ _ underlying22 rfl G)],cv:=[(5,fY s),(10,mL z),(17,fY y),(22,mL P),(27,fY O),(46,fY Q)]} 300 (Bs.start _ _) (λn h=>⟨rfl,h.2⟩)
end Go.Proofs.YtjifdmoehfbihaaGreatDoor
