/- Own lemmas. -/
import Derived.Test.YtjifdmoehfbihaaGreatDoorAut
import Derived.Test.YtjifdmoehfbihaaGreatDoorK17
set_option maxRecDepth 100000
set_option maxHeartbeats 4000000
namespace Go.Proofs.YtjifdmoehfbihaaGreatDoor
open Go.RowKit Tryz
open IntKind renaming u64->Uz
set_option linter.unusedVariables false
theorem yx (x:Int):∀ n k j,bW x n k=some j->k<=j/\j<k+n/\lA j x=true:=by
 intro n;induction n with
 | zero=>intro k j h;simp [bW] at h
 | succ n b =>
   intro k j h;rw [bW] at h;split at h;·rename_i a;simp at h;subst h;exact ⟨al,al,a⟩
   ·have:=b (k+1) j h;exact ⟨al,al,this.2.2⟩
theorem Ky {x:Int} {i:Ins} (h:D6 x=some i):x<4294967296/\∃ k,k<98/\lA k x=true/\i=pz k x:=by
 unfold D6 at h;split at h
 ·rename_i c;cases a:bW x 98 0 with
  | none=>rw [a] at h;simp at h
  | some k =>rw [a] at h;simp at h;obtain ⟨d,e,b⟩:=yx x 98 0 k a;exact ⟨c,k,al,b,h.symm⟩
 ·simp at h
theorem OR (f:Fm) (x:Int):0<=IK f x/\IK f x<=31:=by have:=jN x 7 5;unfold IK;split<;>omega
theorem P1 (f:Fm) (x:Int):0<=aV f x/\aV f x<=31:=by have:=jN x 15 5;unfold aV;split<;>omega
theorem P3 (f:Fm) (x:Int):0<=bV f x/\bV f x<=31:=by have:=jN x 20 5;unfold bV;split<;>omega
theorem yy (x:Int) (h:x%2=0):aq 13 x%2=0:=by
 have e:(2:Int)^(64-13)=2251799813685248:=a5
 unfold aq;exact a0e
theorem yz (x:Int) (h:x%2=0):aq 21 x%2=0:=by
 have e:(2:Int)^(64-21)=8796093022208:=a5
 unfold aq;exact a0e
structure jg (i:Ins):Prop where
 op1:1<=i.op
 op98:i.op<=98
 rd0:0<=i.rd
 rd31:i.rd<=31
 a0:0<=i.a
 a31:i.a<=31
 b0:0<=i.b
 b31:i.b<=31
 im0 : -9223372036854775808<=i.imm
 im1:i.imm<9223372036854775808
 even:(i.op=3\/5<=i.op/\i.op<=10)->i.imm%2=0
theorem OS:∀ k,k<98->(k=2\/4<=k/\k<=9)->(bN k).fm=.b\/(bN k).fm=.j:=by
 have h:(List.range 98).all (λk=>!(decide (k=2\/4<=k/\k<=9))||(decide ((bN k).fm=.b\/(bN k).fm=.j)))=true:=a3
 intro k a e;have:=List.all_eq_true.1 h k ti;rw [decide_eq_true e] at this;simpa using this
theorem yA {x:Int} {i:Ins} (h:D6 x=some i):jg i:=by
 obtain ⟨m,k,g,l,rfl⟩:=Ky h;have a:=OR (bN k).fm x;have b:=P1 (bN k).fm x;have c:=P3 (bN k).fm x;have d : -9223372036854775808<=mW (bN k).fm x/\mW (bN k).fm x<9223372036854775808:=by unfold mW RowKit.wrap64;omega
 refine ⟨by show (1:Int)<=(k:Int)+1;omega,by show (k:Int)+1<=98;omega,a.1,a.2,b.1,b.2,c.1,c.2,d.1,d.2,λe=>?_⟩;have f:k=2\/4<=k/\k<=9:=by have j:((k:Int)+1=3\/5<=(k:Int)+1/\(k:Int)+1<=10):=e;omega
 show mW (bN k).fm x%2=0;rcases OS k g f with q|q<;>rw [q]<;>unfold mW;·have:=yy (xB .b x) (by simp only [xB];omega);show RowKit.wrap64 (aq 13 (xB .b x))%2=0;unfold RowKit.wrap64;omega
 ·have:=yz (xB .j x) (by simp only [xB];omega);show RowKit.wrap64 (aq 21 (xB .j x))%2=0;unfold RowKit.wrap64;omega
def AF.fn:AF->Nat
 | .sum=>255 | .slt=>256 | .sltu=>257 | .xor=>258 | .or=>259 | .and=>260
 | .sl=>261 | .sr=>262 | .sra=>263 | .sub=>265 | .mul=>266
 | .mulh=>267 | .mulhsu=>268 | .high=>269 | .div=>270 | .divu=>271
 | .rem=>272 | .remu=>273
def SD.fn:SD->Nat
 | .low=>243 | .sgn=>242 | .five=>264
theorem AF.calls (f:AF) (a b:Int) (g:0<=a) (h:a<18446744073709551616) (c:0<=b) (d:b<18446744073709551616) (w:World):Calls prog f.fn #[.u a,.u b] w λe i=>e=.returned (.u (f.v a b))/\∃ m,i=w.drewN m:=by
 cases f;·exact aT (vU a b w)
 ·exact aT (tD a b w)
 ·exact aT (xG a b w)
 ·exact aT (vV a b w)
 ·exact aT (zF a b w)
 ·exact aT (vX a b w)
 ·exact mB (ve a b c d w)
 ·exact mB (tC a b c d w)
 ·exact mB (nD a b c d w)
 ·exact aT (qq a b w)
 ·exact aT (vd a b w)
 ·exact aT (tE a b g h c d w)
 ·exact aT (iE a b g h c d w)
 ·exact aT (mC a b g h c d w)
 ·exact aT (oN a b c d w)
 ·exact aT (qr a b w)
 ·exact aT (tF a b c d w)
 ·exact aT (xH a b w)
theorem SD.calls (s:SD) (x:Int) (a:0<=x) (b:x<18446744073709551616) (w:World):Calls prog s.fn #[.u x] w λe c=>e=.returned (.u (s.v x))/\∃ m,c=w.drewN m:=by
 cases s;·exact aT (rn x a w)
 ·exact aT (oB x w)
 ·exact mB (zE x a b w)
def AO.cells:AO->List Value
 | .d f=>[.func (.func f.fn) #[] #[],.nilFunc,.nilFunc]
 | .w f l r=>[.func (.func f.fn) #[] #[],.func (.func l.fn) #[] #[],.func (.func r.fn) #[] #[]]
def aluCells:Array Value:=(Pd.flatMap AO.cells).toArray
def dX:Array Value:=(List.replicate 123 Value.nilFunc).toArray
theorem i9:dX.size=123:=by kernel_rfl
theorem dj:aluCells.size=123:=by kernel_rfl
theorem ja:(prog.info? 269).bind (·.zero)=some (.agg dX):=by kernel_rfl
theorem jb:aluCells.all (·.oneCell')=true:=by kernel_rfl
theorem gV:(prog.info? 269).map (·.size)=some 123:=by kernel_rfl
theorem yB:Pd.length=41:=by rfl
theorem AY (k:Nat) (h:k<41) (j:Nat) (a:j<3):aluCells[k*3+j]?=(nC k).cells[j]?:=by
 have:=tl AO.cells 3 Pd (by intro x _;cases x<;>rfl) k (by rw [yB];exact h) j a;have e:Pd[k]'(by rw [yB];exact h)=nC k:=by simp [nC,List.getD,List.getElem?_eq_getElem (show k<Pd.length by rw [yB];exact h)]
 rw [e] at this;rw [<- this];simp [aluCells]
theorem AZ (w:World):CB 239 #[] w (.agg aluCells):=by go_enter func239,ntmps239;apply wp_seq_k;intro c b;apply wp_region_list;refine cy rfl 269 rfl (some 0) rfl _ ja ?_;apply wpList_nil;refine b _ _ ?_;clear b c;apply wp_seq_k;intro c b;apply wp_region_lit;refine jM 42 0 42 (.p w.heap.size 0) (.agg aluCells) a3 ?_;intro m f d j;have g:(w.alloc (.cells (Value.agg dX).cells 269)).heap[w.heap.size]?=some (.cells dX 269 (0,0)):=heap_alloc_new _ _;refine wpList_store_rowTo rfl 269 (.tmp 0) (.tmp 42) rfl rfl w.heap.size aluCells f d 269 dX g (by rw [gV,dj]) (by rw [i9,dj]) jb ?_;apply wpList_nil;refine b _ _ ?_;clear b c;apply wp_ret;refine bodyPost_ret (results_cell_row results239 _ _ _ _ _ _ _ f (setRow_heap _ _ _ _ _ _ g) underlying269 rfl (by rw [gV,dj])) j ⟨rfl,?_⟩;exact aD (bal _ _) (Nat.le_refl _) _
theorem og (w:World):Calls prog 239 #[] w λe a=>∃ T,e=.returned T/\Hid (T=.agg aluCells)/\Bw w a :=
 (AZ w).mono λe a h=>⟨.agg aluCells,h.1,(rfl:Value.agg aluCells=.agg aluCells),h.2⟩
theorem AF.enters (f:AF):(prog.funcs[f.fn]?).map (λa=>(a.name == "runtime.NumGoroutine",a.body.isSome))=some (false,true):=by cases f<;>kernel_rfl
theorem SD.enters (s:SD):(prog.funcs[s.fn]?).map (λa=>(a.name == "runtime.NumGoroutine",a.body.isSome))=some (false,true):=by cases s<;>kernel_rfl
def Kz (w:World) (g:Nat):Prop:=g<w.heap.size/\∀ k,k<41->∀ a b c,(nC k).cells=[a,b,c]->w.cell? ⟨g,k*3,none⟩=some a/\w.cell? ⟨g,k*3+1,none⟩=some b/\w.cell? ⟨g,k*3+2,none⟩=some c
theorem EJ {w:World} {g:Nat} {t:TypeId} (h:w.heap[g]?=some (.cells aluCells t (0,0))):Kz w g:=by
 refine ⟨?_,λk c f i l a=>?_⟩
 ·by_cases d:g<w.heap.size;·exact d
  ·rw [Array.getElem?_eq_none al] at h;cases h
 ·have e:∀ j,j<3->w.cell? ⟨g,k*3+j,none⟩=(nC k).cells[j]?:=(by intro j b;rw [cell_of_row _ _ _ _ _ _ h];exact AY k c j b);rw [a] at e;exact ⟨e 0 a5,e 1 a5,e 2 a5⟩
theorem Ba (x:Nat) (w:World):(binOp .eql 129 (.func (.func x) #[] #[]) .nilFunc).run prog w=.ok (.bool false) w:=by kernel_rfl
theorem Dt (w:World):(binOp .eql 129 .nilFunc .nilFunc).run prog w=.ok (.bool true) w:=by kernel_rfl
theorem rP:(prog.info? 268).map (·.size)=some 3:=by kernel_rfl
theorem KA (a b c:Nat):(#[Value.func (.func a) #[] #[],.func (.func b) #[] #[],.func (.func c) #[] #[]]:Array Value).all (·.oneCell')=true:=by simp [Value.oneCell']
theorem KB (a:Nat):(#[Value.func (.func a) #[] #[],.nilFunc,.nilFunc]:Array Value).all (·.oneCell')=true:=by simp [Value.oneCell']
theorem GY (k:Nat) (hk:k<41) (a b:Int) (z:0<=a) (I:a<18446744073709551616) (A:0<=b) (J:b<18446744073709551616) (f:AF) (l r:SD) (hr:Hid (nC k=.w f l r)) (w:World):CB 208 #[.i ((k:Int)+22),.u a,.u b] w (.tuple #[.u (aq 32 (f.v (l.v a) (r.v b))),.bool true]):=by
 have N:wrap64 ((k:Int)+22-22)=k:=by unfold wrap64;omega
 have R:decide ((k:Int)+22<22)=false:=by simp;omega
 have S:decide (41<=(k:Int))=false:=by simp;omega
 have C:=Ba;have K:=lP f.enters;have L:=lP l.enters;have M:=lP r.enters;go_enter func208,ntmps208;go_wp2_with fail;refine (og _).mono ?_;rintro e j ⟨T,rfl,H,u⟩;have B:(j.alloc (.cells (Value.agg dX).cells 269)).heap[j.heap.size]?=some (.cells dX 269 (0,0)):=heap_alloc_new _ _;obtain ⟨c,o⟩:∃ c,c=(j.alloc (.cells (Value.agg dX).cells 269)).setRow j.heap.size aluCells:=⟨_,rfl⟩;have D:Hid (Kz c j.heap.size):=by show Kz _ _;rw [o];exact EJ (setRow_heap _ _ _ _ _ _ B)
 have s:Hid (c=(j.alloc (.cells (Value.agg dX).cells 269)).setRow j.heap.size aluCells):=o;clear o;have y:(c.alloc (.cells #[.nilFunc,.nilFunc,.nilFunc] 268)).heap[c.heap.size]?=some (.cells #[.nilFunc,.nilFunc,.nilFunc] 268 (0,0)):=heap_alloc_new _ _;obtain ⟨q,p⟩:∃ q,q=(c.alloc (.cells #[.nilFunc,.nilFunc,.nilFunc] 268)).setRow c.heap.size #[.func (.func f.fn) #[] #[],.func (.func l.fn) #[] #[],.func (.func r.fn) #[] #[]]:=⟨_,rfl⟩;have d:q.heap[c.heap.size]?=some (.cells #[.func (.func f.fn) #[] #[],.func (.func l.fn) #[] #[],.func (.func r.fn) #[] #[]] 268 (0,0)):=by rw [p];exact setRow_heap _ _ _ _ _ _ y
 have U:q.cell? ⟨c.heap.size,0,none⟩=some (.func (.func f.fn) #[] #[]):=cell_of_row _ _ _ _ _ _ d;have V:q.cell? ⟨c.heap.size,1,none⟩=some (.func (.func l.fn) #[] #[]):=cell_of_row _ _ _ _ _ _ d;have W:q.cell? ⟨c.heap.size,2,none⟩=some (.func (.func r.fn) #[] #[]):=cell_of_row _ _ _ _ _ _ d;have t:Hid (q=(c.alloc (.cells #[.nilFunc,.nilFunc,.nilFunc] 268)).setRow c.heap.size #[.func (.func f.fn) #[] #[],.func (.func l.fn) #[] #[],.func (.func r.fn) #[] #[]]):=p;clear p d;obtain ⟨O,P,Q⟩:=D.out.2 k hk _ _ _ (by rw [hr.out];rfl);go_wp2_with (first | refine cy rfl 269 rfl (some 8) rfl _ ja ?_ | (refine wpList_store_rowTo rfl 269 (.tmp 8) (.tmp 10) rfl rfl j.heap.size aluCells rfl H.out 269 dX B (by rw [gV,dj]) (by rw [i9,dj]) jb ?_;rw [<- s.out]) | (refine wpList_store_rowTo rfl 268 (.tmp 9) (.tmp 21) rfl rfl c.heap.size #[.func (.func f.fn) #[] #[],.func (.func l.fn) #[] #[],.func (.func r.fn) #[] #[]] rfl rfl 268 _ y rP rfl (KA _ _ _) ?_;rw [<- t.out]));have F:Hid (∀ w:World,Calls prog l.fn #[.u a] w λe g=>e=.returned (.u (l.v a))/\∃ m,g=w.drewN m):=SD.calls l a z I;have HR:Hid (∀ w:World,Calls prog r.fn #[.u b] w λe g=>e=.returned (.u (r.v b))/\∃ m,g=w.drewN m):=SD.calls r b A J;have E:Hid (∀ w:World,Calls prog f.fn #[.u (l.v a),.u (r.v b)] w λe g=>e=.returned (.u (f.v (l.v a) (r.v b)))/\∃ m,g=w.drewN m):=AF.calls f _ _ (l.bd a z).1 (l.bd a z).2 (r.bd b A).1 (r.bd b A).2;have G:Hid (∀ (x:Int) (w:World),Calls prog 136 #[.u x,.i 32] w λe g=>e=.returned (.u (aq 32 x))/\∃ m,g=w.drewN m):=λx w=>aT (io x 32 al al w);go_quiet (first | with_reducible refine Calls.quiet_of (F.out _) | with_reducible refine Calls.quiet_of (HR.out _) | with_reducible refine Calls.quiet_of (E.out _) | with_reducible refine Calls.quiet_of (G.out _ _))
 go_wp2_with fail;go_ret2;refine ⟨rfl,pn ?_ _⟩;rw [t.out,s.out];refine aD (Below.alloc (aD (u.alloc u.size _) u.size _) ?_ _) ?_ _;·rw [setRow_size];exact Nat.le_trans u.size bc
 ·rw [setRow_size];exact Nat.le_trans u.size bc
theorem GZ (k:Nat) (hk:k<41) (a b:Int) (A:0<=a) (B:a<18446744073709551616) (C:0<=b) (D:b<18446744073709551616) (f:AF) (hr:Hid (nC k=.d f)) (w:World):CB 208 #[.i ((k:Int)+22),.u a,.u b] w (.tuple #[.u (f.v a b),.bool true]):=by
 have F:wrap64 ((k:Int)+22-22)=k:=by unfold wrap64;omega
 have K:decide ((k:Int)+22<22)=false:=by simp;omega
 have L:decide (41<=(k:Int))=false:=by simp;omega
 have u:=Dt;have E:=lP f.enters;go_enter func208,ntmps208;go_wp2_with fail;refine (og _).mono ?_;rintro e g ⟨T,rfl,z,q⟩;have t:(g.alloc (.cells (Value.agg dX).cells 269)).heap[g.heap.size]?=some (.cells dX 269 (0,0)):=heap_alloc_new _ _;obtain ⟨c,j⟩:∃ c,c=(g.alloc (.cells (Value.agg dX).cells 269)).setRow g.heap.size aluCells:=⟨_,rfl⟩;have y:Hid (Kz c g.heap.size):=by show Kz _ _;rw [j];exact EJ (setRow_heap _ _ _ _ _ _ t)
 have o:Hid (c=(g.alloc (.cells (Value.agg dX).cells 269)).setRow g.heap.size aluCells):=j;clear j;have r:(c.alloc (.cells #[.nilFunc,.nilFunc,.nilFunc] 268)).heap[c.heap.size]?=some (.cells #[.nilFunc,.nilFunc,.nilFunc] 268 (0,0)):=heap_alloc_new _ _;obtain ⟨m,l⟩:∃ m,m=(c.alloc (.cells #[.nilFunc,.nilFunc,.nilFunc] 268)).setRow c.heap.size #[.func (.func f.fn) #[] #[],.nilFunc,.nilFunc]:=⟨_,rfl⟩;have d:m.heap[c.heap.size]?=some (.cells #[.func (.func f.fn) #[] #[],.nilFunc,.nilFunc] 268 (0,0)):=by rw [l];exact setRow_heap _ _ _ _ _ _ r
 have M:m.cell? ⟨c.heap.size,0,none⟩=some (.func (.func f.fn) #[] #[]):=cell_of_row _ _ _ _ _ _ d;have N:m.cell? ⟨c.heap.size,1,none⟩=some .nilFunc:=cell_of_row _ _ _ _ _ _ d;have O:m.cell? ⟨c.heap.size,2,none⟩=some .nilFunc:=cell_of_row _ _ _ _ _ _ d;have p:Hid (m=(c.alloc (.cells #[.nilFunc,.nilFunc,.nilFunc] 268)).setRow c.heap.size #[.func (.func f.fn) #[] #[],.nilFunc,.nilFunc]):=l;clear l d;obtain ⟨H,I,J⟩:=y.out.2 k hk _ _ _ (by rw [hr.out];rfl);go_wp2_with (first | refine cy rfl 269 rfl (some 8) rfl _ ja ?_ | (refine wpList_store_rowTo rfl 269 (.tmp 8) (.tmp 10) rfl rfl g.heap.size aluCells rfl z.out 269 dX t (by rw [gV,dj]) (by rw [i9,dj]) jb ?_;rw [<- o.out]) | (refine wpList_store_rowTo rfl 268 (.tmp 9) (.tmp 21) rfl rfl c.heap.size #[.func (.func f.fn) #[] #[],.nilFunc,.nilFunc] rfl rfl 268 _ r rP rfl (KB _) ?_;rw [<- p.out]));refine (AF.calls f a b A B C D _).mono ?_;rintro e P ⟨rfl,nq,s⟩;subst s;go_wp2_with fail;go_ret2;refine ⟨rfl,pn ?_ _⟩;rw [p.out,o.out];refine aD (Below.alloc (aD (q.alloc q.size _) q.size _) ?_ _) ?_ _;·rw [setRow_size];exact Nat.le_trans q.size bc
 ·rw [setRow_size];exact Nat.le_trans q.size bc
theorem yC (op a b:Int) (m:(Lit.int .i64 op).wf=true) (h:xC op=false) (w:World):CB 208 #[.i op,.u a,.u b] w (.tuple #[.u 0,.bool false]):=by
 have l:¬ (22<=op/\op<=62):=by simpa [xC] using h
 have p:=Ix m;clear m h;by_cases f:op<22;·have o:decide (op<22)=true:=et;clear l f;go_enter func208,ntmps208;go_wp2_with fail;refine (og _).mono ?_;rintro e d ⟨T,rfl,g,c⟩;have j:(d.alloc (.cells (Value.agg dX).cells 269)).heap[d.heap.size]?=some (.cells dX 269 (0,0)):=heap_alloc_new _ _;go_wp2_with (first | refine cy rfl 269 rfl (some 8) rfl _ ja ?_ | (refine wpList_store_rowTo rfl 269 (.tmp 8) (.tmp 10) rfl rfl d.heap.size aluCells rfl g.out 269 dX j (by rw [gV,dj]) (by rw [i9,dj]) jb ?_));exact a0x
 ·have o:decide (op<22)=false:=et;have s:wrap64 (op-22)=op-22:=la;have r:decide (41<=op-22)=true:=a7;clear l f;go_enter func208,ntmps208;go_wp2_with fail;refine (og _).mono ?_;rintro e d ⟨T,rfl,g,c⟩;have j:(d.alloc (.cells (Value.agg dX).cells 269)).heap[d.heap.size]?=some (.cells dX 269 (0,0)):=heap_alloc_new _ _;go_wp2_with (first | refine cy rfl 269 rfl (some 8) rfl _ ja ?_ | (refine wpList_store_rowTo rfl 269 (.tmp 8) (.tmp 10) rfl rfl d.heap.size aluCells rfl g.out 269 dX j (by rw [gV,dj]) (by rw [i9,dj]) jb ?_));exact a0x
theorem rQ (op a b:Int) (n:(Lit.int .i64 op).wf=true) (c:0<=a) (g:a<18446744073709551616) (i:0<=b) (j:b<18446744073709551616) (w:World):CB 208 #[.i op,.u a,.u b] w (.tuple #[.u (mA op a b),.bool (xC op)]):=by
 cases h:xC op with
 | false =>have e:mA op a b=0:=(by simp [mA,h]);rw [e];exact yC op a b n h w
 | true =>
   have p:22<=op/\op<=62:=(by simpa [xC] using h);obtain ⟨k,rfl⟩:∃ k:Nat,op=(k:Int)+22:=⟨(op-22).toNat,al⟩;have e:mA ((k:Int)+22) a b=(nC k).v a b:=(by simp [mA,h]);rw [e];cases m:nC k with
   | d f=>exact GZ k al a b c g i j f m w
   | w f l r=>exact GY k al a b c g i j f l r m w
theorem vD {c:Array Oper} {rest:List Oper} {o:Oper} {a:Act} {w:World} {Q:Exit->Act->World->Prop} {T V:Value} {kk:IntKind} {k:Int} (H:Hid (∀ w:World,(Instr.index 233 T (.int kk k)).run prog w=.ok V w)) (e:o.guard=none) (x i:Operand) (g:o.op=.index 233 x i) (hx:a.eval x=T) (f:a.eval i=.int kk k) (h:wpList prog c Q rest (a.put o.dst V) w):wpList prog c Q (o::rest) a w:=by
 refine wpList_plain e λK d=>?_;have b:(execOp a.eval o).run prog w=.ok (.value V) w:=by simp [execOp,g,hx,f,H.out]
 unfold Oper.wp;rw [b,Oper.upon_value];exact d _ _ h
theorem pZ (w:World):(w.alloc (.cells #[.i 0,.i 0,.i 0,.i 0,.i 0] 69)).heap[w.heap.size]?=some (.cells #[.i 0,.i 0,.i 0,.i 0,.i 0] 69 (0,0)):=heap_alloc_new _ _
theorem uJ (x:Int) (Y:0<=x) (h1:x<18446744073709551616) (w:World):CB 150 #[.u x] w (lV x):=by
 by_cases b:x<4294967296
 ·have d1:decide (4294967295<x)=false:=by simp;omega
  have p:=λk (h:bW x 98 0=some k)=>zU x k b h
  have d:=λ(h:bW x 98 0=none)=>wi x b h
  have HH:Hid (∀ k,bW x 98 0=some k->lV x=.tuple #[(pz k x).val,.bool true]):=p
  have HM:Hid (bW x 98 0=none->lV x=.tuple #[pB.val,.bool false]):=d
  obtain ⟨V,E⟩:∃ V,V=lV x:=⟨_,rfl⟩
  rw [<- E] at HH HM ⊢
  clear p d E
  go_enter func150,ntmps150
  go_wp2_with fail
  refine (zm _).mono ?_
  rintro e w1 ⟨T,rfl,HT,S⟩
  have hsz:w.heap.size<w1.heap.size:=by have:=S.size;simp at this;omega
  have G0:Hid (w1.heap[w.heap.size]?=some (.cells #[.i 0,.i 0,.i 0,.i 0,.i 0] 69 (0,0))):=by
   show _=_
   rw [S.block _ bc];exact pZ w
  have H:Bw w w1:=(bal _ _).trans (S.mono bc)
  clear S
  go_wp2_with fail
  go_loopw [13] (λi wr=>∃ k:Nat,k<=98/\i=.i k/\Hid (bW x (98-k) k=bW x 98 0) /\
   Hid (wr.heap[w.heap.size]?=some (.cells #[.i 0,.i 0,.i 0,.i 0,.i 0] 69 (0,0)))/\Bw w wr)
   (λi _=>98-(intOf i).toNat)
  case atStart=>exact ⟨0,al,rfl,(rfl:bW x (98-0) 0=bW x 98 0),G0,H⟩
  case round =>
   obtain ⟨k,hk,rfl,hf,G,I⟩:=hrel
   clear G0 H
   by_cases l:k<98
   ·have RO:=D5 k l
    have q:=IP k (bN k) RO x Y b
    obtain ⟨r,g⟩:∃ r,r=bN k:=⟨_,rfl⟩
    have hr:Hid (r=bN k):=g
    rw [<- g] at q
    have MB:decide (fh k r.fm r.op r.f3 r.more x)=lA k x:=by rw [g];rfl
    rw [MB] at q
    have c:=tL ((k:Int)+1) r.fm x Y h1
    have IM:wrap64 (aq r.fm.width (px x r.fm.pcs))=mW r.fm x:=by rw [LK r.fm x Y b];rfl
    rw [IM] at c
    have X:Hid (Value.agg #[.i ((k:Int)+1),.i (IK r.fm x),.i (aV r.fm x),.i (bV r.fm x),.i (mW r.fm x)]=(pz k x).val):=by
     show _=_
     rw [g];rfl
    clear g MB IM RO
    obtain ⟨W,f,o,m3,m⟩:=r
    simp only [Row.f3z] at q
    obtain ⟨z,hz⟩:∃ z:Int,z=if m3<0 then 0 else m3:=⟨_,rfl⟩
    rw [<- hz] at q
    have j:=tB ((k:Int)+1) W f o z m
    obtain ⟨MM,D⟩:∃ M,M=iq ((k:Int)+1) f:=⟨_,rfl⟩
    obtain ⟨BB,C⟩:∃ B,B=tA f o z m:=⟨_,rfl⟩
    rw [<- D,<- C] at q j
    simp only at c X
    obtain ⟨s,hs⟩:∃ s,s=f.str:=⟨_,rfl⟩
    obtain ⟨y1,N⟩:∃ y,y=IK f x:=⟨_,rfl⟩
    obtain ⟨y2,O⟩:∃ y,y=aV f x:=⟨_,rfl⟩
    obtain ⟨y3,P⟩:∃ y,y=bV f x:=⟨_,rfl⟩
    obtain ⟨y4,Q⟩:∃ y,y=mW f x:=⟨_,rfl⟩
    rw [<- hs] at j c
    rw [<- N,<- O,<- P,<- Q] at c X
    have RF:Hid (∀ w:World,CB 204 #[.i ((k:Int)+1),.string s,.u x] w (.agg #[.i ((k:Int)+1),.i y1,.i y2,.i y3,.i y4])):=c
    have RP:Hid (∀ w:World,CB 203 #[.i ((k:Int)+1),.agg #[.string W,.string s,.u o,.u z,.u m]] w (.tuple #[.u MM,.u BB])):=j
    have IX:∀ w:World,(Instr.index 233 T (.i (k:Int))).run prog w=.ok (.agg #[.string W,.string s,.u o,.u z,.u m]) w:=by
     intro w
     rw [rl HT .i64 k l _ hr w,hs,hz];rfl
    clear N O P Q c j D C hs hz hr
    have A:Hid (∀ w:World,(Instr.index 233 T (.i (k:Int))).run prog w=.ok (.agg #[.string W,.string s,.u o,.u z,.u m]) w):=IX
    clear IX HT
    go_wp2_with (refine vD A rfl _ _ rfl rfl rfl ?_)
    refine (RP.out _).mono ?_
    rintro e w2 ⟨rfl,t⟩
    clear RP A
    have L:Bw wr w2:=(bal _ _).trans (t.mono bc)
    have c1:w2.cell? ⟨wr.heap.size,1,none⟩=some (.string s):=by
     rw [t.cell bc]
     rw [cell_of_row _ _ _ _ _ _ (heap_alloc_new _ _)];rfl
    have G2:Hid (w2.heap[w.heap.size]?=some (.cells #[.i 0,.i 0,.i 0,.i 0,.i 0] 69 (0,0))):=iM L G.out
    have J:=aa I L
    clear t
    cases U:lA k x with
    | true =>
      rw [U] at q
      have F:Hid (V=.tuple #[(pz k x).val,.bool true]):=HH.out k (hf.out.symm.trans (rz x k l U))
      go_wp2_with fail
      refine (RF.out _).mono ?_
      rintro e w3 ⟨rfl,K⟩
      have u:w3.heap[w.heap.size]?=some (.cells #[.i 0,.i 0,.i 0,.i 0,.i 0] 69 (0,0)):=iM K G2.out
      have Z:=aa J K
      go_wp2_with (refine wpList_store_rowTo rfl 69 (.tmp 2) (.tmp 34) rfl rfl w.heap.size #[.i ((k:Int)+1),.i y1,.i y2,.i y3,.i y4] rfl rfl 69 _ u fl rfl (nN _ _ _ _ _) ?_)
      refine bodyPost_ret (fW results150 _ _ _ _ _ _ _ rfl (setRow_heap _ _ _ _ _ _ u) underlying69 rfl fl) rfl ⟨?_,?_⟩
      ·rw [F.out,<- X.out];rfl
      ·exact aD Z (Nat.le_refl _) _
    | false =>
      rw [U] at q
      have F:Hid (bW x (98-(k+1)) (k+1)=bW x 98 0):=(pA x k l U).symm.trans hf.out
      clear RF
      go_wp2_with fail
      go_roundw
      case rel=>exact ⟨k+1,al,by go_num,F,G2,J⟩
      case measure=>simp [intOf];omega
   ·have hk2:k=98:=by omega
    subst hk2
    have F:Hid (V=.tuple #[pB.val,.bool false]):=HM.out hf.out.symm
    have u:=G.out
    go_wp2_with (refine wpList_store_rowTo rfl 69 (.tmp 2) (.tmp 36) rfl rfl w.heap.size #[.i 0,.i 0,.i 0,.i 0,.i 0] rfl rfl 69 _ u fl rfl (nN _ _ _ _ _) ?_)
    refine bodyPost_ret (fW results150 _ _ _ _ _ _ _ rfl (setRow_heap _ _ _ _ _ _ u) underlying69 rfl fl) rfl ⟨?_,?_⟩
    ·rw [F.out];rfl
    ·exact aD I (Nat.le_refl _) _
 ·have d1:decide (4294967295<x)=true:=by simp;omega
  have F:Hid (lV x=.tuple #[pB.val,.bool false]):=zT x b
  obtain ⟨V,E⟩:∃ V,V=lV x:=⟨_,rfl⟩
  rw [<- E] at F ⊢
  clear E
  go_enter func150,ntmps150
  go_wp2_with fail
  refine bodyPost_ret (fW results150 _ _ _ _ _ _ _ rfl (pZ w) underlying69 rfl fl) rfl ⟨?_,?_⟩
  ·rw [F.out];rfl
  ·exact bal _ _
theorem qP (x:Int) (w:World):CE 127 #[.u x,.u 32] w (.u (aq 32 x)):=dL x 32 al al w
theorem qQ (a b:Int) (j:0<=a) (l:a<18446744073709551616) (c:0<=b) (f:b<18446744073709551616) (w:World):CE 182 #[.string ⟨#[100,105,118]⟩,.u a,.u b] w (.u (AF.div.v a b)):=by
 by_cases h:b=0;·have F:Hid (AF.div.v a b=18446744073709551615):=dm;have d:(wrap64 b==0)=true:=(by simpa using (eH c f).mpr h);exact a0z
 by_cases g:b=18446744073709551615;·have F:Hid (AF.div.v a b=Uz.wrap (-a)):=(by show _=_;simp only [AF.v,if_neg h];rw [(iJ c f).mpr g];exact Iu a j l);have d:(wrap64 b==0)=false:=sv;have m:(wrap64 b == -1)=true:=(by simpa using (iJ c f).mpr g);exact a10
 ·have F:Hid (AF.div.v a b=Uz.wrap (wrap64 ((wrap64 a).tdiv (wrap64 b)))):=dm;have d:(wrap64 b==0)=false:=sv;have m:(wrap64 b == -1)=false:=(by simpa using λk=>g ((iJ c f).mp k));have p:¬ wrap64 b=0:=λk=>h ((eH c f).mp k);exact a10
theorem qR (a b:Int) (m:0<=a) (o:a<18446744073709551616) (c:0<=b) (f:b<18446744073709551616) (w:World):CE 182 #[.string ⟨#[114,101,109]⟩,.u a,.u b] w (.u (AF.rem.v a b)):=by
 by_cases h:b=0;·have F:Hid (AF.rem.v a b=a):=dm;have d:(wrap64 b==0)=true:=(by simpa using (eH c f).mpr h);exact a0z
 by_cases g:b=18446744073709551615;·have F:Hid (AF.rem.v a b=0):=(by show _=_;simp only [AF.v,if_neg h];rw [(iJ c f).mpr g];exact Iw a);have d:(wrap64 b==0)=false:=sv;have j:(wrap64 b == -1)=true:=(by simpa using (iJ c f).mpr g);exact a10
 ·have F:Hid (AF.rem.v a b=Uz.wrap ((wrap64 a).tmod (wrap64 b))):=dm;have d:(wrap64 b==0)=false:=sv;have j:(wrap64 b == -1)=false:=(by simpa using λk=>g ((iJ c f).mp k));have p:¬ wrap64 b=0:=λk=>h ((eH c f).mp k);exact a10
theorem oU (a b:Int) (c:0<=a) (f:a<18446744073709551616) (g:0<=b) (j:b<18446744073709551616) (w:World):CE 182 #[.string ⟨#[100,105,118,117]⟩,.u a,.u b] w (.u (AF.divu.v a b)):=by
 by_cases h:b=0;·have F:Hid (AF.divu.v a b=18446744073709551615):=dm;have d:(b==0)=true:=dn;exact a0z
 ·have F:Hid (AF.divu.v a b=Uz.wrap (a.tdiv b)):=dm;have d:(b==0)=false:=dn;clear c f g j;go_enter func182,ntmps182;exact a0a
theorem oV (a b:Int) (c:0<=a) (f:a<18446744073709551616) (g:0<=b) (j:b<18446744073709551616) (w:World):CE 182 #[.string ⟨#[114,101,109,117]⟩,.u a,.u b] w (.u (AF.remu.v a b)):=by
 by_cases h:b=0;·have F:Hid (AF.remu.v a b=a):=dm;have d:(b==0)=true:=dn;exact a0z
 ·have F:Hid (AF.remu.v a b=a.tmod b):=dm;have d:(b==0)=false:=dn;clear c f g j;go_enter func182,ntmps182;exact a0a
abbrev O3 (a b:Int) (w:World) (s:Array UInt8) (k:Nat):Prop:=CE 128 #[.string ⟨s⟩,.u a,.u b] w (.u ((nC k).v a b))
def U4 (a b:Int):Prop:=0<=a/\a<18446744073709551616/\0<=b/\b<18446744073709551616
section
variable (a b : Int) (w : World)
theorem Qx:O3 a b w #[97,100,100,105] 0/\O3 a b w #[120,111,114,105] 3/\O3 a b w #[111,114,105] 4/\O3 a b w #[97,110,100,105] 5/\O3 a b w #[97,100,100] 13/\O3 a b w #[115,117,98] 14/\O3 a b w #[120,111,114] 18/\O3 a b w #[111,114] 21/\O3 a b w #[97,110,100] 22/\O3 a b w #[109,117,108] 28:=by
 refine ⟨?_,?_,?_,?_,?_,?_,?_,?_,?_,?_⟩<;>(
  delta O3
  go_enter func128,ntmps128
  go_wp2_with (fail)
  go_ret
  exact ⟨rfl,rfl⟩)
theorem Qy:O3 a b w #[115,108,116,105] 1/\O3 a b w #[115,108,116,105,117] 2/\O3 a b w #[115,108,116] 16/\O3 a b w #[115,108,116,117] 17:=by
 refine ⟨?_,?_,?_,?_⟩<;>(
  delta O3
  go_enter func128,ntmps128
  go_wp2_with (go_at_call 104;with_reducible refine (Iz _ _).mono ?_;rintro e c ⟨rfl,rfl⟩)
  go_ret
  exact ⟨rfl,rfl⟩)
theorem Qz (g:U4 a b):O3 a b w #[115,108,108,105] 6/\O3 a b w #[115,114,108,105] 7/\O3 a b w #[115,114,97,105] 8/\O3 a b w #[115,108,108] 15/\O3 a b w #[115,114,108] 19/\O3 a b w #[115,114,97] 20:=by
 obtain ⟨j,l,c,d⟩:=g
 have m:bits .and .u64 b 63=(sh b:Int):=by rw [<- Nj];exact cj b 6 c d al
 have f:=DT b
 refine ⟨?_,?_,?_,?_,?_,?_⟩<;>(
  delta O3
  go_enter func128,ntmps128
  go_wp2_with (fail)
  go_ret
  exact ⟨rfl,rfl⟩)
theorem QA (l:U4 a b):O3 a b w #[97,100,100,105,119] 9/\O3 a b w #[97,100,100,119] 23/\O3 a b w #[115,117,98,119] 24/\O3 a b w #[109,117,108,119] 36/\O3 a b w #[115,108,108,105,119] 10/\O3 a b w #[115,108,108,119] 25/\O3 a b w #[115,114,108,105,119] 11/\O3 a b w #[115,114,108,119] 26/\O3 a b w #[115,114,97,105,119] 12/\O3 a b w #[115,114,97,119] 27:=by
 obtain ⟨c,d,f,g⟩:=l
 have o:bits .and .u64 b 31=(It b:Int):=by rw [<- N0];exact cj b 5 f g al
 have j:=N5 b
 have m:=ky a c d
 refine ⟨?_,?_,?_,?_,?_,?_,?_,?_,?_,?_⟩<;>(
  delta O3
  go_enter func128,ntmps128
  go_wp2_with (go_at_call 127;with_reducible refine (qP _ _).mono ?_;rintro e p ⟨rfl,rfl⟩)
  go_ret
  exact ⟨by first | (rw [Po];rfl) | (rw [Pp];rfl) | (rw [Pq];rfl) | (rw [Qi];rfl) | (rw [Qj];rfl) | (rw [Ps];rfl),rfl⟩)
theorem QB (j:U4 a b):O3 a b w #[109,117,108,104,117] 31:=by obtain ⟨c,d,f,g⟩:=j;delta O3;go_enter func128,ntmps128;go_wp2_with (go_at_call 181;with_reducible refine (po a b c d f g _).mono ?_;rintro e l ⟨rfl,rfl⟩);go_ret;exact a0h
theorem QD (m:U4 a b):O3 a b w #[100,105,118] 32/\O3 a b w #[100,105,118,117] 33/\O3 a b w #[114,101,109] 34/\O3 a b w #[114,101,109,117] 35:=by
 obtain ⟨f,g,j,l⟩:=m
 have c:=And.intro f g
 have d:=And.intro j l
 refine ⟨?_,?_,?_,?_⟩<;>(
  delta O3
  go_enter func128,ntmps128
  go_wp2_with (go_at_call 182;(first | with_reducible refine (qQ a b c.1 c.2 d.1 d.2 _).mono ?_ | with_reducible refine (oU a b c.1 c.2 d.1 d.2 _).mono ?_ | with_reducible refine (qR a b c.1 c.2 d.1 d.2 _).mono ?_ | with_reducible refine (oV a b c.1 c.2 d.1 d.2 _).mono ?_);rintro e o ⟨rfl,rfl⟩)
  go_ret
  exact ⟨rfl,rfl⟩)
theorem QE (f:U4 a b):O3 a b w #[100,105,118,119] 37/\O3 a b w #[114,101,109,119] 39:=by
 obtain ⟨j,l,m,o⟩:=f
 have c:=aS a
 have d:=aS b
 refine ⟨?_,?_⟩<;>(
  delta O3
  go_enter func128,ntmps128
  go_wp2_with (first | (go_at_call 127;with_reducible refine (qP _ _).mono ?_;rintro e g ⟨rfl,rfl⟩) | (go_at_call 182;(first | with_reducible refine (qQ (aq 32 a) (aq 32 b) c.1 c.2 d.1 d.2 _).mono ?_ | with_reducible refine (oU (aq 32 a) (aq 32 b) c.1 c.2 d.1 d.2 _).mono ?_ | with_reducible refine (qR (aq 32 a) (aq 32 b) c.1 c.2 d.1 d.2 _).mono ?_ | with_reducible refine (oV (aq 32 a) (aq 32 b) c.1 c.2 d.1 d.2 _).mono ?_);rintro e g ⟨rfl,rfl⟩))
  go_ret
  exact ⟨rfl,rfl⟩)
theorem QF (m:U4 a b):O3 a b w #[100,105,118,117,119] 38/\O3 a b w #[114,101,109,117,119] 40:=by
 obtain ⟨f,g,j,l⟩:=m
 have p:=ky a f g
 have q:=ky b j l
 have c:0<=a%4294967296/\a%4294967296<18446744073709551616:=al
 have d:0<=b%4294967296/\b%4294967296<18446744073709551616:=al
 refine ⟨?_,?_⟩<;>(
  delta O3
  go_enter func128,ntmps128
  go_wp2_with (first | (go_at_call 127;with_reducible refine (qP _ _).mono ?_;rintro e o ⟨rfl,rfl⟩) | (go_at_call 182;(first | with_reducible refine (qQ (a%4294967296) (b%4294967296) c.1 c.2 d.1 d.2 _).mono ?_ | with_reducible refine (oU (a%4294967296) (b%4294967296) c.1 c.2 d.1 d.2 _).mono ?_ | with_reducible refine (qR (a%4294967296) (b%4294967296) c.1 c.2 d.1 d.2 _).mono ?_ | with_reducible refine (oV (a%4294967296) (b%4294967296) c.1 c.2 d.1 d.2 _).mono ?_);rintro e o ⟨rfl,rfl⟩))
  go_ret
  exact ⟨rfl,rfl⟩)
theorem QG (y:U4 a b):O3 a b w #[109,117,108,104] 29/\O3 a b w #[109,117,108,104,115,117] 30:=by
 obtain ⟨p,q,r,s⟩:=y
 have j:Hid ((nC 29).v a b=lu a b):=rfl
 have l:Hid ((nC 30).v a b=fI a b):=rfl
 obtain ⟨z,c⟩:∃ v,v=lu a b:=⟨_,rfl⟩
 obtain ⟨A,d⟩:∃ v,v=fI a b:=⟨_,rfl⟩
 unfold O3
 rw [j.out,l.out,<- c,<- d]
 unfold lu fI at c
 unfold fI at d
 clear j l
 by_cases f:wrap64 a<0<;>by_cases g:wrap64 b<0<;>(
  simp only [f,g,if_true,if_false] at c d
  have m:Hid (z=_):=c
  have o:Hid (A=_):=d
  clear c d
  first | have t:decide (wrap64 a<0)=true:=decide_eq_true f | have t:decide (wrap64 a<0)=false:=decide_eq_false f
  first | have u:decide (wrap64 b<0)=true:=decide_eq_true g | have u:decide (wrap64 b<0)=false:=decide_eq_false g
  clear f g
  refine ⟨?_,?_⟩<;>(
   go_enter func128,ntmps128
   go_wp2_with (go_at_call 181;with_reducible refine (po a b p q r s _).mono ?_;rintro e B ⟨rfl,rfl⟩)
   go_ret
   exact ⟨by first | (rw [m.out];rfl) | (rw [o.out];rfl),rfl⟩))
end
theorem KD (k:Nat) (hk:k<41) (s:ByteArray) (hs:s=(bN (k+21)).name) (a b:Int) (N:0<=a) (O:a<18446744073709551616) (P:0<=b) (Q:b<18446744073709551616) (w:World):CE 128 #[.string s,.u a,.u b] w (.u ((nC k).v a b)):=by
 subst hs;have c:U4 a b:=⟨N,O,P,Q⟩;obtain ⟨R,U,V,W,i,j,o,r,t,A⟩:=Qx a b w;obtain ⟨S,T,m,n⟩:=Qy a b w;obtain ⟨X,Y,Z,l,p,q⟩:=Qz a b w c;obtain ⟨h9,u,v,I,d,x,f,y,g,z⟩:=QA a b w c;have D:=QB a b w c;obtain ⟨E,F,G,H⟩:=QD a b w c;obtain ⟨J,L⟩:=QE a b w c;obtain ⟨K,M⟩:=QF a b w c;obtain ⟨B,C⟩:=QG a b w c;match k,hk with
 | 0,_=>exact R
 | 1,_=>exact S
 | 2,_=>exact T
 | 3,_=>exact U
 | 4,_=>exact V
 | 5,_=>exact W
 | 6,_=>exact X
 | 7,_=>exact Y
 | 8,_=>exact Z
 | 9,_=>exact h9
 | 10,_=>exact d
 | 11,_=>exact f
 | 12,_=>exact g
 | 13,_=>exact i
 | 14,_=>exact j
 | 15,_=>exact l
 | 16,_=>exact m
 | 17,_=>exact n
 | 18,_=>exact o
 | 19,_=>exact p
 | 20,_=>exact q
 | 21,_=>exact r
 | 22,_=>exact t
 | 23,_=>exact u
 | 24,_=>exact v
 | 25,_=>exact x
 | 26,_=>exact y
 | 27,_=>exact z
 | 28,_=>exact A
 | 29,_=>exact B
 | 30,_=>exact C
 | 31,_=>exact D
 | 32,_=>exact E
 | 33,_=>exact F
 | 34,_=>exact G
 | 35,_=>exact H
 | 36,_=>exact I
 | 37,_=>exact J
 | 38,_=>exact K
 | 39,_=>exact L
 | 40,_=>exact M
 | k+41,h=>exact absurd h al
theorem rR (op a b:Int) (A:(Lit.int .i64 op).wf=true) (o:0<=a) (p:a<18446744073709551616) (q:0<=b) (r:b<18446744073709551616) (w:World):CB 84 #[.i op,.u a,.u b] w (.tuple #[.u (mA op a b),.bool (xC op)]):=by
 cases h:xC op with
 | false =>have e:mA op a b=0:=(by simp [mA,h]);rw [e];have c:decide (22<=op/\op<=62)=false:=h;clear h e;go_enter func84,ntmps84;go_wp2_with fail;refine (il op 22 62 _).mono ?_;rintro e B ⟨rfl,rfl⟩;rw [c];clear c;go_wp2_with fail;go_ret2;exact ⟨rfl,Below.refl _ _⟩
 | true =>have t:22<=op/\op<=62:=(by simpa [xC] using h);have c:decide (22<=op/\op<=62)=true:=h;obtain ⟨k,rfl⟩:∃ k:Nat,op=(k:Int)+22:=⟨(op-22).toNat,al⟩;have e:mA ((k:Int)+22) a b=(nC k).v a b:=(by simp [mA,h]);rw [e];have l:jl ((k:Int)+22)=(bN (k+21)).name:=(by have u:rk ((k:Int)+22)=true:=(by simp [rk];omega);have z:((k:Int)+22-1).toNat=k+21:=al;simp [jl,u,z]);have j:Hid (∀ w,CE 128 #[.string (jl ((k:Int)+22)),.u a,.u b] w (.u ((nC k).v a b))):=KD k al _ l a b o p q r;obtain ⟨s,m⟩:∃ s,s=jl ((k:Int)+22):=⟨_,rfl⟩;have g:Hid (∀ w,CB 129 #[.i ((k:Int)+22)] w (.string (jl ((k:Int)+22)))):=xz _ A;rw [<- m] at j g;clear h t e l m;go_enter func84,ntmps84;go_wp2_with fail;refine (il _ 22 62 _).mono ?_;rintro e B ⟨rfl,f⟩;subst f;rw [c];clear c;go_wp2_with fail;refine (g.out _).mono ?_;rintro e C ⟨rfl,y⟩;go_wp2_with fail;refine (j.out _).mono ?_;rintro e D ⟨rfl,rfl⟩;go_wp2_with fail;go_ret2;exact ⟨rfl,y⟩
theorem Bb (i:Nat) (t:i<98) (c:ByteArray) (f:Fm) (o z m x:Int) (b:0<=x) (s:x<4294967296) (hx:Hid (f=.x->0<=o/\o<128/\0<=m/\m<4096)) (w:World):CB 124 #[.i i,.agg #[.string c,.string f.str,.u o,.i z,.u m],.u x] w (.bool (decide (fh i f o z m x))):=by
 have g:bits .and .u64 x 127=x%128:=cj x 7 b al a5
 have j:bits .and .u64 (x/4096) 7=x/4096%8:=cj (x/4096) 3 al al a5
 have l:bits .and .u64 (x/128) 31=x/128%32:=cj (x/128) 5 al al a5
 have p:bits .and .u64 (x/1048576) 31=x/1048576%32:=cj (x/1048576) 5 al al a5
 cases f
 case x =>
  have H:=hx.out rfl
  have q:Uz.wrap (m*1048576)=m*1048576:=by rw [IntKind.wrap_u64];omega
  have r:bits .or .u64 (m*1048576) o=m*1048576+o:=by
   rw [u64_or _ _ al al al al]
   rw [nat_join 20 _ _ al al];omega
  clear H
  simp only [Fm.str]
  go_enter func124,ntmps124
  go_wp2_with fail
  all_goals go_ret
  all_goals refine ⟨?_,bal _ _⟩
  all_goals (clear hx;go_tidy;show Ending.returned (Value.bool _)=Ending.returned (Value.bool _);congr 2;rw [Bool.eq_iff_iff,decide_eq_true_iff];simp only [fh,bne_iff_ne,beq_iff_eq,bne_eq_false_iff_eq,Bool.false_eq_true,ne_eq,false_iff] at *)
  all_goals omega
 all_goals (
  simp only [Fm.str]
  go_enter func124,ntmps124
  go_wp2_with fail
  all_goals go_ret
  all_goals refine ⟨?_,bal _ _⟩
  all_goals (clear hx;go_tidy;show Ending.returned (Value.bool _)=Ending.returned (Value.bool _);congr 2;rw [Bool.eq_iff_iff,decide_eq_true_iff];simp only [fh,bne_iff_ne,beq_iff_eq,bne_eq_false_iff_eq,Bool.false_eq_true,ne_eq,true_iff,false_iff,and_true] at *)
  all_goals omega)
theorem G4 (f:Fm) (x:Int) (C:0<=x) (D:x<4294967296) (w:World):CE 125 #[.string f.str,.u x] w (.i (mW f x)):=by
 cases f;case i =>simp only [Fm.str];go_enter func125,ntmps125;go_wp2_with fail;refine (dL (x/1048576) 12 a5 a5 _).mono ?_;exact a11
 case s =>have d:Uz.wrap (x/33554432*32)=x/33554432*32:=bv;have m:bits .and .u64 (x/128) 31=x/128%32:=cj (x/128) 5 al al a5;have o:bits .or .u64 (x/33554432*32) (x/128%32)=x/33554432*32+x/128%32:=(by have:=lO (x/33554432*32) (x/128%32) 0 5 al al al al al al;simpa using this);simp only [Fm.str];go_enter func125,ntmps125;go_wp2_with fail;refine (dL (x/33554432*32+x/128%32) 12 a5 a5 _).mono ?_;exact a11
 case b =>
  have d:Uz.wrap (x/2147483648*4096)=x/2147483648*4096:=bv;have m:bits .and .u64 (x/128) 1=x/128%2:=cj (x/128) 1 al al a5;have o:Uz.wrap (x/128%2*2048)=x/128%2*2048:=bv;have p:bits .or .u64 (x/2147483648*4096) (x/128%2*2048)=x/2147483648*4096+x/128%2*2048 :=
   lO (x/2147483648*4096) (x/128%2) 11 1 al al al al al al
  have q:bits .and .u64 (x/33554432) 63=x/33554432%64:=cj (x/33554432) 6 al al a5;have t:Uz.wrap (x/33554432%64*32)=x/33554432%64*32:=bv;have y:bits .or .u64 (x/2147483648*4096+x/128%2*2048) (x/33554432%64*32)=x/2147483648*4096+x/128%2*2048+x/33554432%64*32 :=
   lO (x/2147483648*4096+x/128%2*2048) (x/33554432%64) 5 6 al al al al al al
  have z:bits .and .u64 (x/256) 15=x/256%16:=cj (x/256) 4 al al a5;have A:Uz.wrap (x/256%16*2)=x/256%16*2:=bv;have l:bits .or .u64 (x/2147483648*4096+x/128%2*2048+x/33554432%64*32) (x/256%16*2)=x/2147483648*4096+x/128%2*2048+x/33554432%64*32+x/256%16*2 :=
   lO (x/2147483648*4096+x/128%2*2048+x/33554432%64*32) (x/256%16) 1 4 al al al al al al
  simp only [Fm.str];go_enter func125,ntmps125;go_wp2_with fail;refine (dL (x/2147483648*4096+x/128%2*2048+x/33554432%64*32+x/256%16*2) 13 a5 a5 _).mono ?_;exact a11
 case u =>have d:Uz.wrap (x/4096*4096)=x/4096*4096:=bv;simp only [Fm.str];go_enter func125,ntmps125;go_wp2_with fail;refine (dL (x/4096*4096) 32 a5 a5 _).mono ?_;exact a11
 case j =>
  have d:Uz.wrap (x/2147483648*1048576)=x/2147483648*1048576:=bv;have m:bits .and .u64 (x/4096) 255=x/4096%256:=cj (x/4096) 8 al al a5;have o:Uz.wrap (x/4096%256*4096)=x/4096%256*4096:=bv;have p:bits .or .u64 (x/2147483648*1048576) (x/4096%256*4096)=x/2147483648*1048576+x/4096%256*4096 :=
   lO (x/2147483648*1048576) (x/4096%256) 12 8 al al al al al al
  have q:bits .and .u64 (x/1048576) 1=x/1048576%2:=cj (x/1048576) 1 al al a5;have t:Uz.wrap (x/1048576%2*2048)=x/1048576%2*2048:=bv;have y:bits .or .u64 (x/2147483648*1048576+x/4096%256*4096) (x/1048576%2*2048)=x/2147483648*1048576+x/4096%256*4096+x/1048576%2*2048 :=
   lO (x/2147483648*1048576+x/4096%256*4096) (x/1048576%2) 11 1 al al al al al al
  have z:bits .and .u64 (x/2097152) 1023=x/2097152%1024:=cj (x/2097152) 10 al al a5;have A:Uz.wrap (x/2097152%1024*2)=x/2097152%1024*2:=bv;have l:bits .or .u64 (x/2147483648*1048576+x/4096%256*4096+x/1048576%2*2048) (x/2097152%1024*2)=x/2147483648*1048576+x/4096%256*4096+x/1048576%2*2048+x/2097152%1024*2 :=
   lO (x/2147483648*1048576+x/4096%256*4096+x/1048576%2*2048) (x/2097152%1024) 1 10 al al al al al al
  simp only [Fm.str];go_enter func125,ntmps125;go_wp2_with fail;refine (dL (x/2147483648*1048576+x/4096%256*4096+x/1048576%2*2048+x/2097152%1024*2) 21 a5 a5 _).mono ?_;exact a11
 case h =>have d:bits .and .u64 (x/1048576) 63=x/1048576%64:=cj (x/1048576) 6 al al a5;have F:Hid (mW .h x=x/1048576%64):=n9 (x/1048576%64) al al;exact a12
 case w =>have d:bits .and .u64 (x/1048576) 31=x/1048576%32:=cj (x/1048576) 5 al al a5;have F:Hid (mW .w x=x/1048576%32):=n9 (x/1048576%32) al al;exact a12
 case a =>have d:bits .and .u64 (x/33554432) 3=x/33554432%4:=cj (x/33554432) 2 al al a5;have F:Hid (mW .a x=x/33554432%4):=n9 (x/33554432%4) al al;exact a12
 case c =>have F:Hid (mW .c x=x/1048576):=n9 (x/1048576) al al;exact a12
 case r =>have F:Hid (mW .r x=0):=n9 (0) al al;exact a12
 case x =>have F:Hid (mW .x x=0):=n9 (0) al al;exact a12
end Go.Proofs.YtjifdmoehfbihaaGreatDoor
