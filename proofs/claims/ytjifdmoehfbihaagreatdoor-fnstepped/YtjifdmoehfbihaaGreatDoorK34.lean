/- Own lemmas. -/
import Derived.Test.YtjifdmoehfbihaaGreatDoorAut
import Derived.Test.YtjifdmoehfbihaaGreatDoorK17
set_option maxRecDepth 100000
set_option maxHeartbeats 4000000
namespace Go.Proofs.YtjifdmoehfbihaaGreatDoor
open Go.RowKit Tryz
open IntKind renaming u64->Uz
set_option linter.unusedVariables false
theorem zL (x:Int):∀ n k j,cj x n k=some j->k<=j/\j<k+n/\me j x=true:=by
 intro n;induction n with
 | zero=>intro k j h;simp [cj] at h
 | succ n b =>
   intro k j h;rw [cj] at h;split at h;·rename_i a;simp at h;subst h;exact ⟨ab,ab,a⟩
   ·have:=b (k+1) j h;exact ⟨ab,ab,this.2.2⟩
theorem MH {x:Int} {i:Ins} (h:Be x=some i):x<4294967296/\∃ k,k<98/\me k x=true/\i=qk k x:=by
 unfold Be at h;split at h
 ·rename_i c;cases a:cj x 98 0 with
  | none=>rw [a] at h;simp at h
  | some k =>rw [a] at h;simp at h;obtain ⟨d,e,b⟩:=zL x 98 0 k a;exact ⟨c,k,ab,b,h.symm⟩
 ·simp at h
theorem Sd (f:Fm) (x:Int):0<=KA f x/\KA f x<=31:=by have:=kq x 7 5;unfold KA;split<;>omega
theorem Tx (f:Fm) (x:Int):0<=aV f x/\aV f x<=31:=by have:=kq x 15 5;unfold aV;split<;>omega
theorem Ty (f:Fm) (x:Int):0<=bV f x/\bV f x<=31:=by have:=kq x 20 5;unfold bV;split<;>omega
theorem zM (x:Int) (h:x%2=0):ap 13 x%2=0:=by
 have e:(2:Int)^(64-13)=2251799813685248:=bb
 unfold ap;exact a03
theorem zN (x:Int) (h:x%2=0):ap 21 x%2=0:=by
 have e:(2:Int)^(64-21)=8796093022208:=bb
 unfold ap;exact a03
structure jA (i:Ins):Prop where
 op1:1<=i.op
 op98:i.op<=98
 rd0:0<=i.rd
 rd31:i.rd<=31
 a0:0<=i.a
 a31:i.a<=31
 b0:0<=i.b
 b31:i.b<=31
 im0 : -9223372036854775808<=i.imm
 im1:i.imm<9223372036854775808
 even:(i.op=3\/5<=i.op/\i.op<=10)->i.imm%2=0
theorem Se:∀ k,k<98->(k=2\/4<=k/\k<=9)->(bT k).fm=.b\/(bT k).fm=.j:=by
 have h:(List.range 98).all (λk=>!(decide (k=2\/4<=k/\k<=9))||(decide ((bT k).fm=.b\/(bT k).fm=.j)))=true:=al
 intro k a e;have:=List.all_eq_true.1 h k pp;rw [decide_eq_true e] at this;simpa using this
theorem zO {x:Int} {i:Ins} (h:Be x=some i):jA i:=by
 obtain ⟨j,k,f,g,rfl⟩:=MH h;have a:=Sd (bT k).fm x;have b:=Tx (bT k).fm x;have c:=Ty (bT k).fm x;have d : -9223372036854775808<=nB (bT k).fm x/\nB (bT k).fm x<9223372036854775808:=by unfold nB RowKit.wrap64;omega
 refine ⟨by show (1:Int)<=(k:Int)+1;omega,by show (k:Int)+1<=98;omega,a.1,a.2,b.1,b.2,c.1,c.2,d.1,d.2,λe=>?_⟩;have e2:k=2\/4<=k/\k<=9:=by have e3:((k:Int)+1=3\/5<=(k:Int)+1/\(k:Int)+1<=10):=e;omega
 show nB (bT k).fm x%2=0;rcases Se k f e2 with q|q<;>rw [q]<;>unfold nB;·have:=zM (yQ .b x) (by simp only [yQ];omega);show RowKit.wrap64 (ap 13 (yQ .b x))%2=0;unfold RowKit.wrap64;omega
 ·have:=zN (yQ .j x) (by simp only [yQ];omega);show RowKit.wrap64 (ap 21 (yQ .j x))%2=0;unfold RowKit.wrap64;omega
def AF.fn:AF->Nat
 | .sum=>255 | .slt=>256 | .sltu=>257 | .xor=>258 | .or=>259 | .and=>260
 | .sl=>261 | .sr=>262 | .sra=>263 | .sub=>265 | .mul=>266
 | .mulh=>267 | .mulhsu=>268 | .high=>269 | .div=>270 | .divu=>271
 | .rem=>272 | .remu=>273
def SD.fn:SD->Nat
 | .low=>243 | .sgn=>242 | .five=>264
theorem AF.calls (f:AF) (a b:Int) (g:0<=a) (a1:a<18446744073709551616) (c:0<=b) (d:b<18446744073709551616) (w:World):Calls prog f.fn #[.u a,.u b] w λe h=>e=.returned (.u (f.v a b))/\∃ m,h=w.drewN m:=by
 cases f;·exact bj (xF a b w)
 ·exact bj (uO a b w)
 ·exact bj (yW a b w)
 ·exact bj (xG a b w)
 ·exact bj (AR a b w)
 ·exact bj (xH a b w)
 ·exact mW (wM a b c d w)
 ·exact mW (uN a b c d w)
 ·exact mW (nY a b c d w)
 ·exact bj (rq a b w)
 ·exact bj (wK a b w)
 ·exact bj (uP a b g a1 c d w)
 ·exact bj (iT a b g a1 c d w)
 ·exact bj (mX a b g a1 c d w)
 ·exact bj (pw a b c d w)
 ·exact bj (rr a b w)
 ·exact bj (uQ a b c d w)
 ·exact bj (yX a b w)
theorem SD.calls (s:SD) (x:Int) (a:0<=x) (b:x<18446744073709551616) (w:World):Calls prog s.fn #[.u x] w λe c=>e=.returned (.u (s.v x))/\∃ m,c=w.drewN m:=by
 cases s;·exact bj (sp x a w)
 ·exact bj (pg x w)
 ·exact mW (AQ x a b w)
def AO.cells:AO->List Value
 | .d f=>[.func (.func f.fn) #[] #[],.nilFunc,.nilFunc]
 | .w f l r=>[.func (.func f.fn) #[] #[],.func (.func l.fn) #[] #[],.func (.func r.fn) #[] #[]]
def aluCells:Array Value:=(SG.flatMap AO.cells).toArray
def eE:Array Value:=(List.replicate 123 Value.nilFunc).toArray
theorem ju:eE.size=123:=by kernel_rfl
theorem dB:aluCells.size=123:=by kernel_rfl
theorem jv:(prog.info? 269).bind (·.zero)=some (.agg eE):=by kernel_rfl
theorem jw:aluCells.all (·.oneCell')=true:=by kernel_rfl
theorem io:(prog.info? 269).map (·.size)=some 123:=by kernel_rfl
theorem zP:SG.length=41:=by rfl
theorem Cm (k:Nat) (h:k<41) (j:Nat) (a:j<3):aluCells[k*3+j]?=(nX k).cells[j]?:=by
 have:=uD AO.cells 3 SG (by intro x _;cases x<;>rfl) k (by rw [zP];exact h) j a;have e:SG[k]'(by rw [zP];exact h)=nX k:=by simp [nX,List.getD,List.getElem?_eq_getElem (show k<SG.length by rw [zP];exact h)]
 rw [e] at this;rw [<- this];simp [aluCells]
theorem Cn (w:World):CB 239 #[] w (.agg aluCells):=by go_enter func239,ntmps239;apply wp_seq_k;intro c b;apply wp_region_list;refine cG rfl 269 rfl (some 0) rfl _ jv ?_;apply wpList_nil;refine b _ _ ?_;clear b c;apply wp_seq_k;intro c b;apply wp_region_lit;refine km 42 0 42 (.p w.heap.size 0) (.agg aluCells) al ?_;intro m f d j;have g:(w.alloc (.cells (Value.agg eE).cells 269)).heap[w.heap.size]?=some (.cells eE 269 (0,0)):=heap_alloc_new _ _;refine wpList_store_rowTo rfl 269 (.tmp 0) (.tmp 42) rfl rfl w.heap.size aluCells f d 269 eE g (by rw [io,dB]) (by rw [ju,dB]) jw ?_;apply wpList_nil;refine b _ _ ?_;clear b c;apply wp_ret;refine bodyPost_ret (results_cell_row results239 _ _ _ _ _ _ _ f (setRow_heap _ _ _ _ _ _ g) underlying269 rfl (by rw [io,dB])) j ⟨rfl,?_⟩;exact aE (bal _ _) (Nat.le_refl _) _
theorem oW (w:World):Calls prog 239 #[] w λe a=>∃ T,e=.returned T/\Hid (T=.agg aluCells)/\Bw w a :=
 (Cn w).mono λe a h=>⟨.agg aluCells,h.1,(rfl:Value.agg aluCells=.agg aluCells),h.2⟩
theorem AF.enters (f:AF):(prog.funcs[f.fn]?).map (λa=>(a.name == "runtime.NumGoroutine",a.body.isSome))=some (false,true):=by cases f<;>kernel_rfl
theorem SD.enters (s:SD):(prog.funcs[s.fn]?).map (λa=>(a.name == "runtime.NumGoroutine",a.body.isSome))=some (false,true):=by cases s<;>kernel_rfl
def MI (w:World) (g:Nat):Prop:=g<w.heap.size/\∀ k,k<41->∀ a b c,(nX k).cells=[a,b,c]->w.cell? ⟨g,k*3,none⟩=some a/\w.cell? ⟨g,k*3+1,none⟩=some b/\w.cell? ⟨g,k*3+2,none⟩=some c
theorem GE {w:World} {g:Nat} {t:TypeId} (h:w.heap[g]?=some (.cells aluCells t (0,0))):MI w g:=by
 refine ⟨?_,λk c f i l a=>?_⟩
 ·by_cases d:g<w.heap.size;·exact d
  ·rw [Array.getElem?_eq_none ab] at h;cases h
 ·have e:∀ j,j<3->w.cell? ⟨g,k*3+j,none⟩=(nX k).cells[j]?:=(by intro j b;rw [cell_of_row _ _ _ _ _ _ h];exact Cm k c j b);rw [a] at e;exact ⟨e 0 bb,e 1 bb,e 2 bb⟩
theorem Co (x:Nat) (w:World):(binOp .eql 129 (.func (.func x) #[] #[]) .nilFunc).run prog w=.ok (.bool false) w:=by kernel_rfl
theorem EO (w:World):(binOp .eql 129 .nilFunc .nilFunc).run prog w=.ok (.bool true) w:=by kernel_rfl
theorem sV:(prog.info? 268).map (·.size)=some 3:=by kernel_rfl
theorem MJ (a b c:Nat):(#[Value.func (.func a) #[] #[],.func (.func b) #[] #[],.func (.func c) #[] #[]]:Array Value).all (·.oneCell')=true:=by simp [Value.oneCell']
theorem MK (a:Nat):(#[Value.func (.func a) #[] #[],.nilFunc,.nilFunc]:Array Value).all (·.oneCell')=true:=by simp [Value.oneCell']
theorem Jv (k:Nat) (hk:k<41) (a b:Int) (z:0<=a) (a1:a<18446744073709551616) (A:0<=b) (I:b<18446744073709551616) (f:AF) (l r:SD) (hr:Hid (nX k=.w f l r)) (w:World):CB 208 #[.i ((k:Int)+22),.u a,.u b] w (.tuple #[.u (ap 32 (f.v (l.v a) (r.v b))),.bool true]):=by
 have M:wrap64 ((k:Int)+22-22)=k:=by unfold wrap64;omega
 have Q:decide ((k:Int)+22<22)=false:=by simp;omega
 have R:decide (41<=(k:Int))=false:=by simp;omega
 have C:=Co;have J:=mx f.enters;have K:=mx l.enters;have L:=mx r.enters;go_enter func208,ntmps208;go_wp2_with fail;refine (oW _).mono ?_;rintro e j ⟨T,rfl,H,u⟩;have B:(j.alloc (.cells (Value.agg eE).cells 269)).heap[j.heap.size]?=some (.cells eE 269 (0,0)):=heap_alloc_new _ _;obtain ⟨c,o⟩:∃ c,c=(j.alloc (.cells (Value.agg eE).cells 269)).setRow j.heap.size aluCells:=⟨_,rfl⟩;have D:Hid (MI c j.heap.size):=by show MI _ _;rw [o];exact GE (setRow_heap _ _ _ _ _ _ B)
 have s:Hid (c=(j.alloc (.cells (Value.agg eE).cells 269)).setRow j.heap.size aluCells):=o;clear o;have y:(c.alloc (.cells #[.nilFunc,.nilFunc,.nilFunc] 268)).heap[c.heap.size]?=some (.cells #[.nilFunc,.nilFunc,.nilFunc] 268 (0,0)):=heap_alloc_new _ _;obtain ⟨q,p⟩:∃ q,q=(c.alloc (.cells #[.nilFunc,.nilFunc,.nilFunc] 268)).setRow c.heap.size #[.func (.func f.fn) #[] #[],.func (.func l.fn) #[] #[],.func (.func r.fn) #[] #[]]:=⟨_,rfl⟩;have d:q.heap[c.heap.size]?=some (.cells #[.func (.func f.fn) #[] #[],.func (.func l.fn) #[] #[],.func (.func r.fn) #[] #[]] 268 (0,0)):=by rw [p];exact setRow_heap _ _ _ _ _ _ y
 have S:q.cell? ⟨c.heap.size,0,none⟩=some (.func (.func f.fn) #[] #[]):=cell_of_row _ _ _ _ _ _ d;have U:q.cell? ⟨c.heap.size,1,none⟩=some (.func (.func l.fn) #[] #[]):=cell_of_row _ _ _ _ _ _ d;have e2:q.cell? ⟨c.heap.size,2,none⟩=some (.func (.func r.fn) #[] #[]):=cell_of_row _ _ _ _ _ _ d;have t:Hid (q=(c.alloc (.cells #[.nilFunc,.nilFunc,.nilFunc] 268)).setRow c.heap.size #[.func (.func f.fn) #[] #[],.func (.func l.fn) #[] #[],.func (.func r.fn) #[] #[]]):=p;clear p d;obtain ⟨N,O,P⟩:=D.out.2 k hk _ _ _ (by rw [hr.out];rfl);go_wp2_with (first | refine cG rfl 269 rfl (some 8) rfl _ jv ?_ | (refine wpList_store_rowTo rfl 269 (.tmp 8) (.tmp 10) rfl rfl j.heap.size aluCells rfl H.out 269 eE B (by rw [io,dB]) (by rw [ju,dB]) jw ?_;rw [<- s.out]) | (refine wpList_store_rowTo rfl 268 (.tmp 9) (.tmp 21) rfl rfl c.heap.size #[.func (.func f.fn) #[] #[],.func (.func l.fn) #[] #[],.func (.func r.fn) #[] #[]] rfl rfl 268 _ y sV rfl (MJ _ _ _) ?_;rw [<- t.out]));have F:Hid (∀ w:World,Calls prog l.fn #[.u a] w λe g=>e=.returned (.u (l.v a))/\∃ m,g=w.drewN m):=SD.calls l a z a1;have HR:Hid (∀ w:World,Calls prog r.fn #[.u b] w λe g=>e=.returned (.u (r.v b))/\∃ m,g=w.drewN m):=SD.calls r b A I;have E:Hid (∀ w:World,Calls prog f.fn #[.u (l.v a),.u (r.v b)] w λe g=>e=.returned (.u (f.v (l.v a) (r.v b)))/\∃ m,g=w.drewN m):=AF.calls f _ _ (l.bd a z).1 (l.bd a z).2 (r.bd b A).1 (r.bd b A).2;have G:Hid (∀ (x:Int) (w:World),Calls prog 136 #[.u x,.i 32] w λe g=>e=.returned (.u (ap 32 x))/\∃ m,g=w.drewN m):=λx w=>bj (iF x 32 ab ab w);go_quiet (first | with_reducible refine Calls.quiet_of (F.out _) | with_reducible refine Calls.quiet_of (HR.out _) | with_reducible refine Calls.quiet_of (E.out _) | with_reducible refine Calls.quiet_of (G.out _ _))
 go_wp2_with fail;go_ret2;refine ⟨rfl,pY ?_ _⟩;rw [t.out,s.out];refine aE (Below.alloc (aE (u.alloc u.size _) u.size _) ?_ _) ?_ _;·rw [setRow_size];exact Nat.le_trans u.size cp
 ·rw [setRow_size];exact Nat.le_trans u.size cp
theorem Jw (k:Nat) (hk:k<41) (a b:Int) (A:0<=a) (a1:a<18446744073709551616) (B:0<=b) (C:b<18446744073709551616) (f:AF) (hr:Hid (nX k=.d f)) (w:World):CB 208 #[.i ((k:Int)+22),.u a,.u b] w (.tuple #[.u (f.v a b),.bool true]):=by
 have E:wrap64 ((k:Int)+22-22)=k:=by unfold wrap64;omega
 have J:decide ((k:Int)+22<22)=false:=by simp;omega
 have K:decide (41<=(k:Int))=false:=by simp;omega
 have u:=EO;have D:=mx f.enters;go_enter func208,ntmps208;go_wp2_with fail;refine (oW _).mono ?_;rintro e g ⟨T,rfl,z,q⟩;have t:(g.alloc (.cells (Value.agg eE).cells 269)).heap[g.heap.size]?=some (.cells eE 269 (0,0)):=heap_alloc_new _ _;obtain ⟨c,j⟩:∃ c,c=(g.alloc (.cells (Value.agg eE).cells 269)).setRow g.heap.size aluCells:=⟨_,rfl⟩;have y:Hid (MI c g.heap.size):=by show MI _ _;rw [j];exact GE (setRow_heap _ _ _ _ _ _ t)
 have o:Hid (c=(g.alloc (.cells (Value.agg eE).cells 269)).setRow g.heap.size aluCells):=j;clear j;have r:(c.alloc (.cells #[.nilFunc,.nilFunc,.nilFunc] 268)).heap[c.heap.size]?=some (.cells #[.nilFunc,.nilFunc,.nilFunc] 268 (0,0)):=heap_alloc_new _ _;obtain ⟨m,l⟩:∃ m,m=(c.alloc (.cells #[.nilFunc,.nilFunc,.nilFunc] 268)).setRow c.heap.size #[.func (.func f.fn) #[] #[],.nilFunc,.nilFunc]:=⟨_,rfl⟩;have d:m.heap[c.heap.size]?=some (.cells #[.func (.func f.fn) #[] #[],.nilFunc,.nilFunc] 268 (0,0)):=by rw [l];exact setRow_heap _ _ _ _ _ _ r
 have L:m.cell? ⟨c.heap.size,0,none⟩=some (.func (.func f.fn) #[] #[]):=cell_of_row _ _ _ _ _ _ d;have M:m.cell? ⟨c.heap.size,1,none⟩=some .nilFunc:=cell_of_row _ _ _ _ _ _ d;have e2:m.cell? ⟨c.heap.size,2,none⟩=some .nilFunc:=cell_of_row _ _ _ _ _ _ d;have p:Hid (m=(c.alloc (.cells #[.nilFunc,.nilFunc,.nilFunc] 268)).setRow c.heap.size #[.func (.func f.fn) #[] #[],.nilFunc,.nilFunc]):=l;clear l d;obtain ⟨G,H,I⟩:=y.out.2 k hk _ _ _ (by rw [hr.out];rfl);go_wp2_with (first | refine cG rfl 269 rfl (some 8) rfl _ jv ?_ | (refine wpList_store_rowTo rfl 269 (.tmp 8) (.tmp 10) rfl rfl g.heap.size aluCells rfl z.out 269 eE t (by rw [io,dB]) (by rw [ju,dB]) jw ?_;rw [<- o.out]) | (refine wpList_store_rowTo rfl 268 (.tmp 9) (.tmp 21) rfl rfl c.heap.size #[.func (.func f.fn) #[] #[],.nilFunc,.nilFunc] rfl rfl 268 _ r sV rfl (MK _) ?_;rw [<- p.out]));refine (AF.calls f a b A a1 B C _).mono ?_;rintro e N ⟨rfl,nq,s⟩;subst s;go_wp2_with fail;go_ret2;refine ⟨rfl,pY ?_ _⟩;rw [p.out,o.out];refine aE (Below.alloc (aE (q.alloc q.size _) q.size _) ?_ _) ?_ _;·rw [setRow_size];exact Nat.le_trans q.size cp
 ·rw [setRow_size];exact Nat.le_trans q.size cp
theorem zQ (op a b:Int) (m:(Lit.int .i64 op).wf=true) (h:yR op=false) (w:World):CB 208 #[.i op,.u a,.u b] w (.tuple #[.u 0,.bool false]):=by
 have l:¬ (22<=op/\op<=62):=by simpa [yR] using h
 have p:=Kf m;clear m h;by_cases f:op<22;·have o:decide (op<22)=true:=i6;clear l f;go_enter func208,ntmps208;go_wp2_with fail;refine (oW _).mono ?_;rintro e d ⟨T,rfl,g,c⟩;have j:(d.alloc (.cells (Value.agg eE).cells 269)).heap[d.heap.size]?=some (.cells eE 269 (0,0)):=heap_alloc_new _ _;go_wp2_with (first | refine cG rfl 269 rfl (some 8) rfl _ jv ?_ | (refine wpList_store_rowTo rfl 269 (.tmp 8) (.tmp 10) rfl rfl d.heap.size aluCells rfl g.out 269 eE j (by rw [io,dB]) (by rw [ju,dB]) jw ?_));exact a0h
 ·have o:decide (op<22)=false:=i6;have s:wrap64 (op-22)=op-22:=lr;have r:decide (41<=op-22)=true:=bh;clear l f;go_enter func208,ntmps208;go_wp2_with fail;refine (oW _).mono ?_;rintro e d ⟨T,rfl,g,c⟩;have j:(d.alloc (.cells (Value.agg eE).cells 269)).heap[d.heap.size]?=some (.cells eE 269 (0,0)):=heap_alloc_new _ _;go_wp2_with (first | refine cG rfl 269 rfl (some 8) rfl _ jv ?_ | (refine wpList_store_rowTo rfl 269 (.tmp 8) (.tmp 10) rfl rfl d.heap.size aluCells rfl g.out 269 eE j (by rw [io,dB]) (by rw [ju,dB]) jw ?_));exact a0h
theorem sW (op a b:Int) (m:(Lit.int .i64 op).wf=true) (c:0<=a) (a1:a<18446744073709551616) (g:0<=b) (i:b<18446744073709551616) (w:World):CB 208 #[.i op,.u a,.u b] w (.tuple #[.u (mV op a b),.bool (yR op)]):=by
 cases h:yR op with
 | false =>have e:mV op a b=0:=(by simp [mV,h]);rw [e];exact zQ op a b m h w
 | true =>
   have o:22<=op/\op<=62:=(by simpa [yR] using h);obtain ⟨k,rfl⟩:∃ k:Nat,op=(k:Int)+22:=⟨(op-22).toNat,ab⟩;have e:mV ((k:Int)+22) a b=(nX k).v a b:=(by simp [mV,h]);rw [e];cases j:nX k with
   | d f=>exact Jw k ab a b c a1 g i f j w
   | w f l r=>exact Jv k ab a b c a1 g i f l r j w
theorem xl {c:Array Oper} {rest:List Oper} {o:Oper} {a:Act} {w:World} {Q:Exit->Act->World->Prop} {T V:Value} {kk:IntKind} {k:Int} (H:Hid (∀ w:World,(Instr.index 233 T (.int kk k)).run prog w=.ok V w)) (e:o.guard=none) (x i:Operand) (g:o.op=.index 233 x i) (hx:a.eval x=T) (f:a.eval i=.int kk k) (h:wpList prog c Q rest (a.put o.dst V) w):wpList prog c Q (o::rest) a w:=by
 refine wpList_plain e λK d=>?_;have b:(execOp a.eval o).run prog w=.ok (.value V) w:=by simp [execOp,g,hx,f,H.out]
 unfold Oper.wp;rw [b,Oper.upon_value];exact d _ _ h
theorem qN (w:World):(w.alloc (.cells #[.i 0,.i 0,.i 0,.i 0,.i 0] 69)).heap[w.heap.size]?=some (.cells #[.i 0,.i 0,.i 0,.i 0,.i 0] 69 (0,0)):=heap_alloc_new _ _
theorem vV (x:Int) (Y:0<=x) (h1:x<18446744073709551616) (w:World):CB 150 #[.u x] w (lO x):=by
 by_cases b:x<4294967296
 ·have d1:decide (4294967295<x)=false:=by simp;omega
  have p:=λk (h:cj x 98 0=some k)=>Bg x k b h
  have d:=λ(h:cj x 98 0=none)=>xQ x b h
  have HH:Hid (∀ k,cj x 98 0=some k->lO x=.tuple #[(qk k x).val,.bool true]):=p
  have HM:Hid (cj x 98 0=none->lO x=.tuple #[pi.val,.bool false]):=d
  obtain ⟨V,E⟩:∃ V,V=lO x:=⟨_,rfl⟩
  rw [<- E] at HH HM ⊢
  clear p d E
  go_enter func150,ntmps150
  go_wp2_with fail
  refine (Ay _).mono ?_
  rintro e w1 ⟨T,rfl,HT,S⟩
  have hsz:w.heap.size<w1.heap.size:=by have:=S.size;simp at this;omega
  have G0:Hid (w1.heap[w.heap.size]?=some (.cells #[.i 0,.i 0,.i 0,.i 0,.i 0] 69 (0,0))):=by
   show _=_
   rw [S.block _ cp];exact qN w
  have H:Bw w w1:=(bal _ _).trans (S.mono cp)
  clear S
  go_wp2_with fail
  go_loopw [13] (λi wr=>∃ k:Nat,k<=98/\i=.i k/\Hid (cj x (98-k) k=cj x 98 0) /\
   Hid (wr.heap[w.heap.size]?=some (.cells #[.i 0,.i 0,.i 0,.i 0,.i 0] 69 (0,0)))/\Bw w wr)
   (λi _=>98-(intOf i).toNat)
  case atStart=>exact ⟨0,ab,rfl,(rfl:cj x (98-0) 0=cj x 98 0),G0,H⟩
  case round =>
   obtain ⟨k,hk,rfl,hf,G,I⟩:=hrel
   clear G0 H
   by_cases l:k<98
   ·have RO:=FQ k l
    have q:=KE k (bT k) RO x Y b
    obtain ⟨r,g⟩:∃ r,r=bT k:=⟨_,rfl⟩
    have hr:Hid (r=bT k):=g
    rw [<- g] at q
    have MB:decide (fz k r.fm r.op r.f3 r.more x)=me k x:=by rw [g];rfl
    rw [MB] at q
    have c:=uY ((k:Int)+1) r.fm x Y h1
    have IM:wrap64 (ap r.fm.width (qj x r.fm.pcs))=nB r.fm x:=by rw [Om r.fm x Y b];rfl
    rw [IM] at c
    have X:Hid (Value.agg #[.i ((k:Int)+1),.i (KA r.fm x),.i (aV r.fm x),.i (bV r.fm x),.i (nB r.fm x)]=(qk k x).val):=by
     show _=_
     rw [g];rfl
    clear g MB IM RO
    obtain ⟨W,f,o,m3,m⟩:=r
    simp only [Row.f3z] at q
    obtain ⟨z,hz⟩:∃ z:Int,z=if m3<0 then 0 else m3:=⟨_,rfl⟩
    rw [<- hz] at q
    have j:=uM ((k:Int)+1) W f o z m
    obtain ⟨MM,D⟩:∃ M,M=iG ((k:Int)+1) f:=⟨_,rfl⟩
    obtain ⟨BB,C⟩:∃ B,B=uL f o z m:=⟨_,rfl⟩
    rw [<- D,<- C] at q j
    simp only at c X
    obtain ⟨s,hs⟩:∃ s,s=f.str:=⟨_,rfl⟩
    obtain ⟨y1,N⟩:∃ y,y=KA f x:=⟨_,rfl⟩
    obtain ⟨y2,O⟩:∃ y,y=aV f x:=⟨_,rfl⟩
    obtain ⟨y3,P⟩:∃ y,y=bV f x:=⟨_,rfl⟩
    obtain ⟨y4,Q⟩:∃ y,y=nB f x:=⟨_,rfl⟩
    rw [<- hs] at j c
    rw [<- N,<- O,<- P,<- Q] at c X
    have RF:Hid (∀ w:World,CB 204 #[.i ((k:Int)+1),.string s,.u x] w (.agg #[.i ((k:Int)+1),.i y1,.i y2,.i y3,.i y4])):=c
    have RP:Hid (∀ w:World,CB 203 #[.i ((k:Int)+1),.agg #[.string W,.string s,.u o,.u z,.u m]] w (.tuple #[.u MM,.u BB])):=j
    have IX:∀ w:World,(Instr.index 233 T (.i (k:Int))).run prog w=.ok (.agg #[.string W,.string s,.u o,.u z,.u m]) w:=by
     intro w
     rw [si HT .i64 k l _ hr w,hs,hz];rfl
    clear N O P Q c j D C hs hz hr
    have A:Hid (∀ w:World,(Instr.index 233 T (.i (k:Int))).run prog w=.ok (.agg #[.string W,.string s,.u o,.u z,.u m]) w):=IX
    clear IX HT
    go_wp2_with (refine xl A rfl _ _ rfl rfl rfl ?_)
    refine (RP.out _).mono ?_
    rintro e w2 ⟨rfl,t⟩
    clear RP A
    have L:Bw wr w2:=(bal _ _).trans (t.mono cp)
    have c1:w2.cell? ⟨wr.heap.size,1,none⟩=some (.string s):=by
     rw [t.cell cp]
     rw [cell_of_row _ _ _ _ _ _ (heap_alloc_new _ _)];rfl
    have G2:Hid (w2.heap[w.heap.size]?=some (.cells #[.i 0,.i 0,.i 0,.i 0,.i 0] 69 (0,0))):=de L G.out
    have J:=aa I L
    clear t
    cases U:me k x with
    | true =>
      rw [U] at q
      have F:Hid (V=.tuple #[(qk k x).val,.bool true]):=HH.out k (hf.out.symm.trans (sG x k l U))
      go_wp2_with fail
      refine (RF.out _).mono ?_
      rintro e w3 ⟨rfl,K⟩
      have u:w3.heap[w.heap.size]?=some (.cells #[.i 0,.i 0,.i 0,.i 0,.i 0] 69 (0,0)):=de K G2.out
      have Z:=aa J K
      go_wp2_with (refine wpList_store_rowTo rfl 69 (.tmp 2) (.tmp 34) rfl rfl w.heap.size #[.i ((k:Int)+1),.i y1,.i y2,.i y3,.i y4] rfl rfl 69 _ u fF rfl (og _ _ _ _ _) ?_)
      refine bodyPost_ret (gz results150 _ _ _ _ _ _ _ rfl (setRow_heap _ _ _ _ _ _ u) underlying69 rfl fF) rfl ⟨?_,?_⟩
      ·rw [F.out,<- X.out];rfl
      ·exact aE Z (Nat.le_refl _) _
    | false =>
      rw [U] at q
      have F:Hid (cj x (98-(k+1)) (k+1)=cj x 98 0):=(ql x k l U).symm.trans hf.out
      clear RF
      go_wp2_with fail
      go_roundw
      case rel=>exact ⟨k+1,ab,by go_num,F,G2,J⟩
      case measure=>simp [intOf];omega
   ·have hk2:k=98:=by omega
    subst hk2
    have F:Hid (V=.tuple #[pi.val,.bool false]):=HM.out hf.out.symm
    have u:=G.out
    go_wp2_with (refine wpList_store_rowTo rfl 69 (.tmp 2) (.tmp 36) rfl rfl w.heap.size #[.i 0,.i 0,.i 0,.i 0,.i 0] rfl rfl 69 _ u fF rfl (og _ _ _ _ _) ?_)
    refine bodyPost_ret (gz results150 _ _ _ _ _ _ _ rfl (setRow_heap _ _ _ _ _ _ u) underlying69 rfl fF) rfl ⟨?_,?_⟩
    ·rw [F.out];rfl
    ·exact aE I (Nat.le_refl _) _
 ·have d1:decide (4294967295<x)=true:=by simp;omega
  have F:Hid (lO x=.tuple #[pi.val,.bool false]):=Bf x b
  obtain ⟨V,E⟩:∃ V,V=lO x:=⟨_,rfl⟩
  rw [<- E] at F ⊢
  clear E
  go_enter func150,ntmps150
  go_wp2_with fail
  refine bodyPost_ret (gz results150 _ _ _ _ _ _ _ rfl (qN w) underlying69 rfl fF) rfl ⟨?_,?_⟩
  ·rw [F.out];rfl
  ·exact bal _ _
theorem rQ (x:Int) (w:World):CE 127 #[.u x,.u 32] w (.u (ap 32 x)):=dV x 32 ab ab w
theorem rR (a b:Int) (j:0<=a) (a1:a<18446744073709551616) (c:0<=b) (f:b<18446744073709551616) (w:World):CE 182 #[.string ⟨#[100,105,118]⟩,.u a,.u b] w (.u (AF.div.v a b)):=by
 by_cases h:b=0;·have F:Hid (AF.div.v a b=18446744073709551615):=el;have d:(wrap64 b==0)=true:=(by simpa using (fg c f).mpr h);exact a0j
 by_cases g:b=18446744073709551615;·have F:Hid (AF.div.v a b=Uz.wrap (-a)):=(by show _=_;simp only [AF.v,if_neg h];rw [(iY c f).mpr g];exact Kc a j a1);have d:(wrap64 b==0)=false:=ph;have l:(wrap64 b == -1)=true:=(by simpa using (iY c f).mpr g);exact a0k
 ·have F:Hid (AF.div.v a b=Uz.wrap (wrap64 ((wrap64 a).tdiv (wrap64 b)))):=el;have d:(wrap64 b==0)=false:=ph;have l:(wrap64 b == -1)=false:=(by simpa using λk=>g ((iY c f).mp k));have o:¬ wrap64 b=0:=λk=>h ((fg c f).mp k);exact a0k
theorem rS (a b:Int) (m:0<=a) (a1:a<18446744073709551616) (c:0<=b) (f:b<18446744073709551616) (w:World):CE 182 #[.string ⟨#[114,101,109]⟩,.u a,.u b] w (.u (AF.rem.v a b)):=by
 by_cases h:b=0;·have F:Hid (AF.rem.v a b=a):=el;have d:(wrap64 b==0)=true:=(by simpa using (fg c f).mpr h);exact a0j
 by_cases g:b=18446744073709551615;·have F:Hid (AF.rem.v a b=0):=(by show _=_;simp only [AF.v,if_neg h];rw [(iY c f).mpr g];exact Kd a);have d:(wrap64 b==0)=false:=ph;have j:(wrap64 b == -1)=true:=(by simpa using (iY c f).mpr g);exact a0k
 ·have F:Hid (AF.rem.v a b=Uz.wrap ((wrap64 a).tmod (wrap64 b))):=el;have d:(wrap64 b==0)=false:=ph;have j:(wrap64 b == -1)=false:=(by simpa using λk=>g ((iY c f).mp k));have o:¬ wrap64 b=0:=λk=>h ((fg c f).mp k);exact a0k
theorem pB (a b:Int) (c:0<=a) (a1:a<18446744073709551616) (f:0<=b) (g:b<18446744073709551616) (w:World):CE 182 #[.string ⟨#[100,105,118,117]⟩,.u a,.u b] w (.u (AF.divu.v a b)):=by
 by_cases h:b=0;·have F:Hid (AF.divu.v a b=18446744073709551615):=el;have d:(b==0)=true:=ej;exact a0j
 ·have F:Hid (AF.divu.v a b=Uz.wrap (a.tdiv b)):=el;have d:(b==0)=false:=ej;clear c a1 f g;go_enter func182,ntmps182;exact yn
theorem pC (a b:Int) (c:0<=a) (a1:a<18446744073709551616) (f:0<=b) (g:b<18446744073709551616) (w:World):CE 182 #[.string ⟨#[114,101,109,117]⟩,.u a,.u b] w (.u (AF.remu.v a b)):=by
 by_cases h:b=0;·have F:Hid (AF.remu.v a b=a):=el;have d:(b==0)=true:=ej;exact a0j
 ·have F:Hid (AF.remu.v a b=a.tmod b):=el;have d:(b==0)=false:=ej;clear c a1 f g;go_enter func182,ntmps182;exact yn
abbrev O3 (a b:Int) (w:World) (s:Array UInt8) (k:Nat):Prop:=CE 128 #[.string ⟨s⟩,.u a,.u b] w (.u ((nX k).v a b))
def U4 (a b:Int):Prop:=0<=a/\a<18446744073709551616/\0<=b/\b<18446744073709551616
section
variable (a b : Int) (w : World)
theorem Ur:O3 a b w #[97,100,100,105] 0/\O3 a b w #[120,111,114,105] 3/\O3 a b w #[111,114,105] 4/\O3 a b w #[97,110,100,105] 5/\O3 a b w #[97,100,100] 13/\O3 a b w #[115,117,98] 14/\O3 a b w #[120,111,114] 18/\O3 a b w #[111,114] 21/\O3 a b w #[97,110,100] 22/\O3 a b w #[109,117,108] 28:=by
 refine ⟨?_,?_,?_,?_,?_,?_,?_,?_,?_,?_⟩<;>(
  delta O3
  go_enter func128,ntmps128
  go_wp2_with (fail)
  go_ret
  exact ⟨rfl,rfl⟩)
theorem Us:O3 a b w #[115,108,116,105] 1/\O3 a b w #[115,108,116,105,117] 2/\O3 a b w #[115,108,116] 16/\O3 a b w #[115,108,116,117] 17:=by
 refine ⟨?_,?_,?_,?_⟩<;>(
  delta O3
  go_enter func128,ntmps128
  go_wp2_with (go_at_call 104;with_reducible refine (Kh _ _).mono ?_;rintro e c ⟨rfl,rfl⟩)
  go_ret
  exact ⟨rfl,rfl⟩)
theorem Ut (g:U4 a b):O3 a b w #[115,108,108,105] 6/\O3 a b w #[115,114,108,105] 7/\O3 a b w #[115,114,97,105] 8/\O3 a b w #[115,108,108] 15/\O3 a b w #[115,114,108] 19/\O3 a b w #[115,114,97] 20:=by
 obtain ⟨j,l,c,d⟩:=g
 have m:bits .and .u64 b 63=(sh b:Int):=by rw [<- Qa];exact cy b 6 c d ab
 have f:=Fw b
 refine ⟨?_,?_,?_,?_,?_,?_⟩<;>(
  delta O3
  go_enter func128,ntmps128
  go_wp2_with (fail)
  go_ret
  exact ⟨rfl,rfl⟩)
theorem Uu (l:U4 a b):O3 a b w #[97,100,100,105,119] 9/\O3 a b w #[97,100,100,119] 23/\O3 a b w #[115,117,98,119] 24/\O3 a b w #[109,117,108,119] 36/\O3 a b w #[115,108,108,105,119] 10/\O3 a b w #[115,108,108,119] 25/\O3 a b w #[115,114,108,105,119] 11/\O3 a b w #[115,114,108,119] 26/\O3 a b w #[115,114,97,105,119] 12/\O3 a b w #[115,114,97,119] 27:=by
 obtain ⟨c,d,f,g⟩:=l
 have o:bits .and .u64 b 31=(Kb b:Int):=by rw [<- QU];exact cy b 5 f g ab
 have j:=QV b
 have m:=kY a c d
 refine ⟨?_,?_,?_,?_,?_,?_,?_,?_,?_,?_⟩<;>(
  delta O3
  go_enter func128,ntmps128
  go_wp2_with (go_at_call 127;with_reducible refine (rQ _ _).mono ?_;rintro e p ⟨rfl,rfl⟩)
  go_ret
  exact ⟨by first | (rw [SU];rfl) | (rw [SV];rfl) | (rw [SW];rfl) | (rw [Ua];rfl) | (rw [Ub];rfl) | (rw [SX];rfl),rfl⟩)
theorem Uv (j:U4 a b):O3 a b w #[109,117,108,104,117] 31:=by obtain ⟨c,d,f,g⟩:=j;delta O3;go_enter func128,ntmps128;go_wp2_with (go_at_call 181;with_reducible refine (pZ a b c d f g _).mono ?_;rintro e l ⟨rfl,rfl⟩);go_ret;exact a06
theorem Uw (m:U4 a b):O3 a b w #[100,105,118] 32/\O3 a b w #[100,105,118,117] 33/\O3 a b w #[114,101,109] 34/\O3 a b w #[114,101,109,117] 35:=by
 obtain ⟨f,g,j,l⟩:=m
 have c:=And.intro f g
 have d:=And.intro j l
 refine ⟨?_,?_,?_,?_⟩<;>(
  delta O3
  go_enter func128,ntmps128
  go_wp2_with (go_at_call 182;(first | with_reducible refine (rR a b c.1 c.2 d.1 d.2 _).mono ?_ | with_reducible refine (pB a b c.1 c.2 d.1 d.2 _).mono ?_ | with_reducible refine (rS a b c.1 c.2 d.1 d.2 _).mono ?_ | with_reducible refine (pC a b c.1 c.2 d.1 d.2 _).mono ?_);rintro e o ⟨rfl,rfl⟩)
  go_ret
  exact ⟨rfl,rfl⟩)
theorem Ux (f:U4 a b):O3 a b w #[100,105,118,119] 37/\O3 a b w #[114,101,109,119] 39:=by
 obtain ⟨j,l,m,o⟩:=f
 have c:=bf a
 have d:=bf b
 refine ⟨?_,?_⟩<;>(
  delta O3
  go_enter func128,ntmps128
  go_wp2_with (first | (go_at_call 127;with_reducible refine (rQ _ _).mono ?_;rintro e g ⟨rfl,rfl⟩) | (go_at_call 182;(first | with_reducible refine (rR (ap 32 a) (ap 32 b) c.1 c.2 d.1 d.2 _).mono ?_ | with_reducible refine (pB (ap 32 a) (ap 32 b) c.1 c.2 d.1 d.2 _).mono ?_ | with_reducible refine (rS (ap 32 a) (ap 32 b) c.1 c.2 d.1 d.2 _).mono ?_ | with_reducible refine (pC (ap 32 a) (ap 32 b) c.1 c.2 d.1 d.2 _).mono ?_);rintro e g ⟨rfl,rfl⟩))
  go_ret
  exact ⟨rfl,rfl⟩)
theorem Uy (m:U4 a b):O3 a b w #[100,105,118,117,119] 38/\O3 a b w #[114,101,109,117,119] 40:=by
 obtain ⟨f,g,j,l⟩:=m
 have p:=kY a f g
 have q:=kY b j l
 have c:0<=a%4294967296/\a%4294967296<18446744073709551616:=ab
 have d:0<=b%4294967296/\b%4294967296<18446744073709551616:=ab
 refine ⟨?_,?_⟩<;>(
  delta O3
  go_enter func128,ntmps128
  go_wp2_with (first | (go_at_call 127;with_reducible refine (rQ _ _).mono ?_;rintro e o ⟨rfl,rfl⟩) | (go_at_call 182;(first | with_reducible refine (rR (a%4294967296) (b%4294967296) c.1 c.2 d.1 d.2 _).mono ?_ | with_reducible refine (pB (a%4294967296) (b%4294967296) c.1 c.2 d.1 d.2 _).mono ?_ | with_reducible refine (rS (a%4294967296) (b%4294967296) c.1 c.2 d.1 d.2 _).mono ?_ | with_reducible refine (pC (a%4294967296) (b%4294967296) c.1 c.2 d.1 d.2 _).mono ?_);rintro e o ⟨rfl,rfl⟩))
  go_ret
  exact ⟨rfl,rfl⟩)
theorem UA (u:U4 a b):O3 a b w #[109,117,108,104] 29/\O3 a b w #[109,117,108,104,115,117] 30:=by
 obtain ⟨o,p,q,r⟩:=u
 have g:Hid ((nX 29).v a b=l5 a b):=rfl
 have j:Hid ((nX 30).v a b=fX a b):=rfl
 obtain ⟨y,c⟩:∃ v,v=l5 a b:=⟨_,rfl⟩
 obtain ⟨z,e2⟩:∃ v,v=fX a b:=⟨_,rfl⟩
 unfold O3
 rw [g.out,j.out,<- c,<- e2]
 unfold l5 fX at c
 unfold fX at e2
 clear g j
 by_cases d:wrap64 a<0<;>by_cases f:wrap64 b<0<;>(
  simp only [d,f,if_true,if_false] at c e2
  have l:Hid (y=_):=c
  have m:Hid (z=_):=e2
  clear c e2
  first | have s:decide (wrap64 a<0)=true:=decide_eq_true d | have s:decide (wrap64 a<0)=false:=decide_eq_false d
  first | have t:decide (wrap64 b<0)=true:=decide_eq_true f | have t:decide (wrap64 b<0)=false:=decide_eq_false f
  clear d f
  refine ⟨?_,?_⟩<;>(
   go_enter func128,ntmps128
   go_wp2_with (go_at_call 181;with_reducible refine (pZ a b o p q r _).mono ?_;rintro e A ⟨rfl,rfl⟩)
   go_ret
   exact ⟨by first | (rw [l.out];rfl) | (rw [m.out];rfl),rfl⟩))
end
theorem ML (k:Nat) (hk:k<41) (s:ByteArray) (hs:s=(bT (k+21)).name) (a b:Int) (N:0<=a) (a1:a<18446744073709551616) (O:0<=b) (P:b<18446744073709551616) (w:World):CE 128 #[.string s,.u a,.u b] w (.u ((nX k).v a b)):=by
 subst hs;have c:U4 a b:=⟨N,a1,O,P⟩;obtain ⟨Q,T,U,V,i,j,o,r,t,A⟩:=Ur a b w;obtain ⟨R,S,m,n⟩:=Us a b w;obtain ⟨W,X,Y,l,p,q⟩:=Ut a b w c;obtain ⟨Z,u,v,I,d,x,f,y,g,z⟩:=Uu a b w c;have D:=Uv a b w c;obtain ⟨E,F,G,H⟩:=Uw a b w c;obtain ⟨J,L⟩:=Ux a b w c;obtain ⟨K,M⟩:=Uy a b w c;obtain ⟨B,C⟩:=UA a b w c;match k,hk with
 | 0,_=>exact Q
 | 1,_=>exact R
 | 2,_=>exact S
 | 3,_=>exact T
 | 4,_=>exact U
 | 5,_=>exact V
 | 6,_=>exact W
 | 7,_=>exact X
 | 8,_=>exact Y
 | 9,_=>exact Z
 | 10,_=>exact d
 | 11,_=>exact f
 | 12,_=>exact g
 | 13,_=>exact i
 | 14,_=>exact j
 | 15,_=>exact l
 | 16,_=>exact m
 | 17,_=>exact n
 | 18,_=>exact o
 | 19,_=>exact p
 | 20,_=>exact q
 | 21,_=>exact r
 | 22,_=>exact t
 | 23,_=>exact u
 | 24,_=>exact v
 | 25,_=>exact x
 | 26,_=>exact y
 | 27,_=>exact z
 | 28,_=>exact A
 | 29,_=>exact B
 | 30,_=>exact C
 | 31,_=>exact D
 | 32,_=>exact E
 | 33,_=>exact F
 | 34,_=>exact G
 | 35,_=>exact H
 | 36,_=>exact I
 | 37,_=>exact J
 | 38,_=>exact K
 | 39,_=>exact L
 | 40,_=>exact M
 | k+41,h=>exact absurd h ab
theorem sX (op a b:Int) (z:(Lit.int .i64 op).wf=true) (o:0<=a) (a1:a<18446744073709551616) (p:0<=b) (q:b<18446744073709551616) (w:World):CB 84 #[.i op,.u a,.u b] w (.tuple #[.u (mV op a b),.bool (yR op)]):=by
 cases h:yR op with
 | false =>have e:mV op a b=0:=(by simp [mV,h]);rw [e];have c:decide (22<=op/\op<=62)=false:=h;clear h e;go_enter func84,ntmps84;go_wp2_with fail;refine (eu op 22 62 _).mono ?_;rintro e A ⟨rfl,rfl⟩;rw [c];clear c;go_wp2_with fail;go_ret2;exact ⟨rfl,Below.refl _ _⟩
 | true =>have r:22<=op/\op<=62:=(by simpa [yR] using h);have c:decide (22<=op/\op<=62)=true:=h;obtain ⟨k,rfl⟩:∃ k:Nat,op=(k:Int)+22:=⟨(op-22).toNat,ab⟩;have e:mV ((k:Int)+22) a b=(nX k).v a b:=(by simp [mV,h]);rw [e];have l:jG ((k:Int)+22)=(bT (k+21)).name:=(by have t:rl ((k:Int)+22)=true:=(by simp [rl];omega);have y:((k:Int)+22-1).toNat=k+21:=ab;simp [jG,t,y]);have j:Hid (∀ w,CE 128 #[.string (jG ((k:Int)+22)),.u a,.u b] w (.u ((nX k).v a b))):=ML k ab _ l a b o a1 p q;obtain ⟨s,m⟩:∃ s,s=jG ((k:Int)+22):=⟨_,rfl⟩;have g:Hid (∀ w,CB 129 #[.i ((k:Int)+22)] w (.string (jG ((k:Int)+22)))):=yO _ z;rw [<- m] at j g;clear h r e l m;go_enter func84,ntmps84;go_wp2_with fail;refine (eu _ 22 62 _).mono ?_;rintro e A ⟨rfl,f⟩;subst f;rw [c];clear c;go_wp2_with fail;refine (g.out _).mono ?_;rintro e B ⟨rfl,u⟩;go_wp2_with fail;refine (j.out _).mono ?_;rintro e C ⟨rfl,rfl⟩;go_wp2_with fail;go_ret2;exact ⟨rfl,u⟩
theorem Cp (i:Nat) (t:i<98) (c:ByteArray) (f:Fm) (o z m x:Int) (b:0<=x) (s:x<4294967296) (hx:Hid (f=.x->0<=o/\o<128/\0<=m/\m<4096)) (w:World):CB 124 #[.i i,.agg #[.string c,.string f.str,.u o,.i z,.u m],.u x] w (.bool (decide (fz i f o z m x))):=by
 have g:bits .and .u64 x 127=x%128:=cy x 7 b ab bb
 have j:bits .and .u64 (x/4096) 7=x/4096%8:=cy (x/4096) 3 ab ab bb
 have l:bits .and .u64 (x/128) 31=x/128%32:=cy (x/128) 5 ab ab bb
 have p:bits .and .u64 (x/1048576) 31=x/1048576%32:=cy (x/1048576) 5 ab ab bb
 cases f
 case x =>
  have H:=hx.out rfl
  have q:Uz.wrap (m*1048576)=m*1048576:=by rw [IntKind.wrap_u64];omega
  have r:bits .or .u64 (m*1048576) o=m*1048576+o:=by
   rw [u64_or _ _ ab ab ab ab]
   rw [nat_join 20 _ _ ab ab];omega
  clear H
  simp only [Fm.str]
  go_enter func124,ntmps124
  go_wp2_with fail
  all_goals go_ret
  all_goals refine ⟨?_,bal _ _⟩
  all_goals (clear hx;go_tidy;show Ending.returned (Value.bool _)=Ending.returned (Value.bool _);congr 2;rw [Bool.eq_iff_iff,decide_eq_true_iff];simp only [fz,bne_iff_ne,beq_iff_eq,bne_eq_false_iff_eq,Bool.false_eq_true,ne_eq,false_iff] at *)
  all_goals omega
 all_goals (
  simp only [Fm.str]
  go_enter func124,ntmps124
  go_wp2_with fail
  all_goals go_ret
  all_goals refine ⟨?_,bal _ _⟩
  all_goals (clear hx;go_tidy;show Ending.returned (Value.bool _)=Ending.returned (Value.bool _);congr 2;rw [Bool.eq_iff_iff,decide_eq_true_iff];simp only [fz,bne_iff_ne,beq_iff_eq,bne_eq_false_iff_eq,Bool.false_eq_true,ne_eq,true_iff,false_iff,and_true] at *)
  all_goals omega)
theorem Jy (f:Fm) (x:Int) (C:0<=x) (D:x<4294967296) (w:World):CE 125 #[.string f.str,.u x] w (.i (nB f x)):=by
 cases f;case i =>simp only [Fm.str];go_enter func125,ntmps125;go_wp2_with fail;refine (dV (x/1048576) 12 bb bb _).mono ?_;exact a0l
 case s =>have d:Uz.wrap (x/33554432*32)=x/33554432*32:=di;have m:bits .and .u64 (x/128) 31=x/128%32:=cy (x/128) 5 ab ab bb;have o:bits .or .u64 (x/33554432*32) (x/128%32)=x/33554432*32+x/128%32:=(by have:=mv (x/33554432*32) (x/128%32) 0 5 ab ab ab ab ab ab;simpa using this);simp only [Fm.str];go_enter func125,ntmps125;go_wp2_with fail;refine (dV (x/33554432*32+x/128%32) 12 bb bb _).mono ?_;exact a0l
 case b =>
  have d:Uz.wrap (x/2147483648*4096)=x/2147483648*4096:=di;have m:bits .and .u64 (x/128) 1=x/128%2:=cy (x/128) 1 ab ab bb;have o:Uz.wrap (x/128%2*2048)=x/128%2*2048:=di;have p:bits .or .u64 (x/2147483648*4096) (x/128%2*2048)=x/2147483648*4096+x/128%2*2048 :=
   mv (x/2147483648*4096) (x/128%2) 11 1 ab ab ab ab ab ab
  have q:bits .and .u64 (x/33554432) 63=x/33554432%64:=cy (x/33554432) 6 ab ab bb;have t:Uz.wrap (x/33554432%64*32)=x/33554432%64*32:=di;have y:bits .or .u64 (x/2147483648*4096+x/128%2*2048) (x/33554432%64*32)=x/2147483648*4096+x/128%2*2048+x/33554432%64*32 :=
   mv (x/2147483648*4096+x/128%2*2048) (x/33554432%64) 5 6 ab ab ab ab ab ab
  have z:bits .and .u64 (x/256) 15=x/256%16:=cy (x/256) 4 ab ab bb;have A:Uz.wrap (x/256%16*2)=x/256%16*2:=di;have l:bits .or .u64 (x/2147483648*4096+x/128%2*2048+x/33554432%64*32) (x/256%16*2)=x/2147483648*4096+x/128%2*2048+x/33554432%64*32+x/256%16*2 :=
   mv (x/2147483648*4096+x/128%2*2048+x/33554432%64*32) (x/256%16) 1 4 ab ab ab ab ab ab
  simp only [Fm.str];go_enter func125,ntmps125;go_wp2_with fail;refine (dV (x/2147483648*4096+x/128%2*2048+x/33554432%64*32+x/256%16*2) 13 bb bb _).mono ?_;exact a0l
 case u =>have d:Uz.wrap (x/4096*4096)=x/4096*4096:=di;simp only [Fm.str];go_enter func125,ntmps125;go_wp2_with fail;refine (dV (x/4096*4096) 32 bb bb _).mono ?_;exact a0l
 case j =>
  have d:Uz.wrap (x/2147483648*1048576)=x/2147483648*1048576:=di;have m:bits .and .u64 (x/4096) 255=x/4096%256:=cy (x/4096) 8 ab ab bb;have o:Uz.wrap (x/4096%256*4096)=x/4096%256*4096:=di;have p:bits .or .u64 (x/2147483648*1048576) (x/4096%256*4096)=x/2147483648*1048576+x/4096%256*4096 :=
   mv (x/2147483648*1048576) (x/4096%256) 12 8 ab ab ab ab ab ab
  have q:bits .and .u64 (x/1048576) 1=x/1048576%2:=cy (x/1048576) 1 ab ab bb;have t:Uz.wrap (x/1048576%2*2048)=x/1048576%2*2048:=di;have y:bits .or .u64 (x/2147483648*1048576+x/4096%256*4096) (x/1048576%2*2048)=x/2147483648*1048576+x/4096%256*4096+x/1048576%2*2048 :=
   mv (x/2147483648*1048576+x/4096%256*4096) (x/1048576%2) 11 1 ab ab ab ab ab ab
  have z:bits .and .u64 (x/2097152) 1023=x/2097152%1024:=cy (x/2097152) 10 ab ab bb;have A:Uz.wrap (x/2097152%1024*2)=x/2097152%1024*2:=di;have l:bits .or .u64 (x/2147483648*1048576+x/4096%256*4096+x/1048576%2*2048) (x/2097152%1024*2)=x/2147483648*1048576+x/4096%256*4096+x/1048576%2*2048+x/2097152%1024*2 :=
   mv (x/2147483648*1048576+x/4096%256*4096+x/1048576%2*2048) (x/2097152%1024) 1 10 ab ab ab ab ab ab
  simp only [Fm.str];go_enter func125,ntmps125;go_wp2_with fail;refine (dV (x/2147483648*1048576+x/4096%256*4096+x/1048576%2*2048+x/2097152%1024*2) 21 bb bb _).mono ?_;exact a0l
 case h =>have d:bits .and .u64 (x/1048576) 63=x/1048576%64:=cy (x/1048576) 6 ab ab bb;have F:Hid (nB .h x=x/1048576%64):=oJ (x/1048576%64) ab ab;exact a0m
 case w =>have d:bits .and .u64 (x/1048576) 31=x/1048576%32:=cy (x/1048576) 5 ab ab bb;have F:Hid (nB .w x=x/1048576%32):=oJ (x/1048576%32) ab ab;exact a0m
 case a =>have d:bits .and .u64 (x/33554432) 3=x/33554432%4:=cy (x/33554432) 2 ab ab bb;have F:Hid (nB .a x=x/33554432%4):=oJ (x/33554432%4) ab ab;exact a0m
 case c =>have F:Hid (nB .c x=x/1048576):=oJ (x/1048576) ab ab;exact a0m
 case r =>have F:Hid (nB .r x=0):=oJ (0) ab ab;exact a0m
 case x =>have F:Hid (nB .x x=0):=oJ (0) ab ab;exact a0m
end Go.Proofs.YtjifdmoehfbihaaGreatDoor
