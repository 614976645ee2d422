/- Own lemmas. -/
import Derived.Test.YtjifdmoehfbihaaGreatDoorAut
import Derived.Test.YtjifdmoehfbihaaGreatDoorK16
import Derived.Test.YtjifdmoehfbihaaGreatDoorK17
import Derived.Stop.Asserts
import Derived.Handy
set_option maxRecDepth 100000
set_option maxHeartbeats 6400000
namespace Go.Proofs.YtjifdmoehfbihaaGreatDoor
open Go.RowKit Tryz
open IntKind renaming u64->Uz
set_option linter.unusedVariables false
theorem D7 (op:BinOp) (a b:Int):0<=bits op .u64 a b/\bits op .u64 a b<18446744073709551616:=by have h:=Bo (wf_bits op .u64 a b);omega
def pC (t:TV) (to:Int):TV:=if cI to 1 1==1 then {t with up:=true,cz:=0,vl:=to} else {t with nx:=to}
section
variable {w : World} {g : Nat} {M : MV} {A : MA} {t : TV}
theorem zV {b o:Nat} {x y:Int} (h:gG ⟨g,br M A t,[]⟩ w) (K:5<=t.op) (z:t.op<=10) (q:A.ax=some ⟨b,o,none⟩) (B:0<=t.ra/\t.ra<M.x.length) (C:0<=t.rb/\t.rb<M.x.length) (hb:b≠g) (hx:w.cell? ⟨b,o+t.ra.toNat,none⟩=some (.u x)) (hy:w.cell? ⟨b,o+t.rb.toNat,none⟩=some (.u y)):Calls prog 154 #[.p g 0] w λe s=>e=.returned (.tuple #[])/\Iv [g] w [⟨g,br M A (if Hb t.op x y then pC t (Uz.wrap (M.pc+Uz.wrap t.im)) else t),[]⟩] s:=by
 have r:∀ (p:Addr) v,p.block=b->w.cell? p=some v->∀ W,Iv [g] w [⟨g,br M A t,[]⟩] W->W.cell? p=some v:=λp v N I W c=>by rw [<- I];simp only [World.cell?,c.ag.block p.block (ku I) (by rw [N];simpa using hb)]
 obtain ⟨l,d⟩:∃ l,l=Uz.wrap (M.pc+Uz.wrap t.im):=⟨_,rfl⟩;have E:(t.op==4)=false:=by simp;omega
 have F:(t.op==3)=false:=by simp;omega
 have G:KW t.op=true:=by simp [KW,K,z]
 rw [<- d];obtain ⟨H,f⟩:∃ H,Hb t.op x y=H:=⟨_,rfl⟩;rw [f];refine fD (args:=[.p g 0]) (Iv [g] w [⟨g,br M A t,[]⟩]) func154 ?_;refine aL 0 1 ?_;cases H with
 | false =>refine lm Iv.eng {eq:=[(19,au E),(21,au F),(46,au f)],cv:=[(11,uP λW c=>rf c.row1),(42,uP λW c=>Ie c.row1 q B hb (r _ _ rfl hx W c)),(44,uP λW c=>P9 c.row1 q C hb (r _ _ rfl hy W c)),(45,lq Iv.below λW _=>jQ t.op x y G W)]} 200 (Iv.one h) λs a L _=>⟨_,results_none rfl _ _ _,rfl,L⟩
 | true =>
   have i:0<=l:=(by rw [d,IntKind.wrap_u64];omega);have j:l<18446744073709551616:=(by rw [d,IntKind.wrap_u64];omega);rw [if_pos rfl];unfold pC;obtain ⟨u,n⟩:∃ u,(cI l 1 1==1)=u:=⟨_,rfl⟩;rw [n];cases u with
   | true =>refine aW Iv.eng {eq:=[(12,ei .u64 d.symm),(19,au E),(21,au F),(46,au f),(52,au n)],cv:=[(11,uP λW c=>rf c.row1),(42,uP λW c=>Ie c.row1 q B hb (r _ _ rfl hx W c)),(44,uP λW c=>P9 c.row1 q C hb (r _ _ rfl hy W c)),(45,lq Iv.below λW _=>jQ t.op x y G W),(51,lq Iv.below λW _=>(bn l 1 1 i j a5 a5 W).mono λe s k=>⟨k.1,by rw [k.2];exact (Below.refl _ _).drew⟩),(54,mt λW _=>gt 1 (.inl rfl) W)]} 200 (Iv.one h) (λW c=>jx 0 l c.row1) λW e s c D=>⟨_,0,D.1,gp a3,?_⟩;refine aR (λ_=>True) ?_;exact n6 (Iv.one D.2.row1) {} 40 λJ m=>⟨rfl,(c.then1 D.2).then1 m⟩
   | false =>refine af Iv.eng {eq:=[(12,ei .u64 d.symm),(19,au E),(21,au F),(46,au f),(52,au n)],cv:=[(11,uP λW c=>rf c.row1),(42,uP λW c=>Ie c.row1 q B hb (r _ _ rfl hx W c)),(44,uP λW c=>P9 c.row1 q C hb (r _ _ rfl hy W c)),(45,lq Iv.below λW _=>jQ t.op x y G W),(51,lq Iv.below λW _=>(bn l 1 1 i j a5 a5 W).mono λe s k=>⟨k.1,by rw [k.2];exact (Below.refl _ _).drew⟩)]} 200 (Iv.one h) λW c=>?_;refine aR (λ_=>True) ?_;exact fH (Iv.one c.row1) {} 40 λJ m=>⟨rfl,c.then1 m⟩
theorem FW (h:gG ⟨g,br M A t,[]⟩ w) (l:t.op=3):Calls prog 154 #[.p g 0] w λe p=>e=.returned (.tuple #[])/\Iv [g] w [⟨g,br M A (pC {t with rs:=t.nx} (Uz.wrap (M.pc+Uz.wrap t.im))),[]⟩] p:=by
 obtain ⟨f,a⟩:∃ f,f=Uz.wrap (M.pc+Uz.wrap t.im):=⟨_,rfl⟩;have s:(t.op==4)=false:=by simp;omega
 have u:(t.op==3)=true:=by simp;omega
 have j:0<=f:=by rw [a,IntKind.wrap_u64];omega
 have k:f<18446744073709551616:=by rw [a,IntKind.wrap_u64];omega
 rw [<- a];refine fD (args:=[.p g 0]) (Iv [g] w [⟨g,br M A t,[]⟩]) func154 ?_;refine aL 0 1 ?_;refine af Iv.eng {eq:=[(12,ei .u64 a.symm),(19,au s),(21,au u)],cv:=[(11,uP λW b=>rf b.row1)]} 200 (Iv.one h) λW b=>?_;refine aR (λ_=>True) ?_;refine fG (R1:=[⟨g,br M A {t with rs:=t.nx},[]⟩]) (Iv.one b.row1) {} 40 (λn o=>bn f 1 1 j k a5 a5 n) λn e r o i=>⟨_,0,i.1,?_⟩;have l:Iv [g] w [⟨g,br M A {t with rs:=t.nx},[]⟩] r:=(b.then1 o).below (by rw [i.2];exact (Below.refl _ _).drew);unfold pC;obtain ⟨m,d⟩:∃ m,(cI f 1 1==1)=m:=⟨_,rfl⟩;rw [d];cases m with
 | true =>refine aR (Iv [g] w [⟨g,br M A {t with rs:=t.nx},[]⟩]) ?_;refine aW Iv.eng {eq:=[(52,au d)],cv:=[(54,mt λW _=>gt 1 (.inl rfl) W)]} 200 l (λW b=>jx 0 f b.row1) λW e p b i=>⟨_,0,i.1,gp a3,?_⟩;refine aR (λ_=>True) ?_;exact n6 (Iv.one i.2.row1) {} 40 λq c=>⟨rfl,(b.then1 i.2).then1 c⟩
 | false =>exact fH (Iv.one l.row1) {eq:=[(52,au d)]} 60 λq c=>⟨rfl,l.then1 c⟩
theorem IQ {b o:Nat} {x:Int} (h:gG ⟨g,br M A t,[]⟩ w) (G:t.op=4) (B:A.ax=some ⟨b,o,none⟩) (D:0<=t.ra/\t.ra<M.x.length) (hb:b≠g) (hx:w.cell? ⟨b,o+t.ra.toNat,none⟩=some (.u x)):Calls prog 154 #[.p g 0] w λe u=>e=.returned (.tuple #[])/\Iv [g] w [⟨g,br M A (pC {t with rs:=t.nx} (bits .andNot .u64 (Uz.wrap (x+Uz.wrap t.im)) 1)),[]⟩] u:=by
 obtain ⟨i,c⟩:∃ i,i=bits .andNot .u64 (Uz.wrap (x+Uz.wrap t.im)) 1:=⟨_,rfl⟩;have F:(t.op==4)=true:=by simp;omega
 have C:∀ (p:Addr) v,p.block=b->w.cell? p=some v->∀ W,Iv [g] w [⟨g,br M A t,[]⟩] W->W.cell? p=some v:=λp v E s W a=>by rw [<- s];simp only [World.cell?,a.ag.block p.block (ku s) (by rw [E];simpa using hb)]
 have k:0<=i:=by rw [c];exact (D7 _ _ _).1
 have l:i<18446744073709551616:=by rw [c];exact (D7 _ _ _).2
 rw [<- c];refine fD (args:=[.p g 0]) (Iv [g] w [⟨g,br M A t,[]⟩]) func154 ?_;refine aL 0 1 ?_;refine af Iv.eng {eq:=[(27,ei .u64 c.symm),(19,au F)],cv:=[(11,uP λW a=>rf a.row1),(23,uP λW a=>Ie a.row1 B D hb (C _ _ rfl hx W a)),(25,uP λW a=>rf a.row1)]} 200 (Iv.one h) λW a=>?_;refine aR (λ_=>True) ?_;refine fG (R1:=[⟨g,br M A {t with rs:=t.nx},[]⟩]) (Iv.one a.row1) {} 40 (λq r=>bn i 1 1 k l a5 a5 q) λq e z r j=>⟨_,0,j.1,?_⟩;have n:Iv [g] w [⟨g,br M A {t with rs:=t.nx},[]⟩] z:=(a.then1 r).below (by rw [j.2];exact (Below.refl _ _).drew);unfold pC;obtain ⟨m,f⟩:∃ m,(cI i 1 1==1)=m:=⟨_,rfl⟩;rw [f];cases m with
 | true =>refine aR (Iv [g] w [⟨g,br M A {t with rs:=t.nx},[]⟩]) ?_;refine aW Iv.eng {eq:=[(52,au f)],cv:=[(54,mt λW _=>gt 1 (.inl rfl) W)]} 200 n (λW a=>jx 0 i a.row1) λW e u a j=>⟨_,0,j.1,gp a3,?_⟩;refine aR (λ_=>True) ?_;exact n6 (Iv.one j.2.row1) {} 40 λy d=>⟨rfl,(a.then1 j.2).then1 d⟩
 | false =>exact fH (Iv.one n.row1) {eq:=[(52,au f)]} 60 λy d=>⟨rfl,n.then1 d⟩
end
inductive Wf where
 | ld | st | hd | sc | am
def Wf.ty:Wf->Nat
 | .ld=>181
 | .st=>183
 | .hd=>185
 | .sc=>186
 | .am=>187
def ml (f:Wf) (n:Int) (s:Bool):Value:=.iface f.ty (.agg #[.i n,.bool s])
section
variable {w : World} {g : Nat} {M : MV} {A : MA} {t : TV}
theorem pD (f:Wf) (n:Int) (s:Bool) (a:t.fm=ml f n s) (h:gG ⟨g,br M A t,[]⟩ w):Calls prog 211 #[.p g 0] w λe c=>e=.returned (ml f n s)/\Iv [g] w [⟨g,br M A t,[]⟩] c:=by obtain ⟨k,y,m,q,o,p,j,i,r,l,wr,u,d,x⟩:=t;dsimp only at a;subst a;refine fD (args:=[.p g 0]) (λ_=>True) func211 ?_;refine aL 0 1 ?_;cases f<;>exact td (t:=2) (v:=ml _ n s) (Iv.one h) {} 40 λW b=>⟨rfl,b⟩
theorem xO (n:Int) (s:Bool) (w:World):CB 311 #[.agg #[.i n,.bool s]] w (.i n):=by refine cn (args:=[.agg #[.i n,.bool s]]) (S:=Bs w [(#[.i n,.bool s],179)]) [(#[.i n,.bool s],179)] func311 ?_;exact bm (t:=2) (v:=.i n) Bs.eng {} 40 (Bs.start _ _) λa h=>⟨rfl,h.2⟩
theorem FX (n:Nat) (s:Bool) (x:Int) (hn:n=1\/n=2\/n=4\/n=8) (w:World):CB 312 #[.agg #[.i n,.bool s],.u x] w (.u (if s then aq (8*n) x else x)):=by
 refine cn (args:=[.agg #[.i n,.bool s],.u x]) (S:=Bs w [(#[.i n,.bool s],179)]) [(#[.i n,.bool s],179)] func312 ?_;cases s with
 | false=>exact bm (t:=4) (v:=.u x) Bs.eng {} 40 (Bs.start _ _) λa h=>⟨rfl,h.2⟩
 | true =>have b:IntKind.i64.wrap (8*(n:Int))=((8*n:Nat):Int):=(by rcases hn with rfl | rfl | rfl | rfl<;>rfl);exact bm (t:=4) (v:=.u (aq (8*n) x)) Bs.eng {eq:=[(10,ei .i64 b)],cv:=[(11,mj λW _=>io x (8*n) al al W)]} 40 (Bs.start _ _) λa h=>⟨rfl,h.2⟩
end
def gh (n:Nat) (x:List Int):Bool:=decide (n=32)&&(x.getD 0 0==0)
theorem Cy (a:Option Addr) (n c:Nat) (x:List Int) (w:World) (hx:x.length=n) (hs:Sl .u64 w a x):CE 57 #[.slice a n c] w (.bool (gh n x)):=by
 by_cases h:n=32;·subst h;obtain ⟨b,f,rfl,m,g⟩:=hs 0 al;have F:Hid (gh 32 x=(x.getD 0 0==0)):=(by show _=_;unfold gh;simp);have j:w.cell? ⟨b,f,none⟩=some (.u (x.getD 0 0)):=g;generalize gh 32 x=V at *;generalize x.getD 0 0=y at *;clear hs hx g;go_enter func57,ntmps57;exact a0a
 ·have F:Hid (gh n x=false):=(by show _=_;unfold gh;rw [decide_eq_false h];rfl);have d:((n:Int)==32)=false:=a7;generalize gh n x=V at *;clear hs hx h;go_enter func57,ntmps57;exact a0a
def kB (M:MV):Bool:=bits .and .u64 (M.cs.getD 9 0) 2184==cU M.d
def gY (M:MV):Bool:=(bits .and .u64 M.pc 3==0)&&gh M.x.length M.x&&aQ M.cs.length M.cs M.pr&&be M.ram.length&&kq M.d.xs.length M.d.ys.length M.d.ir&&(M.hl||(M.hd==0))&&kB M
theorem pE {n:Nat} {l:List Int} {p:Int} (h:aQ n l p=true):n=22:=by unfold aQ bf at h;simp only [Bool.and_eq_true,decide_eq_true_eq] at h;exact h.1.1
theorem pF (M:MV) (A:MA) (w:World) (hl:jF M) (hs:uO w M A):CB 22 #[.agg (aO M A)] w (.bool (gY M)):=by
 have s:=λW g=>Cy A.ax M.x.length A.cx _ W rfl (hs.x.below g);have r:=λW g=>u6 A.ac M.cs.length A.cc _ M.pr W rfl (hs.cs.below g);have L:=λW (_:Bw w W)=>uR A.ar M.ram.length A.cr W hl.ram;have K:=λW (_:Bw w W)=>u2 M.d.t M.d.cm M.d.so A.ai M.d.xs.length A.ci A.ao M.d.ys.length A.co M.d.ir W hl.xs hl.ys;have N:=λW (_:Bw w W)=>rg M.d.t M.d.cm M.d.so A.ai M.d.xs.length A.ci A.ao M.d.ys.length A.co M.d.ir W hl.xs;unfold gY kB;generalize q:(bits .and .u64 M.pc 3==0)=o;generalize gh M.x.length M.x=p at *;generalize H:aQ M.cs.length M.cs M.pr=u at *;generalize be M.ram.length=y at *;generalize kq M.d.xs.length M.d.ys.length M.d.ir=z at *;generalize I:(M.hd==0)=B;generalize J:(bits .and .u64 (M.cs.getD 9 0) 2184==cU M.d)=C;cases u with
 | false =>
   refine cn (S:=Bs w [(aO M A,32)]) [(aO M A,32)] func22 ?_;cases o;case' true=>cases p
   all_goals exact bm (t:=2) (v:=.bool false) Bs.eng {eq:=[(6,au q)],cv:=[(10,mj s),(17,mj r)]} 300 (Bs.start _ _) (λm h=>⟨bc,h.2⟩)
 | true =>
   have G:=pE H;obtain ⟨E,F,f,i,j⟩:=hs.cs 9 al;obtain ⟨pc,x,l,b,a,d,k,c,n⟩:=M;dsimp only at *;refine cn (S:=Bs w [(aO ⟨pc,x,l,b,a,d,k,c,n⟩ A,32)]) [(aO ⟨pc,x,l,b,a,d,k,c,n⟩ A,32)] func22 ?_;have D:∀ W,Bs w [(aO ⟨pc,x,l,b,a,d,k,c,n⟩ A,32)] W->W.cell? ⟨E,F+9,none⟩=some (.u (b.getD 9 0)):=λW h=>(h.2.cell (by exact i)).trans j;cases o;case' true =>cases p;case' true =>cases y;case' true =>cases z;case' true=>cases c<;>cases B<;>cases C
   all_goals exact bm (t:=2) (v:=.bool _) Bs.eng {eq:=[(6,au q),(35,au I),(47,au J)],ov:=[(41,qY b.length A.cc .i64 9 f al underlying23 a3),(42,kR _ _ underlying22 rfl D)],cv:=[(10,mj s),(17,mj r),(22,mj L),(27,gB K),(46,gB N)]} 300 (Bs.start _ _) (λm h=>⟨rfl,h.2⟩)
inductive CK where
 | plain (b:Int) | mst | mie | mip | satp | cfg | addr (e:Nat)
def CK.ty:CK->Nat
 | .plain _=>203 | .mst=>201 | .mie=>204 | .mip=>205 | .satp=>206 | .cfg=>207 | .addr _=>209
def CK.val:CK->Value
 | .plain b=>.agg #[.u b] | .mst=>.agg #[] | .mie=>.agg #[] | .mip=>.agg #[] | .satp=>.agg #[] | .cfg=>.agg #[] | .addr e=>.agg #[.i e]
def Pe:List (Int × CK):=[(768,.mst),(770,.plain 46079),(771,.plain 546),(772,.mie),(773,.plain 18446744073709551613),(832,.plain 18446744073709551615),(833,.plain 18446744073709551612),(834,.plain 9223372036854775823),
 (835,.plain 18446744073709551615),(836,.mip),(261,.plain 18446744073709551613),(320,.plain 18446744073709551615),(321,.plain 18446744073709551612),(322,.plain 9223372036854775823),(323,.plain 18446744073709551615),(384,.satp),
 (928,.cfg),(944,.addr 0),(945,.addr 1),(946,.addr 2),(947,.addr 3),(2818,.plain 18446744073709551615)]
def xP (r:Int × CK):List Value:=[.i r.1,.iface r.2.ty r.2.val]
def fM:Array Value:=(Pe.flatMap xP).toArray
def pG:Array Value:=(List.replicate 22 [Value.int .i64 0,.nilIface]).flatten.toArray
theorem xQ:pG.size=44:=by kernel_rfl
theorem lB:fM.size=44:=by kernel_rfl
theorem xR:(prog.info? 127).bind (·.zero)=some (.agg pG):=by kernel_rfl
theorem xS:fM.all (·.oneCell')=true:=by kernel_rfl
theorem pH:(prog.info? 127).map (·.size)=some 44:=by kernel_rfl
def mI (P:Program):List Oper->Act->Option Act
 | [],a=>some a
 | o::l,a =>
   match o.guard,o.op with
   | none,.build t parts =>
     match P.built t (parts.map λ(i,x)=>(i,a.eval x)).toList with
     | some cells=>mI P l (a.put o.dst (.agg cells))
     | none=>none
   | none,.makeInterface t x=>if P.concrete t=true then mI P l (a.put o.dst (.iface t (a.eval x))) else none
   | _,_=>none
theorem tM {P:Program} {b:Array Oper} {Q:Exit->Act->World->Prop} {w:World}:∀ (l rest:List Oper) (a c:Act),mI P l a=some c->wpList P b Q rest c w->wpList P b Q (l++rest) a w:=by
 intro l;induction l with
 | nil=>intro rest a c h d;simp [mI] at h;subst h;exact d
 | cons o l i =>
   intro rest a c h d;unfold mI at h;split at h
   ·rename_i t parts f g;split at h;·rename_i cells e;exact wpList_buildTo f t parts g o.dst rfl cells e (i _ _ _ h d)
    ·cases h
   ·rename_i t x f g;split at h;·rename_i e;exact mx f o.dst rfl (.iface t (a.eval x)) (by simp [execOp,g,run_makeInterface w t _ e]) (i _ _ _ h d)
    ·cases h
   ·cases h
theorem qx {P:Program} {c:Array Oper} {Q:Exit->Act->World->Prop} {w:World} {l:List Oper} {a:Act} (n s t:Nat) (v x:Value) (h:(mI P (l.take n) a).map (λb=>(b.tmps.getD s undef,b.tmps.getD t undef,b.defers))=some (v,x,[])) (hr:∀ b:Act,b.tmps.getD s undef=v->b.tmps.getD t undef=x->b.defers=[]->wpList P c Q (l.drop n) b w):wpList P c Q l a w:=by
 rw [<- List.take_append_drop n l];cases d:mI P (l.take n) a with
 | none=>rw [d] at h;cases h
 | some b =>rw [d] at h;simp only [Option.map_some,Option.some.injEq,Prod.mk.injEq] at h;exact tM _ _ _ _ d (hr b h.1 h.2.1 h.2.2)
theorem zW (w:World):CB 105 #[] w (.agg fM):=by go_enter func105,ntmps105;apply wp_seq_k;intro c b;apply wp_region_list;refine cy rfl 127 rfl (some 0) rfl _ xR ?_;apply wpList_nil;refine b _ _ ?_;clear b c;apply wp_seq_k;intro c b;apply wp_region_lit;refine qx 67 0 67 (.p w.heap.size 0) (.agg fM) a3 ?_;intro m f d j;have g:(w.alloc (.cells (Value.agg pG).cells 127)).heap[w.heap.size]?=some (.cells pG 127 (0,0)):=heap_alloc_new _ _;refine wpList_store_rowTo rfl 127 (.tmp 0) (.tmp 67) rfl rfl w.heap.size fM f d 127 pG g (by rw [pH,lB]) (by rw [xQ,lB]) xS ?_;apply wpList_nil;refine b _ _ ?_;clear b c;apply wp_ret;refine bodyPost_ret (results_cell_row results105 _ _ _ _ _ _ _ f (setRow_heap _ _ _ _ _ _ g) underlying127 rfl (by rw [pH,lB])) j ⟨rfl,?_⟩;exact aD (bal _ _) (Nat.le_refl _) _
theorem ob (w:World):Calls prog 105 #[] w λe a=>∃ T,e=.returned T/\Hid (T=.agg fM)/\Bw w a :=
 (zW w).mono λe a h=>⟨.agg fM,h.1,(rfl:Value.agg fM=.agg fM),h.2⟩
theorem xU:Pe.length=22:=by rfl
def fC (k:Nat):Int × CK:=Pe.getD k (0,.mst)
theorem IR (k:Nat) (h:k<22):Pe[k]'(by rw [xU];exact h)=fC k:=by simp [fC,List.getD,List.getElem?_eq_getElem (show k<Pe.length by rw [xU];exact h)]
theorem vg (k:Nat) (h:k<22):fM.extract (k*2) (k*2+2)=(xP (fC k)).toArray:=by have:=qo xP 2 Pe (by intro x _;rfl) k (by rw [xU];exact h);rw [IR k h] at this;rw [<- this];simp [fM]
theorem Cz (w:World) (kk:IntKind) (k:Nat) (hk:k<22):(Instr.index 127 (.agg fM) (.int kk (k:Int))).run prog w=.ok (.agg #[.i (fC k).1,.iface (fC k).2.ty (fC k).2.val]) w:=by
 have f:(sizeOf 126).run prog w=.ok 2 w:=by
  obtain ⟨g,e,a⟩:∃ i,prog.info? 126=some i/\i.size=2:=by
   have h:(prog.info? 126).map (·.size)=some 2:=a3;cases b:prog.info? 126 with
   | none=>rw [b] at h;cases h
   | some i=>rw [b] at h;exact ⟨i,rfl,dn⟩
  simp [sizeOf,typeInfo,e,a]
 have c:(isAgg 126).run prog w=.ok true w:=by simp [isAgg,run_underlying underlying126]
 have d:(0:Int)<=(k:Int)/\(k:Int)<((22:Nat):Int):=al
 unfold Instr.index;simp only [asIntOf,Sem.run_bind,Sem.run_pure,Result.andThen_ok,run_underlying underlying127];rw [if_pos d];simp only [Sem.run_bind,f,Result.andThen_ok,part,c,Int.toNat_natCast,if_true,Sem.run_pure];rw [vg k hk];rfl
theorem gu {c:Array Oper} {rest:List Oper} {o:Oper} {a:Act} {w:World} {Q:Exit->Act->World->Prop} {T:Value} (e:Hid (T=.agg fM)) (kk:IntKind) (k:Nat) (hk:k<22) (r:Int × CK) (hr:Hid (r=fC k)) (f:o.guard=none) (x i:Operand) (j:o.op=.index 127 x i) (hx:a.eval x=T) (g:a.eval i=.int kk (k:Int)) (h:wpList prog c Q rest (a.put o.dst (.agg #[.i r.1,.iface r.2.ty r.2.val])) w):wpList prog c Q (o::rest) a w:=by
 refine wpList_plain f λK d=>?_;have b:(execOp a.eval o).run prog w=.ok (.value (.agg #[.i r.1,.iface r.2.ty r.2.val])) w:=by simp [execOp,j,hx,g,e.out,hr.out,Cz w kk k hk]
 unfold Oper.wp;rw [b,Oper.upon_value];exact d _ _ h
def gI (x:Int):Bool:=(cI x 60 4==0)||(cI x 60 4==8)
def zX (x:Int) (k:Nat):Int:=if (bits .and .u64 (bits .and .u64 (cI x (8*k) 8) 159) 1==0)=true then bits .andNot .u64 (bits .and .u64 (cI x (8*k) 8) 159) 2 else bits .and .u64 (cI x (8*k) 8) 159
def oO (x:Int):Nat->Int
 | 0=>0
 | k+1=>bits .or .u64 (oO x k) (Uz.wrap (zX x k*2^(8*k)))
def gC:CK->Int->Int
 | .plain b,x=>bits .and .u64 x b
 | .mst,x=>if (bits .and .u64 x 6144==4096)=true then bits .andNot .u64 (bits .and .u64 x 924074) 6144 else bits .and .u64 x 924074
 | .mie,x=>bits .and .u64 x 2730
 | .mip,x=>bits .and .u64 x 2730
 | .satp,x=>if gI x=true then x else 0
 | .cfg,x=>oO x 4
 | .addr _,x=>bits .and .u64 x 18014398509481983
def fs (c:Int) (e:Nat):Bool:=(bits .and .u64 (cI c (8*e) 8) 128 != 0)
def fN (c:Int) (e:Nat):Int:=cI c (8*e+3) 2
def gj (c:Int):Nat->Int
 | 0=>0
 | k+1=>if fs c k=true then bits .or .u64 (gj c k) (Uz.wrap (255*2^(8*k))) else gj c k
def iU (c:Int):CK->Int->Int
 | .mip,_=>2184
 | .satp,x=>if gI x=true then 0 else 18446744073709551615
 | .cfg,_=>gj c 4
 | .addr e,_=>if (fs c e||(fs c (e+1)&&(fN c (e+1)==1)))=true then 18446744073709551615 else 0
 | _,_=>0
def CK.fitF:CK->Nat
 | .plain _=>315 | .mst=>313 | .mie=>316 | .mip=>318 | .satp=>321 | .cfg=>324 | .addr _=>327
def CK.staysF:CK->Nat
 | .mip=>319 | .satp=>322 | .cfg=>325 | .addr _=>328 | _=>0
def CK.viewF:CK->Nat
 | .mst=>314 | .mie=>317 | .mip=>320 | _=>0
theorem nO (x:Int) (g:0<=x) (j:x<18446744073709551616) (w:World):Calls prog 323 #[.u x] w λe c=>e=.returned (.bool (gI x))/\c=w.drew:=by
 have d:Hid (∀ w,Calls prog 66 #[.u x,.i 60,.i 4] w λe c=>e=.returned (.u (cI x 60 4))/\c=w.drew):=λw=>bn x 60 4 g j al al w;have F:Hid (gI x=((cI x 60 4==0)||(cI x 60 4==8))):=(rfl:gI x=_);generalize cI x 60 4=y at *;cases f:(y==0) with
 | true =>rw [f] at F;go_enter func323,ntmps323;go_wp2_with fail;refine (d.out _).mono ?_;rintro e l ⟨rfl,b⟩;exact a0d
 | false =>rw [f] at F;go_enter func323,ntmps323;go_wp2_with fail;refine (d.out _).mono ?_;rintro e l ⟨rfl,b⟩;exact a0d
theorem nP (x:Int) (k:Nat) (hk:k<5) (g:0<=x) (j:x<18446744073709551616) (w:World):Calls prog 108 #[.u x,.i k] w λe c=>e=.returned (.u (cI x (8*k) 8))/\c=w.drew:=by
 obtain ⟨q,d⟩:∃ q,8*k=q:=⟨_,rfl⟩;have l:wrap64 (8*(k:Int))=(q:Int):=by unfold wrap64;omega
 rw [d];have f:Hid (∀ w,Calls prog 66 #[.u x,.i q,.i 8] w λe c=>e=.returned (.u (cI x q 8))/\c=w.drew):=λw=>bn x q 8 g j al al w;clear d hk;generalize cI x q 8=y at *;go_enter func108,ntmps108;go_wp2_with fail;refine (f.out _).mono ?_;rintro e m ⟨rfl,b⟩;subst b;exact a02
theorem pI (x:Int) (k:Nat) (hk:k<5) (l:0<=x) (m:x<18446744073709551616) (w:World):Calls prog 173 #[.u x,.i k] w λe f=>e=.returned (.u (fN x k))/\f=w.drew:=by
 obtain ⟨q,g⟩:∃ q,8*k+3=q:=⟨_,rfl⟩;obtain ⟨b,c⟩:∃ b,8*k=b:=⟨_,rfl⟩;have p:wrap64 (8*(k:Int))=(b:Int):=by unfold wrap64;omega
 have o:wrap64 ((b:Int)+3)=(q:Int):=by unfold wrap64;omega
 unfold fN;rw [g];have j:Hid (∀ w,Calls prog 66 #[.u x,.i q,.i 2] w λe f=>e=.returned (.u (cI x q 2))/\f=w.drew):=λw=>bn x q 2 l m al al w;clear g c hk;generalize cI x q 2=y at *;go_enter func173,ntmps173;go_wp2_with fail;refine (j.out _).mono ?_;rintro e r ⟨rfl,d⟩;subst d;exact a02
theorem lC (x:Int) (k:Nat) (hk:k<5) (f:0<=x) (g:x<18446744073709551616) (w:World):Calls prog 326 #[.u x,.i k] w λe c=>e=.returned (.bool (fs x k))/\c=w.drew:=by have d:Hid (∀ w,Calls prog 108 #[.u x,.i k] w λe c=>e=.returned (.u (cI x (8*k) 8))/\c=w.drew):=λw=>nP x k hk f g w;have F:Hid (fs x k=(bits .and .u64 (cI x (8*k) 8) 128 != 0)):=(rfl:fs x k=_);generalize cI x (8*k) 8=q at *;go_enter func326,ntmps326;go_wp2_with fail;refine (d.out _).mono ?_;rintro e j ⟨rfl,b⟩;exact a0d
theorem FY (b x:Int) (w:World):CB 315 #[.agg #[.u b],.u x] w (.u (bits .and .u64 x b)):=by go_enter func315,ntmps315;go_wp2_with fail;go_ret;exact ⟨rfl,bal _ _⟩
theorem IS (e:Nat) (x:Int) (w:World):CB 327 #[.agg #[.i e],.u x] w (.u (bits .and .u64 x 18014398509481983)):=by go_enter func327,ntmps327;go_wp2_with fail;go_ret;exact ⟨rfl,bal _ _⟩
theorem LL (x:Int) (w:World):CB 316 #[.agg #[],.u x] w (.u (bits .and .u64 x 2730)):=by go_enter func316,ntmps316;go_wp2_with fail;go_ret;exact ⟨rfl,by go_grown⟩
theorem LO (x:Int) (w:World):CB 318 #[.agg #[],.u x] w (.u (bits .and .u64 x 2730)):=by go_enter func318,ntmps318;go_wp2_with fail;go_ret;exact ⟨rfl,by go_grown⟩
theorem LP (x:Int) (w:World):CB 313 #[.agg #[],.u x] w (.u (gC .mst x)):=by
 have b:gC .mst x=if (bits .and .u64 x 6144==4096)=true then bits .andNot .u64 (bits .and .u64 x 924074) 6144 else bits .and .u64 x 924074:=rfl
 cases d:(bits .and .u64 x 6144==4096) with
 | true =>rw [if_pos d] at b;have F:Hid (gC .mst x=bits .andNot .u64 (bits .and .u64 x 924074) 6144):=b;clear b;go_enter func313,ntmps313;go_wp2_with fail;go_ret;exact ⟨a6,by go_grown⟩
 | false =>rw [if_neg (by rw [d];decide)] at b;have F:Hid (gC .mst x=bits .and .u64 x 924074):=b;clear b;go_enter func313,ntmps313;go_wp2_with fail;go_ret;exact ⟨a6,by go_grown⟩
theorem IT (x:Int) (j:0<=x) (l:x<18446744073709551616) (w:World):CB 321 #[.agg #[],.u x] w (.u (gC .satp x)):=by
 have f:Hid (∀ w,Calls prog 323 #[.u x] w λe g=>e=.returned (.bool (gI x))/\g=w.drew):=λw=>nO x j l w;have c:gC .satp x=if gI x=true then x else 0:=rfl
 cases d:gI x with
 | true =>rw [if_pos d] at c;rw [d] at f;have F:Hid (gC .satp x=x):=c;clear c;go_enter func321,ntmps321;go_wp2_with fail;refine (f.out _).mono ?_;rintro e m ⟨rfl,b⟩;subst b;go_wp2_with fail;go_ret;exact ⟨a6,by go_grown⟩
 | false =>rw [if_neg (by rw [d];decide)] at c;rw [d] at f;have F:Hid (gC .satp x=0):=c;clear c;go_enter func321,ntmps321;go_wp2_with fail;refine (f.out _).mono ?_;rintro e m ⟨rfl,b⟩;subst b;go_wp2_with fail;go_ret;exact ⟨a6,by go_grown⟩
theorem LQ (x:Int) (D:0<=x) (E:x<18446744073709551616) (w:World):CB 324 #[.agg #[],.u x] w (.u (gC .cfg x)):=by
 have C:Hid (∀ k:Nat,k<5->∀ w,Calls prog 108 #[.u x,.i k] w λe m=>e=.returned (.u (cI x (8*k) 8))/\m=w.drew):=λk u w=>nP x k u D E w;have B:Hid (gC .cfg x=oO x 4):=(rfl:gC .cfg x=_);go_enter func324,ntmps324;go_wp2_with fail;go_loopw [5,8] (λy i wr=>∃ k:Nat,k<=4/\i=.i k/\y=.u (oO x k)/\Bw w wr)
  (λ_ i _=>4-(intOf i).toNat)
 case atStart=>exact ⟨0,al,rfl,rfl,by go_grown⟩
 case round =>
  obtain ⟨k,u,rfl,rfl,c⟩:=hrel;by_cases H:k<4
  ·have f:oO x (k+1)=bits .or .u64 (oO x k) (Uz.wrap (zX x k*2^(8*k))):=rfl;unfold zX at f;have g:=C.out k al;generalize cI x (8*k) 8=z at *;obtain ⟨q,o⟩:∃ q,8*k=q:=⟨_,rfl⟩;have J:wrap64 (8*(k:Int))=(q:Int):=la;have A:q<64:=al;rw [o] at f;have d:decide ((k:Int)<4)=true:=a7;obtain ⟨b,G⟩:∃ b,bits .and .u64 z 159=b:=⟨_,rfl⟩;obtain ⟨y,p⟩:∃ y,y=oO x k:=⟨_,rfl⟩;rw [G,<- p] at f;rw [<- p];cases t:(bits .and .u64 b 1==0) with
   | true =>
     rw [if_pos t] at f;have F:Hid (oO x (k+1)=bits .or .u64 y (Uz.wrap (bits .andNot .u64 b 2*2^q))):=f;have j:Hid (∀ w,Calls prog 108 #[.u x,.i k] w λe m=>e=.returned (.u z)/\m=w.drew):=g;have r:Hid (8*k=q):=o;clear f p g o;go_wp2_with fail;refine (j.out _).mono ?_;rintro e I ⟨rfl,l⟩;subst l;go_wp2_with fail;go_roundw;case rel=>exact ⟨k+1,al,by go_num,by rw [F.out,r.out],c.drew⟩
     case measure=>simp [intOf];omega
   | false =>
     rw [if_neg (by rw [t];decide)] at f;have F:Hid (oO x (k+1)=bits .or .u64 y (Uz.wrap (b*2^q))):=f;have j:Hid (∀ w,Calls prog 108 #[.u x,.i k] w λe m=>e=.returned (.u z)/\m=w.drew):=g;have r:Hid (8*k=q):=o;clear f p g o;go_wp2_with fail;refine (j.out _).mono ?_;rintro e I ⟨rfl,l⟩;subst l;go_wp2_with fail;go_roundw;case rel=>exact ⟨k+1,al,by go_num,by rw [F.out,r.out],c.drew⟩
     case measure=>simp [intOf];omega
  ·have s:k=4:=al;subst s;generalize oO x 4=y at *;go_wp2_with fail;go_ret;exact ⟨by rw [B.out];rfl,c⟩
theorem D8 (k:CK) (x:Int) (a:0<=x) (c:x<18446744073709551616) (w:World):CB k.fitF #[k.val,.u x] w (.u (gC k x)):=by
 cases k with
 | plain b=>exact FY b x w
 | mst=>exact LP x w
 | mie=>exact LL x w
 | mip=>exact LO x w
 | satp=>exact IT x a c w
 | cfg=>exact LQ x a c w
 | addr e=>exact IS e x w
theorem FZ (a:Option Addr) (cap:Nat) (x:Int) (w:World):CB 319 #[.agg #[],.slice a 22 cap,.u x] w (.u 2184):=by go_enter func319,ntmps319;go_wp2_with fail;go_ret;exact ⟨rfl,by go_grown⟩
theorem CC (a:Option Addr) (cap:Nat) (c x:Int) (l:0<=x) (m:x<18446744073709551616) (w:World):CB 322 #[.agg #[],.slice a 22 cap,.u x] w (.u (iU c .satp x)):=by
 have g:Hid (∀ w,Calls prog 323 #[.u x] w λe j=>e=.returned (.bool (gI x))/\j=w.drew):=λw=>nO x l m w;have f:iU c .satp x=if gI x=true then 0 else 18446744073709551615:=rfl
 cases d:gI x with
 | true =>rw [if_pos d] at f;rw [d] at g;have F:Hid (iU c .satp x=0):=f;clear f;go_enter func322,ntmps322;go_wp2_with fail;refine (g.out _).mono ?_;rintro e o ⟨rfl,b⟩;subst b;go_wp2_with fail;go_ret;exact ⟨a6,by go_grown⟩
 | false =>rw [if_neg (by rw [d];decide)] at f;rw [d] at g;have F:Hid (iU c .satp x=18446744073709551615):=f;clear f;go_enter func322,ntmps322;go_wp2_with fail;refine (g.out _).mono ?_;rintro e o ⟨rfl,b⟩;subst b;go_wp2_with fail;go_ret;exact ⟨a6,by go_grown⟩
theorem F4 (a:Option Addr) (cap:Nat) (l:List Int) (x:Int) (w:World) (hz:l.length=22) (hs:Sl .u64 w a l) (hl:∀ j,0<=l.getD j 0/\l.getD j 0<18446744073709551616):CB 325 #[.agg #[],.slice a 22 cap,.u x] w (.u (iU (l.getD 16 0) .cfg x)):=by
 obtain ⟨J,B,rfl,u,z⟩:=hs 16 al;have E:=hl 16;have G:Hid (iU (l.getD 16 0) .cfg x=gj (l.getD 16 0) 4):=(rfl:iU (l.getD 16 0) .cfg x=_);generalize l.getD 16 0=c at *;have H:Hid (∀ k:Nat,k<5->∀ w,Calls prog 326 #[.u c,.i k] w λe r=>e=.returned (.bool (fs c k))/\r=w.drew):=λk C w=>lC c k C E.1 E.2 w;clear hs hl hz;go_enter func325,ntmps325;go_wp2_with fail;go_loopw [7,9] (λy i wr=>∃ k:Nat,k<=4/\i=.i k/\y=.u (gj c k)/\Bw w wr)
  (λ_ i _=>4-(intOf i).toNat)
 case atStart=>exact ⟨0,al,rfl,rfl,by go_grown⟩
 case round =>
  obtain ⟨k,C,rfl,rfl,b⟩:=hrel;by_cases L:k<4
  ·have m:gj c (k+1)=if fs c k=true then bits .or .u64 (gj c k) (Uz.wrap (255*2^(8*k))) else gj c k:=rfl
   have f:=H.out k al;have K:wr.cell? ⟨J,B+16,none⟩=some (.u c):=(b.cell (by exact u)).trans z;obtain ⟨q,s⟩:∃ q,8*k=q:=⟨_,rfl⟩;have N:wrap64 (8*(k:Int))=(q:Int):=la;have D:q<64:=al;rw [s] at m;have d:decide ((k:Int)<4)=true:=a7;obtain ⟨y,t⟩:∃ y,y=gj c k:=⟨_,rfl⟩;rw [<- t] at m;rw [<- t];cases g:fs c k with
   | true =>
     rw [if_pos g] at m;rw [g] at f;have F:Hid (gj c (k+1)=bits .or .u64 y (Uz.wrap (255*2^q))):=m;have o:Hid (∀ w,Calls prog 326 #[.u c,.i k] w λe r=>e=.returned (.bool true)/\r=w.drew):=f;have I:Hid (8*k=q):=s;clear m t f s z g;go_wp2_with fail;refine (o.out _).mono ?_;rintro e M ⟨rfl,p⟩;subst p;go_wp2_with fail;go_roundw;case rel=>exact ⟨k+1,al,by go_num,by rw [F.out,I.out],b.drew⟩
     case measure=>simp [intOf];omega
   | false =>
     rw [if_neg (by rw [g];decide)] at m;rw [g] at f;have F:Hid (gj c (k+1)=y):=m;have o:Hid (∀ w,Calls prog 326 #[.u c,.i k] w λe r=>e=.returned (.bool false)/\r=w.drew):=f;clear m t f s z g;go_wp2_with fail;refine (o.out _).mono ?_;rintro e M ⟨rfl,p⟩;subst p;go_wp2_with fail;go_roundw;case rel=>exact ⟨k+1,al,by go_num,by rw [F.out],b.drew⟩
     case measure=>simp [intOf];omega
  ·have A:k=4:=al;subst A;generalize gj c 4=y at *;go_wp2_with fail;go_ret;exact ⟨by rw [G.out];rfl,b⟩
theorem CD (f:Nat) (D:f<4) (a:Option Addr) (cap:Nat) (l:List Int) (x:Int) (w:World) (hz:l.length=22) (hs:Sl .u64 w a l) (hl:∀ j,0<=l.getD j 0/\l.getD j 0<18446744073709551616):CB 328 #[.agg #[.i f],.slice a 22 cap,.u x] w (.u (iU (l.getD 16 0) (.addr f) x)):=by
 obtain ⟨C,A,rfl,z,t⟩:=hs 16 al;have s:=hl 16;have H:∀ o,(w.alloc o).cell? ⟨C,A+16,none⟩=some (.u (l.getD 16 0)):=λo=>(((Below.refl w.heap.size w).alloc (Nat.le_refl _) o).cell (by exact z)).trans t;have m:iU (l.getD 16 0) (.addr f) x=if (fs (l.getD 16 0) f||(fs (l.getD 16 0) (f+1)&&(fN (l.getD 16 0) (f+1)==1)))=true then 18446744073709551615 else 0:=rfl
 generalize l.getD 16 0=c at *;have u:Hid (∀ w,Calls prog 326 #[.u c,.i f] w λe q=>e=.returned (.bool (fs c f))/\q=w.drew):=λw=>lC c f al s.1 s.2 w;have y:Hid (∀ w,Calls prog 326 #[.u c,.i ((f:Int)+1)] w λe q=>e=.returned (.bool (fs c (f+1)))/\q=w.drew):=λw=>lC c (f+1) al s.1 s.2 w;have B:Hid (∀ w,Calls prog 173 #[.u c,.i ((f:Int)+1)] w λe q=>e=.returned (.u (fN c (f+1)))/\q=w.drew):=λw=>pI c (f+1) al s.1 s.2 w;generalize iU c (.addr f) x=g at *;generalize fs c f=E at *;generalize fs c (f+1)=G at *;generalize fN c (f+1)=r at *;clear hs hl hz t;cases E with
 | true =>have F:Hid (g=18446744073709551615):=(by show g=_;rw [m];rfl);clear m;go_enter func328,ntmps328;go_wp2_with fail;refine (u.out _).mono ?_;rintro e p ⟨rfl,b⟩;subst b;go_wp2_with fail;go_ret;exact ⟨a6,by go_grown⟩
 | false =>
   cases G with
   | false =>have F:Hid (g=0):=(by show g=_;rw [m];rfl);clear m;go_enter func328,ntmps328;go_wp2_with fail;refine (u.out _).mono ?_;rintro e p ⟨rfl,b⟩;subst b;go_wp2_with fail;refine (y.out _).mono ?_;rintro e p ⟨rfl,b⟩;subst b;go_wp2_with fail;go_ret;exact ⟨a6,by go_grown⟩
   | true =>
     cases d:(r==1) with
     | true =>have F:Hid (g=18446744073709551615):=(by show g=_;rw [m,d];rfl);clear m;go_enter func328,ntmps328;go_wp2_with fail;refine (u.out _).mono ?_;rintro e p ⟨rfl,b⟩;subst b;go_wp2_with fail;refine (y.out _).mono ?_;rintro e p ⟨rfl,b⟩;subst b;go_wp2_with fail;refine (B.out _).mono ?_;rintro e p ⟨rfl,b⟩;subst b;go_wp2_with fail;go_ret;exact ⟨a6,by go_grown⟩
     | false =>have F:Hid (g=0):=(by show g=_;rw [m,d];rfl);clear m;go_enter func328,ntmps328;go_wp2_with fail;refine (u.out _).mono ?_;rintro e p ⟨rfl,b⟩;subst b;go_wp2_with fail;refine (y.out _).mono ?_;rintro e p ⟨rfl,b⟩;subst b;go_wp2_with fail;refine (B.out _).mono ?_;rintro e p ⟨rfl,b⟩;subst b;go_wp2_with fail;go_ret;exact ⟨a6,by go_grown⟩
def CK.sees:CK->Bool
 | .mst=>true | .mie=>true | .mip=>true | _=>false
def CK.holds:CK->Bool
 | .mip=>true | .satp=>true | .cfg=>true | .addr _=>true | _=>false
def mU:CK->Int
 | .mst=>256 | .mie=>260 | .mip=>324 | _=>0
def tN (m:Int):CK->Int
 | .mst=>786722 | .mie=>m | .mip=>m | _=>0
def tO (m:Int):CK->Int
 | .mst=>786722 | .mie=>m | .mip=>bits .and .u64 m 2 | _=>0
theorem IU (k:CK) (hk:k.sees=true) (m:Int) (w:World):CB k.viewF #[k.val,.u m] w (.agg #[.i (mU k),.u (tN m k),.u (tO m k)]):=by
 cases k with
 | plain b=>cases hk
 | satp=>cases hk
 | cfg=>cases hk
 | addr e=>cases hk
 | mst =>simp only [CK.viewF,CK.val,mU,tN,tO];go_enter func314,ntmps314;go_wp2_with fail;go_returns;exact ⟨rfl,by go_grown⟩
 | mie =>simp only [CK.viewF,CK.val,mU,tN,tO];go_enter func317,ntmps317;go_wp2_with fail;go_returns;exact ⟨rfl,by go_grown⟩
 | mip =>simp only [CK.viewF,CK.val,mU,tN,tO];go_enter func320,ntmps320;go_wp2_with fail;go_returns;exact ⟨rfl,by go_grown⟩
def dh (l:List Int):Nat->Nat->Bool
 | 0,_=>true
 | n+1,k=>(gC (fC k).2 (l.getD k 0)==l.getD k 0)&&dh l n (k+1)
def iV (n:Nat) (l:List Int):Bool:=decide (n=22)&&dh l 22 0
theorem xV (l:List Int) (k:Nat) (hk:k<22) (h:(gC (fC k).2 (l.getD k 0)==l.getD k 0)=true):dh l (22-k) k=dh l (22-(k+1)) (k+1):=by rw [show 22-k=(22-(k+1))+1 from al,dh,h,Bool.true_and]
theorem zY (l:List Int) (k:Nat) (hk:k<22) (h:(gC (fC k).2 (l.getD k 0)==l.getD k 0)=false):dh l (22-k) k=false:=by rw [show 22-k=(22-(k+1))+1 from al,dh,h,Bool.false_and]
theorem wj (k:CK) (w:World):(method 425 k.ty k.val "loop.example/g00134/impl.fit").run prog w=.ok (k.fitF,k.val) w:=by cases k<;>kernel_rfl
theorem pJ {n:Nat} (h:(prog.funcs[n]?).map (λa=>(a.name == "runtime.NumGoroutine",a.body.isSome))=some (false,true)) (args:Array Value) (w:World):(callFunc n args).run prog w=.ok (.enter n args) w:=by
 cases b:prog.funcs[n]? with
 | none=>rw [b] at h;cases h
 | some a =>rw [b] at h;simp only [Option.map_some,Option.some.injEq,Prod.mk.injEq] at h;have d:a.name≠ "runtime.NumGoroutine":=(by simpa using h.1);obtain ⟨c,e⟩:=Option.isSome_iff_exists.mp h.2;simp [callFunc,b,d,e,mark]
theorem tP (k:CK):(prog.funcs[k.fitF]?).map (λa=>(a.name == "runtime.NumGoroutine",a.body.isSome))=some (false,true):=by cases k<;>kernel_rfl
theorem F5 (k:CK) (x:Int) (c:0<=x) (d:x<18446744073709551616) (w:World) (p q:Addr) (u v:Value) (a:w.cell? p=some u/\w.cell? q=some v) :
 Calls prog k.fitF #[k.val,.u x] w λe b=>e=.returned (.u (gC k x))/\Bw w b/\b.cell? p=some u/\b.cell? q=some v :=
 (D8 k x c d w).mono λe b h=>⟨h.1,h.2,(h.2.cell (World.block_lt_of_cell? _ _ a.1)).trans a.1,(h.2.cell (World.block_lt_of_cell? _ _ a.2)).trans a.2⟩
theorem kC (a:Option Addr) (n cap:Nat) (l:List Int) (w:World) (hz:l.length=n) (hs:Sl .u64 w a l) (hl:∀ j,0<=l.getD j 0/\l.getD j 0<18446744073709551616):CB 62 #[.slice a n cap] w (.bool (iV n l)):=by
 by_cases D:n=22
 ·have q:iV n l=dh l 22 0:=(by simp [iV,D]);rw [q];have N:Hid (l.length=n):=hz;have L:Hid (∀ j,0<=l.getD j 0/\l.getD j 0<18446744073709551616):=hl;subst D;clear hz q hl;go_enter func62,ntmps62;go_wp2_with fail;refine (ob _).mono ?_;rintro e w1 ⟨T,rfl,M,P⟩;go_wp2_with fail;go_loopw [9] (λi wr=>∃ k:Nat,k<=22/\i=.i k/\Hid (dh l (22-k) k=dh l 22 0)/\Bw w wr)
   (λi _=>22-(intOf i).toNat)
  case atStart=>exact ⟨0,al,rfl,(rfl:dh l (22-0) 0=dh l 22 0),P⟩
  case round =>
   obtain ⟨k,Y,rfl,B,c⟩:=hrel;by_cases g:k<22
   ·obtain ⟨b,m,rfl,A,Q⟩:=hs k (by rw [N.out];exact g);have J:=L.out k;obtain ⟨r,t⟩:∃ r,r=fC k:=⟨_,rfl⟩;have HR:Hid (r=fC k):=t;have o:(gC r.2 (l.getD k 0)==l.getD k 0)=true->Hid (dh l (22-(k+1)) (k+1)=dh l 22 0):=λh=>(xV l k g (by rw [<- t];exact h)).symm.trans B.out;have I:(gC r.2 (l.getD k 0)==l.getD k 0)=false->Hid (dh l 22 0=false):=λh=>B.out.symm.trans (zY l k g (by rw [<- t];exact h));have f:Hid ((gC r.2 (l.getD k 0)==l.getD k 0)=true->Hid (dh l (22-(k+1)) (k+1)=dh l 22 0)):=o;have s:Hid ((gC r.2 (l.getD k 0)==l.getD k 0)=false->Hid (dh l 22 0=false)):=I;clear t o I;have X:decide ((k:Int)<22)=true:=a7;have S:(0:Int)<=(k:Int):=al;have U:(k:Int)<22:=al;have V:=wj r.2;have O:=pJ (tP r.2);have R:wr.cell? ⟨b,m+k,none⟩=some (.u (l.getD k 0)):=(c.cell (by exact A)).trans Q;generalize l.getD k 0=x at *;go_wp2_with (first | refine gu M .i64 k g r HR rfl (.tmp 8) (.tmp 9) rfl rfl rfl ?_);go_region_held3 (λu=>u.cell? ⟨wr.heap.size,1,none⟩=some (.iface r.2.ty r.2.val)/\u.cell? ⟨b,m+k,none⟩=some (.u x)) (go_keep) (first | (refine (F5 r.2 x J.1 J.2 _ ⟨wr.heap.size,1,none⟩ ⟨b,m+k,none⟩ (.iface r.2.ty r.2.val) (.u x) ?_).mono ?_;(first | assumption | (simp [*]));rintro e W ⟨rfl,p,E,G⟩));have H:Hid (Bw w W):=(by show Below _ _ _;refine aa (w1:=(wr.alloc (Obj.cells #[.i r.1,.iface r.2.ty r.2.val] 126)).drew) ?_ p;exact (c.alloc c.size _).drew);clear p E G V O;obtain ⟨y,K⟩:∃ y,gC r.2 x=y:=⟨_,rfl⟩;rw [K] at f s ⊢;clear K;cases d:(y==x) with
    | true =>
      have F:=f.out d;have z:(y != x)=false:=(by simp [bne,d]);clear f s d;rw [z];go_wp2_with fail;go_roundw;case rel=>exact ⟨k+1,al,by go_num,F,H.out⟩
      case measure=>simp [intOf];omega
    | false =>have F:=s.out d;have z:(y != x)=true:=(by simp [bne,d]);clear f s d;rw [z];go_wp2_with fail;go_ret;exact ⟨a6,H.out⟩
   ·have C:k=22:=al;subst C;have F:Hid (dh l 22 0=true):=B.out.symm;go_wp2_with fail;go_ret;exact ⟨a6,c⟩
 ·have F:Hid (iV n l=false):=(by show _=_;simp [iV,D]);have d:((n:Int) != 22)=true:=a7;clear hz hs;go_enter func62,ntmps62;exact a0c
end Go.Proofs.YtjifdmoehfbihaaGreatDoor
