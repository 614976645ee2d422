/- Own lemmas. -/
import Derived.Test.YtlidafnochnddaaGreatDoorAut
import Derived.Test.YtlidafnochnddaaGreatDoorK15
import Derived.Test.YtlidafnochnddaaGreatDoorK19H
import Derived.Test.YtlidafnochnddaaGreatDoorK17
set_option maxRecDepth 100000
set_option maxHeartbeats 6400000
namespace Go.Proofs.YtlidafnochnddaaGreatDoor
open Go.RowKit Tryz
open IntKind renaming u64->Uz
open Below renaming refl->M7
open Go renaming Calls->F3,wpList_store_rowTo->G3,bodyPost_ret->H1,World->H2,results_tmp2->H3,heap_alloc_new->H5,results_none->H8,bodyPost_end->I4,Addr->I5,setRow_heap->K0,Value->K1,setRow_other->K4,Operand->L4,cell_of_row->L5
open IntKind renaming wrap_u64->N1
open List renaming mem_singleton->A0,not_mem_nil->A5,replicate->A6,mem_cons->F0
open Nat renaming le_refl->M5
open Region renaming wanted->P2
open Value renaming agg->L6,int->L7
set_option linter.unusedVariables false
variable {w a:H2} {b A M:Nat} {x:MV} {B:MA} {r:TV} {k:Oper} {g:Act} {n:Act->H2->Prop} {o:Exit->Act->H2->Prop} {f:Nat->Option Bool} {W:FRow} (D c:MV) (j:MA) (l:Int) (m s K:Nat) (Q R d p:Int) (y:List Int) (z:DV) (E J:Bool) (L:H2)
theorem ry (c:0<=l) (d:l<18446744073709551616) (f:0<=Q) (g:Q<18446744073709551616) (w:H2):CE 257 #[.u l,.u Q] w (.u (MF.smin.v l Q)):=by
 have a:=jB c d;have m:=jB f g;have e:IntKind.u64.wrap (min (RowKit.wrap64 l) (RowKit.wrap64 Q))=MF.smin.v l Q:=by
  by_cases h:(RowKit.wrap64 Q)<(RowKit.wrap64 l)
  ·rw [show MF.smin.v l Q=Q from if_pos h,show min (RowKit.wrap64 l) (RowKit.wrap64 Q)=(RowKit.wrap64 Q) by omega];exact m
  ·rw [show MF.smin.v l Q=l from if_neg h,show min (RowKit.wrap64 l) (RowKit.wrap64 Q)=(RowKit.wrap64 l) by omega];exact a
 go_enter func257,ntmps257;go_wp2_with fail;go_ret;exact ⟨rfl,rfl⟩
theorem qA (c:0<=l) (d:l<18446744073709551616) (f:0<=Q) (g:Q<18446744073709551616) (w:H2):CE 258 #[.u l,.u Q] w (.u (MF.smax.v l Q)):=by
 have a:=jB c d;have m:=jB f g;have e:IntKind.u64.wrap (max (RowKit.wrap64 l) (RowKit.wrap64 Q))=MF.smax.v l Q:=by
  by_cases h:(RowKit.wrap64 l)<(RowKit.wrap64 Q)
  ·rw [show MF.smax.v l Q=Q from if_pos h,show max (RowKit.wrap64 l) (RowKit.wrap64 Q)=(RowKit.wrap64 Q) by omega];exact m
  ·rw [show MF.smax.v l Q=l from if_neg h,show max (RowKit.wrap64 l) (RowKit.wrap64 Q)=(RowKit.wrap64 l) by omega];exact a
 go_enter func258,ntmps258;go_wp2_with fail;go_ret;exact ⟨rfl,rfl⟩
theorem vg (c:0<=l) (d:l<18446744073709551616) (f:0<=Q) (g:Q<18446744073709551616) (w:H2):CE 259 #[.u l,.u Q] w (.u (MF.umin.v l Q)):=by
 have a:=jB c d;have m:=jB f g;have e:min l Q=MF.umin.v l Q:=by
  by_cases h:Q<l
  ·rw [show MF.umin.v l Q=Q from if_pos h,show min l Q=Q by omega]
  ·rw [show MF.umin.v l Q=l from if_neg h,show min l Q=l by omega]
 go_enter func259,ntmps259;go_wp2_with fail;go_ret;exact ⟨rfl,rfl⟩
theorem sP (c:0<=l) (d:l<18446744073709551616) (f:0<=Q) (g:Q<18446744073709551616) (w:H2):CE 260 #[.u l,.u Q] w (.u (MF.umax.v l Q)):=by
 have a:=jB c d;have m:=jB f g;have e:max l Q=MF.umax.v l Q:=by
  by_cases h:l<Q
  ·rw [show MF.umax.v l Q=Q from if_pos h,show max l Q=Q by omega]
  ·rw [show MF.umax.v l Q=l from if_neg h,show max l Q=l by omega]
 go_enter func260,ntmps260;go_wp2_with fail;go_ret;exact ⟨rfl,rfl⟩
def MF.fn:MF->Nat
 | .second=>256
 | .sum=>234
 | .xor=>237
 | .and=>239
 | .or=>238
 | .smin=>257
 | .smax=>258
 | .umin=>259
 | .umax=>260
theorem MF.calls (f:MF) (a b:Int) (c:0<=a) (d:a<18446744073709551616) (g:0<=b) (h:b<18446744073709551616) (w:H2):F3 prog f.fn #[.u a,.u b] w λe i=>e=.returned (.u (f.v a b))/\∃ m,i=w.drewN m:=by
 cases f;·exact aM (yY a b w)
 ·exact aM (xo a b w)
 ·exact aM (xp a b w)
 ·exact aM (xq a b w)
 ·exact aM (Bc a b w)
 ·exact aM (ry a b c d g h w)
 ·exact aM (qA a b c d g h w)
 ·exact aM (vg a b c d g h w)
 ·exact aM (sP a b c d g h w)
theorem MF.enters (f:MF):(prog.funcs[f.fn]?).map (λa=>(a.name == "runtime.NumGoroutine",a.body.isSome))=some (false,true):=by cases f<;>kernel_rfl
def amoCells:Array Value:=(Tc.map λf=>Value.func (.func f.fn) #[] #[]).toArray
def cU:Array Value:=(A6 9 Value.nilFunc).toArray
theorem gt:cU.size=9:=by kernel_rfl
theorem bN:amoCells.size=9:=by kernel_rfl
theorem gu:(prog.info? 321).bind (·.zero)=some (.agg cU):=by kernel_rfl
theorem gv:amoCells.all (·.oneCell'):=by kernel_rfl
theorem fq:(prog.info? 321).map (·.size)=some 9:=by kernel_rfl
theorem sp (h:m<9):amoCells[m]?=some (.func (.func (sM m).fn) #[] #[]):=by
 match m,h with
 | 0,_=>rfl
 | 1,_=>rfl
 | 2,_=>rfl
 | 3,_=>rfl
 | 4,_=>rfl
 | 5,_=>rfl
 | 6,_=>rfl
 | 7,_=>rfl
 | 8,_=>rfl
 | m+9,h=>exact absurd h aa
theorem Bm:CB 223 #[] L (.agg amoCells):=by go_enter func223,ntmps223;apply wp_seq_k;intro c b;apply wp_region_list;refine bL rfl 321 rfl (some 0) rfl _ gu ?_;apply wpList_nil;refine b _ _ ?_;clear b c;apply wp_seq_k;intro c b;apply wp_region_lit;refine jH 10 0 10 (.p L.heap.size 0) (.agg amoCells) ab ?_;intro m f d j;have g:(L.alloc (.cells (L6 cU).cells 321)).heap[L.heap.size]?=some (.cells cU 321 (0,0)):=H5 _ _;refine G3 rfl 321 (.tmp 0) (.tmp 10) rfl rfl L.heap.size amoCells f d 321 cU g (by rw [fq,bN]) (by rw [gt,bN]) gv ?_;apply wpList_nil;refine b _ _ ?_;clear b c;apply wp_ret;refine H1 (results_cell_row results223 _ _ _ _ _ _ _ f (K0 _ _ _ _ _ _ g) underlying321 rfl (by rw [fq,bN])) j ⟨rfl,?_⟩;exact ay (bal _ _) (M5 _) _
theorem l8:F3 prog 223 #[] L λe a=>∃ T,e=.returned T/\Hid (T=.agg amoCells)/\Bw L a :=
 (Bm L).mono λe a h=>⟨.agg amoCells,h.1,(rfl:L6 amoCells=.agg amoCells),h.2⟩
theorem zh (hk:m<9) (a b:Int) (s:0<=a) (t:a<18446744073709551616) (u:0<=b) (y:b<18446744073709551616) (f:MF) (A:Hid (sM m=f)) (w:H2): CB 207 #[.i ((m:Int)+76),.u a,.u b] w (.tuple #[.u (f.v a b),.bool true]):=by
 have B:wrap64 ((m:Int)+76-76)=m:=by unfold wrap64;omega
 have E:decide (76<=(m:Int)+76):=by simp;omega
 have F:decide ((m:Int)<9):=by simp;omega
 have z:=l5 f.enters;go_enter func207,ntmps207;go_wp2_with fail;refine (l8 _).mono ?_;rintro e d ⟨T,rfl,r,l⟩;have o:(d.alloc (.cells (L6 cU).cells 321)).heap[d.heap.size]?=some (.cells cU 321 (0,0)):=H5 _ _;obtain ⟨g,c⟩:∃ g,g=(d.alloc (.cells (L6 cU).cells 321)).setRow d.heap.size amoCells:=⟨_,rfl⟩;have q:Hid (g.heap[d.heap.size]?=some (.cells amoCells 321 (0,0))):=by show _=_;rw [c];exact K0 _ _ _ _ _ _ o
 have p:Hid (Bw w g):=by show Below _ _ _;rw [c];exact ay (l.alloc l.size _) l.size _
 have j:Hid (g=(d.alloc (.cells (L6 cU).cells 321)).setRow d.heap.size amoCells):=c;clear c;have D:g.cell? ⟨d.heap.size,m,none⟩=some (.func (.func f.fn) #[] #[]):=by rw [L5 _ _ _ _ _ _ q.out,sp m hk,A.out]
 go_wp2_with (first | refine bL rfl 321 rfl (some 8) rfl _ gu ?_ | (refine G3 rfl 321 (.tmp 8) (.tmp 10) rfl rfl d.heap.size amoCells rfl r.out 321 cU o (by rw [fq,bN]) (by rw [gt,bN]) gv ?_;rw [<- j.out]));refine (MF.calls f a b s t u y _).mono ?_;rintro e G ⟨rfl,nq,k⟩;subst k;go_wp2_with fail;go_ret2;exact ⟨rfl,qy p.out _⟩
theorem Bo (hk:m<9) (a b:Int) (D:0<=a) (E:a<18446744073709551616) (F:0<=b) (G:b<18446744073709551616) (f:MF) (B:Hid (sM m=f)) (w:H2): CB 207 #[.i ((m:Int)+65),.u a,.u b] w (.tuple #[.u (f.v (aX 32 a) (aX 32 b)%4294967296),.bool true]):=by
 have C:wrap64 ((m:Int)+65-65)=m:=by unfold wrap64;omega
 have I:decide (76<=(m:Int)+65)=false:=by simp;omega
 have J:decide (65<=(m:Int)+65):=by simp;omega
 have K:decide ((m:Int)<9):=by simp;omega
 have L:0<=(m:Int)/\(m:Int)<((9:Nat):Int):=aa
 have A:=l5 f.enters;go_enter func207,ntmps207;go_wp2_with fail;refine (l8 _).mono ?_;rintro e d ⟨T,rfl,y,o⟩;have q:(d.alloc (.cells (L6 cU).cells 321)).heap[d.heap.size]?=some (.cells cU 321 (0,0)):=H5 _ _;obtain ⟨g,c⟩:∃ g,g=(d.alloc (.cells (L6 cU).cells 321)).setRow d.heap.size amoCells:=⟨_,rfl⟩;have u:Hid (g.heap[d.heap.size]?=some (.cells amoCells 321 (0,0))):=by show _=_;rw [c];exact K0 _ _ _ _ _ _ q
 have r:Hid (Bw w g):=by show Below _ _ _;rw [c];exact ay (o.alloc o.size _) o.size _
 have l:Hid (g=(d.alloc (.cells (L6 cU).cells 321)).setRow d.heap.size amoCells):=c;clear c;have H:g.cell? ⟨d.heap.size,m,none⟩=some (.func (.func f.fn) #[] #[]):=by rw [L5 _ _ _ _ _ _ u.out,sp m hk,B.out]
 go_wp2_with (first | refine bL rfl 321 rfl (some 8) rfl _ gu ?_ | (refine G3 rfl 321 (.tmp 8) (.tmp 10) rfl rfl d.heap.size amoCells rfl y.out 321 cU q (by rw [fq,bN]) (by rw [gt,bN]) gv ?_;rw [<- l.out]));have z:0<=f.v (aX 32 a) (aX 32 b):=f.pos (eQ a).1 (eQ a).2 (eQ b).1 (eQ b).2;have t:Hid (∀ (x:Int) (w:H2),F3 prog 224 #[.u x] w λe j=>e=.returned (.u (aX 32 x))/\∃ k,j=w.drewN k):=λx w=>aM (oU x w);have s:Hid (∀ w:H2,F3 prog f.fn #[.u (aX 32 a),.u (aX 32 b)] w λe j=>e=.returned (.u (f.v (aX 32 a) (aX 32 b)))/\∃ k,j=w.drewN k):=MF.calls f _ _ (eQ a).1 (eQ a).2 (eQ b).1 (eQ b).2;go_quiet (first | with_reducible refine Calls.quiet_of (t.out _ _) | with_reducible refine Calls.quiet_of (s.out _))
 go_wp2_with fail;refine (sg _ z _).mono ?_;rintro e M ⟨rfl,p⟩;subst p;go_wp2_with fail;go_ret2;exact ⟨rfl,qy r.out _⟩
theorem zi (p:(Lit.int .i64 l).wf) (h:yQ l=false) (w:H2): CB 207 #[.i l,.u Q,.u R] w (.tuple #[.u 0,.bool false]):=by
 have op:¬ (65<=l/\l<=73)/\¬ (76<=l/\l<=84):=by simpa [yQ] using h
 have r:=Kq p;clear p h;by_cases j:l<65;·have m:decide (76<=l)=false:=bb;have u:decide (65<=l)=false:=bb;clear j op;go_enter func207,ntmps207;go_wp2_with fail;refine (l8 _).mono ?_;rintro e d ⟨T,rfl,f,c⟩;have g:(d.alloc (.cells (L6 cU).cells 321)).heap[d.heap.size]?=some (.cells cU 321 (0,0)):=H5 _ _;go_wp2_with (first | refine bL rfl 321 rfl (some 8) rfl _ gu ?_ | (refine G3 rfl 321 (.tmp 8) (.tmp 10) rfl rfl d.heap.size amoCells rfl f.out 321 cU g (by rw [fq,bN]) (by rw [gt,bN]) gv ?_));exact sb
 ·have t:decide (65<=l):=bb;have A:wrap64 (l-65)=l-65:=bw;have y:decide (l-65<9)=false:=bb;by_cases o:l<76;·have m:decide (76<=l)=false:=bb;clear j op o;go_enter func207,ntmps207;go_wp2_with fail;refine (l8 _).mono ?_;rintro e d ⟨T,rfl,f,c⟩;have g:(d.alloc (.cells (L6 cU).cells 321)).heap[d.heap.size]?=some (.cells cU 321 (0,0)):=H5 _ _;go_wp2_with (first | refine bL rfl 321 rfl (some 8) rfl _ gu ?_ | (refine G3 rfl 321 (.tmp 8) (.tmp 10) rfl rfl d.heap.size amoCells rfl f.out 321 cU g (by rw [fq,bN]) (by rw [gt,bN]) gv ?_));go_ret2;exact ⟨rfl,ay (c.alloc c.size _) c.size _⟩
  ·have m:decide (76<=l):=bb;have q:wrap64 (l-76)=l-76:=bw;have z:decide (l-76<9)=false:=bb;clear j op o;go_enter func207,ntmps207;go_wp2_with fail;refine (l8 _).mono ?_;rintro e d ⟨T,rfl,f,c⟩;have g:(d.alloc (.cells (L6 cU).cells 321)).heap[d.heap.size]?=some (.cells cU 321 (0,0)):=H5 _ _;go_wp2_with (first | refine bL rfl 321 rfl (some 8) rfl _ gu ?_ | (refine G3 rfl 321 (.tmp 8) (.tmp 10) rfl rfl d.heap.size amoCells rfl f.out 321 cU g (by rw [fq,bN]) (by rw [gt,bN]) gv ?_));exact sb
theorem Bp (j:(Lit.int .i64 l).wf) (d:0<=Q) (f:Q<18446744073709551616) (g:0<=R) (i:R<18446744073709551616) (w:H2): CB 207 #[.i l,.u Q,.u R] w (.tuple #[.u (mL l Q R),.bool (yQ l)]):=by
 cases h:yQ l with
 | false=>rw [JR h];exact zi l Q R j h w
 | true =>
   obtain ⟨k,c,rfl|rfl⟩:=GM h;·rw [JQ c];exact zh k c Q R d f g i _ (rfl:sM k=sM k) w
   ·rw [MR c];exact Bo k c Q R d f g i _ (rfl:sM k=sM k) w
theorem vh (h:m<6):eS.drop m=eS.getD m 0::eS.drop (m+1):=by
 have e:m=0\/m=1\/m=2\/m=3\/m=4\/m=5:=aa
 rcases e with rfl|rfl|rfl|rfl|rfl|rfl<;>rfl
theorem KB:eS.getD m 0<64:=by
 by_cases h:m<6;·have e:m=0\/m=1\/m=2\/m=3\/m=4\/m=5:=aa;rcases e with rfl|rfl|rfl|rfl|rfl|rfl<;>decide
 ·have:eS.getD m 0=0:=by simp [eS,List.getD,List.getElem?_eq_none (show [11,3,7,9,1,5].length<=m by simp;omega)]
  omega
theorem He (h:m<6) (a:gi l (eS.drop m)=dA l) (hb:(bu l (eS.getD m 0)==1)):dA l=(eS.getD m 0:Nat):=by rw [<- a,vh m h,gi,hb]
theorem KD (h:m<6) (a:gi l (eS.drop m)=dA l) (hb:(bu l (eS.getD m 0)==1)=false):gi l (eS.drop (m+1))=dA l:=by rw [<- a,vh m h,gi,hb]
def gy:Array Value:=#[.i 11,.i 3,.i 7,.i 9,.i 1,.i 5]
theorem E7 {l:List Int} (h:Sl .u64 w (some ⟨b,A,none⟩) l) (k:Nat) (hk:k<l.length):b<w.heap.size/\w.cell? ⟨b,A+k,none⟩=some (.u (l.getD k 0)):=by obtain ⟨g,c,e,d,f⟩:=h k hk;simp only [Option.some.injEq,Addr.mk.injEq,and_true] at e;obtain ⟨rfl,rfl⟩:=e;exact ⟨d,f⟩
def vi (M:MV) (size kind:Int):Bool:=eW M&&jq size&&decide (1<=kind/\kind<=3)&&!((kind==1)&&(size != 4))
def tq (M:MV) (addr size kind x:Int):Int × MV × Int:=if vi M size kind=true then aT M addr size kind x else (0,au,99)
theorem cw:(aJ D j).all (·.oneCell'):=by unfold aJ;kernel_rfl
def OQ (w:H2) (r:Nat):World:=(w.setCell ⟨r,11,none⟩ (.u 0)).setCell ⟨r,12,none⟩ (.bool false)
theorem Mp.freeq (h:Mp b A x B w):Mp b A (ut x) B (OQ w A)/\Kx A (aU x B) (aU (ut x) B) w (OQ w A):=by refine ⟨⟨?_,Mp.fam_set (Mp.fam_set h.fam h.ne 11 _) h.ne 12 _,h.ne,h.lo⟩,(Kx.set w 11 _).trans (Kx.set _ 12 _)⟩;have a:=h.row;unfold aJ at a;exact bj (bj a 11 (.u 0)) 12 (.bool false)
def wo (A:MA) (a:Option I5) (c:Nat):MA:=⟨A.ax,A.cx,A.ac,A.cc,a,c,A.ai,A.ci,A.ao,A.co⟩
theorem Mp.ram {r:Nat} (h:Mp b r x B w) (hb:Bw w a) (R:List Int) (w':Option I5) (c:Nat) (l:a.ownsRow w.heap.size 5 1 (.slice w' R.length c) R.length (R.map (L7 .u8))):Mp b r (dc x R) (wo B w' c) (a.setCell ⟨r,4,none⟩ (.slice w' R.length c))/\Kx r (aU x B) (aU (dc x R) (wo B w' c)) w (a.setCell ⟨r,4,none⟩ (.slice w' R.length c)):=by
 have bZ:=h.lt;have p:b<=w.heap.size:=by have:=h.lo;omega
 have s:=h.fam.below hb;have o:bi b w.heap.size a ([aK B.ax x.x.length B.cx x.x,aK B.ac x.cs.length B.cc x.cs]++[aI B.ai x.d.xs.length B.ci x.d.xs,aI B.ao x.d.ys.length B.co x.d.ys]):=s.sub (by unfold aU;simp);have hF:bi b a.heap.size a (aU (dc x R) (wo B w' c)):=o.ins (q:=aI w' R.length c R) l p (M5 _) hb.size;have M:∀ q ∈ aU (dc x R) (wo B w' c),∀ k,q.v.ownBlock=some k->k<w.heap.size->∃ g ∈ aU x B,g.v.ownBlock=some k:=by
  intro q f k e j;simp only [aU,dc,wo,F0,A5,or_false] at f;rcases f with rfl|rfl|rfl|rfl|rfl;·exact ⟨aK B.ax x.x.length B.cx x.x,d5,e⟩
  ·exact ⟨aK B.ac x.cs.length B.cc x.cs,d5,e⟩
  ·have:=(l.lt k e).1;omega
  ·exact ⟨aI B.ai x.d.xs.length B.ci x.d.xs,d5,e⟩
  ·exact ⟨aI B.ao x.d.ys.length B.co x.d.ys,d5,e⟩
 have d:∀ q ∈ aU (dc x R) (wo B w' c),q.v.ownBlock≠some r:=λq f e=>by obtain ⟨g,n,m⟩:=M q f r e bZ;exact h.ne g n m
 have i:=aA hb h.row;unfold aJ at i;have t:Kx r (aU x B) (aU (dc x R) (wo B w' c)) w a:=⟨hb.os,hb.tape,hb.output,hb.size,λk j _ _=>hb.block k j,M⟩;exact ⟨⟨bj i 4 (.slice w' R.length c),Mp.fam_set hF d 4 _,d,h.lo⟩,t.trans (Kx.set a 4 _)⟩
theorem Nv (hm:Mp m s D j L) (r:∀ addr,Mp m s D j addr->F3 prog 267 #[.agg #[.u D.d.t,.u D.d.cm,.bool D.d.so,.slice j.ai D.d.xs.length j.ci,.slice j.ao D.d.ys.length j.co,.i D.d.ir],.u Q,.i R] addr λe A=>∃ (f:Option I5) (M:Nat) (g:Option I5) (l:Nat),e=.returned (.tuple #[.u d,.agg #[.u z.t,.u z.cm,.bool z.so,.slice f z.xs.length M,.slice g z.ys.length l,.i z.ir],.bool E])/\bi addr.heap.size A.heap.size A (oK f z.xs.length M z.xs g z.ys.length l z.ys)/\Bw addr A): F3 prog 233 #[.p s 5,.u Q,.i R] L λe addr=>e=.returned (.tuple #[.u d,.bool E])/\∃ J,Mp m s (if E=true then dg D z else D) J addr/\Kx s (aU D j) (aU (if E=true then dg D z else D) J) L addr:=by
 have p:=ah hm;have S:=ah r;obtain ⟨U,V,W,X,Y,K,w,N,O,P,t,is,F,G⟩:=br hm.row;clear hm r;go_enter func233,ntmps233;go_wp2_with fail;refine (S.out _ p.out).mono ?_;rintro e I ⟨f,M,g,l,rfl,u,c⟩;have y:=ah (ae c ((M7 _ _).alloc (M5 _) (.cells #[.u z.t,.u z.cm,.bool z.so,.slice f z.xs.length M,.slice g z.ys.length l,.i z.ir] 34 (0,0))));have T:Hid (Renew L (I.alloc (.cells #[.u z.t,.u z.cm,.bool z.so,.slice f z.xs.length M,.slice g z.ys.length l,.i z.ir] 34 (0,0))) j.ai j.ci D.d.xs j.ao j.co D.d.ys f M z.xs g l z.ys):=Renew.below (.inr (.inr (.inr u))) (bal _ _);have b:=aA c p.out.row;unfold aJ at b;have H:¬ s=I.heap.size:=by have h1:=p.out.lt;have h2:=c.size;omega
 have nb2:¬ I.heap.size=s:=λh=>H h.symm;clear U V W X Y K w N O P t is F G;have K:=λo=>(br (aB b o)).2.2.2.2.2.1;have w:=λo=>(br (aB b o)).2.2.2.2.2.2.1;have N:=λo=>(br (aB b o)).2.2.2.2.2.2.2.1;have O:=λo=>(br (aB b o)).2.2.2.2.2.2.2.2.1;have P:=λo=>(br (aB b o)).2.2.2.2.2.2.2.2.2.1;have t:=λo=>(br (aB b o)).2.2.2.2.2.2.2.2.2.2.1;have f5:=λo=>(fd (aB b o)).2.2.2.2.2.1;have f6:=λo=>(fd (aB b o)).2.2.2.2.2.2.1;have f7:=λo=>(fd (aB b o)).2.2.2.2.2.2.2.1;have f8:=λo=>(fd (aB b o)).2.2.2.2.2.2.2.2.1;have f9:=λo=>(fd (aB b o)).2.2.2.2.2.2.2.2.2.1;have Z:=λo=>(fd (aB b o)).2.2.2.2.2.2.2.2.2.2.1;clear c u b;cases E with
 | false =>go_wp2_with fail;refine H1 (H3 rfl _ _ _) rfl ?_;exact ⟨rfl,j,p.out.below y.out,Kx.of_below y.out⟩
 | true =>obtain ⟨B,q⟩:=p.out.dev y.out z T.out;have C:=ah B;have size:=ah q;clear B q;go_wp2_with fail;refine H1 (H3 rfl _ _ _) rfl ?_;exact ⟨rfl,pn j f M g l,C.out,size.out⟩
theorem Nw (hm:Mp m s D j L) (r:∀ size,Mp m s D j size->F3 prog 273 #[.agg #[.u D.d.t,.u D.d.cm,.bool D.d.so,.slice j.ai D.d.xs.length j.ci,.slice j.ao D.d.ys.length j.co,.i D.d.ir],.u Q,.i R,.u d] size λe A=>∃ (f:Option I5) (M:Nat) (g:Option I5) (l:Nat),e=.returned (.tuple #[.agg #[.u z.t,.u z.cm,.bool z.so,.slice f z.xs.length M,.slice g z.ys.length l,.i z.ir],.bool E])/\bi size.heap.size A.heap.size A (oK f z.xs.length M z.xs g z.ys.length l z.ys)/\Bw size A): F3 prog 265 #[.p s 5,.u Q,.i R,.u d] L λe size=>e=.returned (.bool E)/\∃ J,Mp m s (if E=true then dg D z else D) J size/\Kx s (aU D j) (aU (if E=true then dg D z else D) J) L size:=by
 have p:=ah hm;have addr:=ah r;obtain ⟨T,U,V,W,X,K,w,N,O,P,t,is,F,G⟩:=br hm.row;clear hm r;go_enter func265,ntmps265;go_wp2_with fail;refine (addr.out _ p.out).mono ?_;rintro e I ⟨f,M,g,l,rfl,u,c⟩;have y:=ah (ae c ((M7 _ _).alloc (M5 _) (.cells #[.u z.t,.u z.cm,.bool z.so,.slice f z.xs.length M,.slice g z.ys.length l,.i z.ir] 34 (0,0))));have S:Hid (Renew L (I.alloc (.cells #[.u z.t,.u z.cm,.bool z.so,.slice f z.xs.length M,.slice g z.ys.length l,.i z.ir] 34 (0,0))) j.ai j.ci D.d.xs j.ao j.co D.d.ys f M z.xs g l z.ys):=Renew.below (.inr (.inr (.inr u))) (bal _ _);have b:=aA c p.out.row;unfold aJ at b;have H:¬ s=I.heap.size:=by have h1:=p.out.lt;have h2:=c.size;omega
 have Z:¬ I.heap.size=s:=λh=>H h.symm;clear T U V W X K w N O P t is F G;have K:=λo=>(br (aB b o)).2.2.2.2.2.1;have w:=λo=>(br (aB b o)).2.2.2.2.2.2.1;have N:=λo=>(br (aB b o)).2.2.2.2.2.2.2.1;have O:=λo=>(br (aB b o)).2.2.2.2.2.2.2.2.1;have P:=λo=>(br (aB b o)).2.2.2.2.2.2.2.2.2.1;have t:=λo=>(br (aB b o)).2.2.2.2.2.2.2.2.2.2.1;have f5:=λo=>(fd (aB b o)).2.2.2.2.2.1;have f6:=λo=>(fd (aB b o)).2.2.2.2.2.2.1;have f7:=λo=>(fd (aB b o)).2.2.2.2.2.2.2.1;have f8:=λo=>(fd (aB b o)).2.2.2.2.2.2.2.2.1;have f9:=λo=>(fd (aB b o)).2.2.2.2.2.2.2.2.2.1;have Y:=λo=>(fd (aB b o)).2.2.2.2.2.2.2.2.2.2.1;clear c u b;cases E with
 | false =>go_wp2_with fail;go_ret;exact ⟨rfl,j,p.out.below y.out,Kx.of_below y.out⟩
 | true =>obtain ⟨B,q⟩:=p.out.dev y.out z S.out;have C:=ah B;have x:=ah q;clear B q;go_wp2_with fail;go_ret;exact ⟨rfl,pn j f M g l,C.out,x.out⟩
theorem KE (hm:Mp m s D j L) (c:(D.hl&&(Uz.wrap (Q.tdiv 8)==Uz.wrap (D.hd.tdiv 8)))=E): F3 prog 266 #[.p s 0,.u Q] L λe A=>e=.returned (.tuple #[])/\Mp m s (if E=true then ut D else D) j A/\Kx s (aU D j) (aU (if E=true then ut D else D) j) L A:=by
 have f:=ah hm;obtain ⟨y,z,C,M,hit,F,G,H,I,J,B,o,g,p⟩:=br hm.row;obtain ⟨K,w,N,O,P,pa,R,S,T,U,q,r,t,u⟩:=fd hm.row;clear hm;obtain ⟨l,d⟩:∃ b,b=D.hl:=⟨_,rfl⟩;rw [<- d] at g c;clear d;cases l with
 | false =>rw [Bool.false_and] at c;subst c;go_enter func266,ntmps266;go_wp2_with fail;refine I4 (H8 rfl _ _ _) rfl ?_;exact ⟨rfl,f.out,Kx.refl _ _ _⟩
 | true =>
   rw [Bool.true_and] at c;cases E with
   | false =>go_enter func266,ntmps266;go_wp2_with fail;refine I4 (H8 rfl _ _ _) rfl ?_;exact ⟨rfl,f.out,Kx.refl _ _ _⟩
   | true =>go_enter func266,ntmps266;go_wp2_with fail;refine I4 (H8 rfl _ _ _) rfl ?_;exact ⟨rfl,f.out.freeq.1,f.out.freeq.2⟩
theorem Qn (f t:MV->MV) (w:H2) (hm:Mp m s D j w) (hS:∀ r,Mp m s D j r->F3 prog 191 #[.slice j.ar D.ram.length j.cr,.u Q,.i R,.u d] r λe c=>∃ (is:Option I5) (K:Nat),e=.returned (.tuple #[.slice is y.length K,.bool E])/\c.ownsRow r.heap.size 5 1 (.slice is y.length K) y.length (y.map (L7 .u8))/\Bw r c) (hV:∀ r,Mp m s D j r->F3 prog 265 #[.p s 5,.u Q,.i R,.u d] r λe c=>e=.returned (.bool J)/\∃ b,Mp m s (if J=true then dg D z else D) b c/\Kx s (aU D j) (aU (if J=true then dg D z else D) b) r c) (hT:∀ (X:MV) (b:MA) r,Mp m s X b r->(X=dc D y\/X=dg D z)->F3 prog 47 #[.p s 0] r λe c=>e=.returned (.tuple #[])/\Mp m s (f X) b c/\Kx s (aU X b) (aU (f X) b) r c) (hG:∀ (X:MV) (b:MA) r,Mp m s X b r->(X=f (dc D y)\/X=f (dg D z))->F3 prog 266 #[.p s 0,.u Q] r λe c=>e=.returned (.tuple #[])/\Mp m s (t X) b c/\Kx s (aU X b) (aU (t X) b) r c): F3 prog 232 #[.p s 0,.u Q,.i R,.u d] w λe r=>e=.returned (.bool (E||J))/\∃ b,Mp m s (if E=true then t (f (dc D y)) else if J=true then t (f (dg D z)) else D) b r/\Kx s (aU D j) (aU (if E=true then t (f (dc D y)) else if J=true then t (f (dg D z)) else D) b) w r:=by
 have HM:=ah hm;have HS:=ah hS;have HV:=ah hV;have HTM:Hid (∀ (b:MA) r,Mp m s (dc D y) b r->F3 prog 47 #[.p s 0] r λe c=>e=.returned (.tuple #[])/\Mp m s (f (dc D y)) b c/\Kx s (aU (dc D y) b) (aU (f (dc D y)) b) r c):=λb r h=>hT _ b r h (.inl rfl);have HTD:Hid (∀ (b:MA) r,Mp m s (dg D z) b r->F3 prog 47 #[.p s 0] r λe c=>e=.returned (.tuple #[])/\Mp m s (f (dg D z)) b c/\Kx s (aU (dg D z) b) (aU (f (dg D z)) b) r c):=λb r h=>hT _ b r h (.inr rfl);have HGM:Hid (∀ (b:MA) r,Mp m s (f (dc D y)) b r->F3 prog 266 #[.p s 0,.u Q] r λe c=>e=.returned (.tuple #[])/\Mp m s (t (f (dc D y))) b c/\Kx s (aU (f (dc D y)) b) (aU (t (f (dc D y))) b) r c):=λb r h=>hG _ b r h (.inl rfl);have HGD:Hid (∀ (b:MA) r,Mp m s (f (dg D z)) b r->F3 prog 266 #[.p s 0,.u Q] r λe c=>e=.returned (.tuple #[])/\Mp m s (t (f (dg D z))) b c/\Kx s (aU (f (dg D z)) b) (aU (t (f (dg D z))) b) r c):=λb r h=>hG _ b r h (.inr rfl);obtain ⟨V,W,Y,Z,c4,c5,c6,c7,c8,c9,pa,size,C,x⟩:=br hm.row;clear hm hS hV hT hG;go_enter func232,ntmps232;go_wp2_with fail;refine (HS.out _ HM.out).mono ?_;rintro e w5 ⟨is,K,rfl,N,l⟩;have u:=ah (HM.out.below l);have KX5:=ah (Kx.of_below (r:=s) (L:=aU D j) l);cases E with
 | true =>obtain ⟨S,P⟩:=HM.out.ram l y is K N;have M:=ah S;have g:=ah P;clear V W Y Z c4 c5 c6 c7 c8 c9 pa size C x;obtain ⟨V,W,Y,Z,c4,c5,c6,c7,c8,c9,pa,size,C,x⟩:=br u.out.row;obtain ⟨f0,f1,f2,f3,f4,f5,f6,f7,f8,f9,f10,f11,f12,f13⟩:=fd u.out.row;clear S P N l;go_wp2_with fail;refine (HTM.out (wo j is K) _ M.out).mono ?_;rintro e w7 ⟨rfl,q,o⟩;have H:=ah q;have F:=ah ((g.out).trans o);clear q o;go_wp2_with fail;refine (HGM.out (wo j is K) _ H.out).mono ?_;rintro e w8 ⟨rfl,A,p⟩;have I:=ah A;have G:=ah (F.out.trans p);clear A p;go_wp2_with fail;go_ret;exact ⟨rfl,(wo j is K),I.out,G.out⟩
 | false =>
   clear N l;clear V W Y Z c4 c5 c6 c7 c8 c9 pa size C x;obtain ⟨V,W,Y,Z,c4,c5,c6,c7,c8,c9,pa,size,C,x⟩:=br u.out.row;go_wp2_with fail;refine (HV.out _ u.out).mono ?_;rintro e w6 ⟨rfl,b,U,T⟩;have M:=ah U;have g:=ah (KX5.out.trans T);clear U T;cases J with
   | false =>go_wp2_with fail;go_ret;exact ⟨rfl,b,M.out,g.out⟩
   | true =>have B:Hid (Mp m s (dg D z) b w6):=M.out;have O:Hid (Kx s (aU D j) (aU (dg D z) b) w w6):=g.out;clear M g;go_wp2_with fail;refine (HTD.out b _ B.out).mono ?_;rintro e w7 ⟨rfl,q,o⟩;have H:=ah q;have F:=ah ((O.out).trans o);clear q o;go_wp2_with fail;refine (HGD.out b _ H.out).mono ?_;rintro e w8 ⟨rfl,A,p⟩;have I:=ah A;have G:=ah (F.out.trans p);clear A p;go_wp2_with fail;go_ret;exact ⟨rfl,b,I.out,G.out⟩
theorem Nx (hm:Mp m s D j L) (o:∀ A,Mp m s D j A->F3 prog 232 #[.p s 0,.u Q,.i R,.u d] A λe g=>e=.returned (.bool E)/\∃ b,Mp m s c b g/\Kx s (aU D j) (aU c b) A g): F3 prog 220 #[.p s 0,.u Q,.i R,.i 3,.u d] L λe A=>e=.returned (.tuple #[.u 0,.bool E])/\∃ b,Mp m s c b A/\Kx s (aU D j) (aU c b) L A:=by have q:=ah hm;have r:=ah o;clear hm o;go_enter func220,ntmps220;go_wp2_with fail;refine (r.out _ q.out).mono ?_;rintro e t ⟨rfl,b,f,x⟩;have B:=ah f;have l:=ah x;clear f x;go_wp2_with fail;refine H1 (H3 rfl _ _ _) rfl ?_;exact ⟨rfl,b,B.out,l.out⟩
theorem Ny (w:H2) (hm:Mp m s D j w) (I:∀ f,Mp m s D j f->CB 185 #[.slice j.ar D.ram.length j.cr,.u Q,.i R] f (.tuple #[.u p,.bool E])): F3 prog 220 #[.p s 0,.u Q,.i R,.i 1,.u d] w λe f=>e=.returned (.tuple #[.u (if E=true then p else 0),.bool (E||false)])/\∃ q,Mp m s (if E=true then D else D) q f/\Kx s (aU D j) (aU (if E=true then D else D) q) w f:=by
 have r:=ah hm;have K:=ah I;obtain ⟨t,u,y,z,C,M,b,F,G,H,A,l,B,o⟩:=br hm.row;clear hm I;go_enter func220,ntmps220;go_wp2_with fail;refine (K.out _ r.out).mono ?_;rintro e N ⟨rfl,x⟩;have c:=ah (r.out.below x);have g:=ah (Kx.of_below (r:=s) (L:=aU D j) x);clear x;clear t u y z C M b F G H A l B o;obtain ⟨t,u,y,z,C,M,b,F,G,H,A,l,B,o⟩:=br c.out.row;cases E with
 | true =>go_wp2_with fail;refine H1 (H3 rfl _ _ _) rfl ?_;exact ⟨rfl,j,c.out,g.out⟩
 | false =>go_wp2_with fail;refine H1 (H3 rfl _ _ _) rfl ?_;exact ⟨rfl,j,c.out,g.out⟩
theorem Nz (M2 z:MV) (W:Int) (is:Bool) (w:H2) (hm:Mp m s D j w) (U:∀ b,Mp m s D j b->CB 185 #[.slice j.ar D.ram.length j.cr,.u Q,.i R] b (.tuple #[.u p,.bool E])) (T:∀ b,Mp m s D j b->F3 prog 233 #[.p s 5,.u Q,.i R] b λe c=>e=.returned (.tuple #[.u W,.bool is])/\∃ x,Mp m s M2 x c/\Kx s (aU D j) (aU M2 x) b c) (V:∀ (x:MA) b,Mp m s M2 x b->F3 prog 47 #[.p s 0] b λe c=>e=.returned (.tuple #[])/\Mp m s z x c/\Kx s (aU M2 x) (aU z x) b c): F3 prog 220 #[.p s 0,.u Q,.i R,.i 2,.u d] w λe b=>e=.returned (.tuple #[.u (if E=true then p else W),.bool (E||is)])/\∃ x,Mp m s (if E=true then D else z) x b/\Kx s (aU D j) (aU (if E=true then D else z) x) w b:=by
 have G:=ah hm;have Z:=ah U;have Y:=ah T;have HT:=ah V;clear T V;obtain ⟨H,I,J,K,N,O,P,pa,size,S,B,o,X,q⟩:=br hm.row;clear hm U;go_enter func220,ntmps220;go_wp2_with fail;refine (Z.out _ G.out).mono ?_;rintro e w5 ⟨rfl,A⟩;have g:=ah (G.out.below A);have l:=ah (Kx.of_below (r:=s) (L:=aU D j) A);clear A;clear H I J K N O P pa size S B o X q;obtain ⟨H,I,J,K,N,O,P,pa,size,S,B,o,X,q⟩:=br g.out.row;cases E with
 | true =>go_wp2_with fail;refine H1 (H3 rfl _ _ _) rfl ?_;exact ⟨rfl,j,g.out,l.out⟩
 | false =>go_wp2_with fail;refine (Y.out _ g.out).mono ?_;rintro e w6 ⟨rfl,x,u,r⟩;have f:=ah u;have C:=ah (l.out.trans r);clear u r;go_wp2_with fail;refine (HT.out x _ f.out).mono ?_;rintro e w7 ⟨rfl,y,t⟩;have F:=ah y;have M:=ah (C.out.trans t);clear y t;go_wp2_with fail;refine H1 (H3 rfl _ _ _) rfl ?_;exact ⟨rfl,x,F.out,M.out⟩
theorem fI (hk:l=1\/l=2\/l=3) (w:H2):CE 203 #[.i l] w (.i (if l=1 then 0 else if l=2 then 4 else 6)):=by
 rcases hk with rfl|rfl|rfl;·go_enter func203,ntmps203;exact oj
 ·go_enter func203,ntmps203;exact oj
 ·go_enter func203,ntmps203;exact oj
theorem mS (hk:l=1\/l=2\/l=3) (w:H2):CE 147 #[.i l] w (.i (if l=2 then 5 else if l=3 then 7 else 1)):=by
 rcases hk with rfl|rfl|rfl;·go_enter func147,ntmps147;exact oj
 ·go_enter func147,ntmps147;exact oj
 ·go_enter func147,ntmps147;exact oj
theorem E8 (op:BinOp) (a b:Int):0<=bits op .u64 a b/\bits op .u64 a b<18446744073709551616:=by have h:=Ii (wf_bits op .u64 a b);omega
def qB (t:TV) (tO:Int):TV:=if aG tO 1 1==1 then {t with up:=true,cz:=0,vl:=tO} else {t with nx:=tO}
theorem Bq {g y:Int} (h:fY ⟨A,aW x B r,[]⟩ w) (L:5<=r.op) (z:r.op<=10) (q:B.ax=some ⟨b,M,none⟩) (o:0<=r.ra/\r.ra<x.x.length) (C:0<=r.rb/\r.rb<x.x.length) (hb:b≠A) (hx:w.cell? ⟨b,M+r.ra.toNat,none⟩=some (.u g)) (E:w.cell? ⟨b,M+r.rb.toNat,none⟩=some (.u y)): F3 prog 172 #[.p A 0] w λe s=>e=.returned (.tuple #[])/\Iv [A] w [⟨A,aW x B (if Qj r.op g y then qB r (Uz.wrap (x.pc+Uz.wrap r.im)) else r),[]⟩] s:=by
 have t:∀ (p:I5) v,p.block=b->w.cell? p=some v->∀ W,Iv [A] w [⟨A,aW x B r,[]⟩] W->W.cell? p=some v:=λp v O J W c=>by rw [<- J];simp only [World.cell?,c.ag.block p.block (kI J) (by rw [O];simpa using hb)]
 obtain ⟨l,d⟩:∃ l,l=Uz.wrap (x.pc+Uz.wrap r.im):=⟨_,rfl⟩;have F:(r.op==4)=false:=by simp;omega
 have G:(r.op==3)=false:=by simp;omega
 have H:Rx r.op:=by simp [Rx,L,z]
 rw [<- d];obtain ⟨I,f⟩:∃ I,Qj r.op g y=I:=⟨_,rfl⟩;rw [f];refine bE (args:=[.p A 0]) (Iv [A] w [⟨A,aW x B r,[]⟩]) func172 ?_;refine aY 0 1 ?_;cases I with
 | false =>refine lu Iv.eng {eq:=[(19,aD F),(21,aD G),(46,aD f)],cv:=[(11,vE λW c=>sa c.row1),(42,vE λW c=>JU c.row1 q o hb (t _ _ rfl hx W c)),(44,vE λW c=>Sm c.row1 q C hb (t _ _ rfl E W c)),(45,jF Iv.below λW _=>jR r.op g y H W)]} 200 (Iv.one h) λs a N _=>⟨_,H8 rfl _ _ _,rfl,N⟩
 | true =>
   have i:0<=l:=(by rw [d,N1];omega);have j:l<18446744073709551616:=(by rw [d,N1];omega);rw [JZ8 rfl];unfold qB;obtain ⟨u,n⟩:∃ u,(aG l 1 1==1)=u:=⟨_,rfl⟩;rw [n];cases u with
   | true =>refine bF Iv.eng {eq:=[(12,ed .u64 d.symm),(19,aD F),(21,aD G),(46,aD f),(52,aD n)],cv:=[(11,vE λW c=>sa c.row1),(42,vE λW c=>JU c.row1 q o hb (t _ _ rfl hx W c)),(44,vE λW c=>Sm c.row1 q C hb (t _ _ rfl E W c)),(45,jF Iv.below λW _=>jR r.op g y H W),(51,jF Iv.below λW _=>(aL l 1 1 i j ba ba W).mono λe s k=>⟨k.1,by rw [k.2];exact (M7 _ _).drew⟩),(54,Ek λW _=>fI 1 (.inl rfl) W)]} 200 (Iv.one h) (λW c=>jm 0 l c.row1) λW e s c D=>⟨_,0,D.1,jw ab,?_⟩;refine bO (λ_=>True) ?_;exact ot (Iv.one D.2.row1) {} 40 λK m=>⟨rfl,(c.then1 D.2).then1 m⟩
   | false =>refine ak Iv.eng {eq:=[(12,ed .u64 d.symm),(19,aD F),(21,aD G),(46,aD f),(52,aD n)],cv:=[(11,vE λW c=>sa c.row1),(42,vE λW c=>JU c.row1 q o hb (t _ _ rfl hx W c)),(44,vE λW c=>Sm c.row1 q C hb (t _ _ rfl E W c)),(45,jF Iv.below λW _=>jR r.op g y H W),(51,jF Iv.below λW _=>(aL l 1 1 i j ba ba W).mono λe s k=>⟨k.1,by rw [k.2];exact (M7 _ _).drew⟩)]} 200 (Iv.one h) λW c=>?_;refine bO (λ_=>True) ?_;exact eZ (Iv.one c.row1) {} 40 λK m=>⟨rfl,c.then1 m⟩
theorem Hf (h:fY ⟨b,aW x B r,[]⟩ w) (l:r.op=3): F3 prog 172 #[.p b 0] w λe p=>e=.returned (.tuple #[])/\Iv [b] w [⟨b,aW x B (qB {r with rs:=r.nx} (Uz.wrap (x.pc+Uz.wrap r.im))),[]⟩] p:=by
 obtain ⟨f,a⟩:∃ f,f=Uz.wrap (x.pc+Uz.wrap r.im):=⟨_,rfl⟩;have s:(r.op==4)=false:=by simp;omega
 have u:(r.op==3):=by simp;omega
 have j:0<=f:=by rw [a,N1];omega
 have k:f<18446744073709551616:=by rw [a,N1];omega
 rw [<- a];refine bE (args:=[.p b 0]) (Iv [b] w [⟨b,aW x B r,[]⟩]) func172 ?_;refine aY 0 1 ?_;refine ak Iv.eng {eq:=[(12,ed .u64 a.symm),(19,aD s),(21,aD u)],cv:=[(11,vE λW g=>sa g.row1)]} 200 (Iv.one h) λW g=>?_;refine bO (λ_=>True) ?_;refine fQ (R1:=[⟨b,aW x B {r with rs:=r.nx},[]⟩]) (Iv.one g.row1) {} 40 (λn o=>aL f 1 1 j k ba ba n) λn e t o i=>⟨_,0,i.1,?_⟩;have l:Iv [b] w [⟨b,aW x B {r with rs:=r.nx},[]⟩] t:=(g.then1 o).below (by rw [i.2];exact (M7 _ _).drew);unfold qB;obtain ⟨m,d⟩:∃ m,(aG f 1 1==1)=m:=⟨_,rfl⟩;rw [d];cases m with
 | true =>refine bO (Iv [b] w [⟨b,aW x B {r with rs:=r.nx},[]⟩]) ?_;refine bF Iv.eng {eq:=[(52,aD d)],cv:=[(54,Ek λW _=>fI 1 (.inl rfl) W)]} 200 l (λW g=>jm 0 f g.row1) λW e p g i=>⟨_,0,i.1,jw ab,?_⟩;refine bO (λ_=>True) ?_;exact ot (Iv.one i.2.row1) {} 40 λq c=>⟨rfl,(g.then1 i.2).then1 c⟩
 | false =>exact eZ (Iv.one l.row1) {eq:=[(52,aD d)]} 60 λq c=>⟨rfl,l.then1 c⟩
theorem KF {g:Int} (h:fY ⟨A,aW x B r,[]⟩ w) (G:r.op=4) (o:B.ax=some ⟨b,M,none⟩) (D:0<=r.ra/\r.ra<x.x.length) (hb:b≠A) (hx:w.cell? ⟨b,M+r.ra.toNat,none⟩=some (.u g)): F3 prog 172 #[.p A 0] w λe u=>e=.returned (.tuple #[])/\Iv [A] w [⟨A,aW x B (qB {r with rs:=r.nx} (bits .andNot .u64 (Uz.wrap (g+Uz.wrap r.im)) 1)),[]⟩] u:=by
 obtain ⟨i,c⟩:∃ i,i=bits .andNot .u64 (Uz.wrap (g+Uz.wrap r.im)) 1:=⟨_,rfl⟩;have F:(r.op==4):=by simp;omega
 have C:∀ (p:I5) v,p.block=b->w.cell? p=some v->∀ W,Iv [A] w [⟨A,aW x B r,[]⟩] W->W.cell? p=some v:=λp v E s W a=>by rw [<- s];simp only [World.cell?,a.ag.block p.block (kI s) (by rw [E];simpa using hb)]
 have k:0<=i:=by rw [c];exact (E8 _ _ _).1
 have l:i<18446744073709551616:=by rw [c];exact (E8 _ _ _).2
 rw [<- c];refine bE (args:=[.p A 0]) (Iv [A] w [⟨A,aW x B r,[]⟩]) func172 ?_;refine aY 0 1 ?_;refine ak Iv.eng {eq:=[(27,ed .u64 c.symm),(19,aD F)],cv:=[(11,vE λW a=>sa a.row1),(23,vE λW a=>JU a.row1 o D hb (C _ _ rfl hx W a)),(25,vE λW a=>sa a.row1)]} 200 (Iv.one h) λW a=>?_;refine bO (λ_=>True) ?_;refine fQ (R1:=[⟨A,aW x B {r with rs:=r.nx},[]⟩]) (Iv.one a.row1) {} 40 (λq t=>aL i 1 1 k l ba ba q) λq e z t j=>⟨_,0,j.1,?_⟩;have n:Iv [A] w [⟨A,aW x B {r with rs:=r.nx},[]⟩] z:=(a.then1 t).below (by rw [j.2];exact (M7 _ _).drew);unfold qB;obtain ⟨m,f⟩:∃ m,(aG i 1 1==1)=m:=⟨_,rfl⟩;rw [f];cases m with
 | true =>refine bO (Iv [A] w [⟨A,aW x B {r with rs:=r.nx},[]⟩]) ?_;refine bF Iv.eng {eq:=[(52,aD f)],cv:=[(54,Ek λW _=>fI 1 (.inl rfl) W)]} 200 n (λW a=>jm 0 i a.row1) λW e u a j=>⟨_,0,j.1,jw ab,?_⟩;refine bO (λ_=>True) ?_;exact ot (Iv.one j.2.row1) {} 40 λy d=>⟨rfl,(a.then1 j.2).then1 d⟩
 | false =>exact eZ (Iv.one n.row1) {eq:=[(52,aD f)]} 60 λy d=>⟨rfl,n.then1 d⟩
inductive Wf where
 | ld | st | hd | sc | am
def Wf.ty:Wf->Nat
 | .ld=>267
 | .st=>269
 | .hd=>271
 | .sc=>272
 | .am=>273
def mm (f:Wf) (n:Int) (s:Bool):Value:=.iface f.ty (.agg #[.i n,.bool s])
theorem qC (f:Wf) (n:Int) (s:Bool) (a:r.fm=mm f n s) (h:fY ⟨b,aW x B r,[]⟩ w):F3 prog 204 #[.p b 0] w λe c=>e=.returned (mm f n s)/\Iv [b] w [⟨b,aW x B r,[]⟩] c:=by obtain ⟨k,y,m,q,o,p,j,i,t,l,wr,u,d,M⟩:=r;dsimp only at a;subst a;refine bE (args:=[.p b 0]) (λ_=>True) func204 ?_;refine aY 0 1 ?_;cases f<;>exact uq (t:=2) (v:=mm _ n s) (Iv.one h) {} 40 λW g=>⟨rfl,g⟩
theorem zj:CB 312 #[.agg #[.i l,.bool E]] L (.i l):=by refine cF (args:=[.agg #[.i l,.bool E]]) (S:=Bs L [(#[.i l,.bool E],265)]) [(#[.i l,.bool E],265)] func312 ?_;exact bg (t:=2) (v:=.i l) Bs.eng {} 40 (Bs.start _ _) λa h=>⟨rfl,h.2⟩
theorem Hg (x:Int) (hn:m=1\/m=2\/m=4\/m=8) (w:H2):CB 313 #[.agg #[.i m,.bool E],.u x] w (.u (if E then aX (8*m) x else x)):=by
 refine cF (args:=[.agg #[.i m,.bool E],.u x]) (S:=Bs w [(#[.i m,.bool E],265)]) [(#[.i m,.bool E],265)] func313 ?_;cases E with
 | false=>exact bg (t:=4) (v:=.u x) Bs.eng {} 40 (Bs.start _ _) λa h=>⟨rfl,h.2⟩
 | true =>have b:IntKind.i64.wrap (8*(m:Int))=((8*m:Nat):Int):=(by rcases hn with rfl | rfl | rfl | rfl<;>rfl);exact bg (t:=4) (v:=.u (aX (8*m) x)) Bs.eng {eq:=[(10,ed .i64 b)],cv:=[(11,wU λW _=>gI x (8*m) aa aa W)]} 40 (Bs.start _ _) λa h=>⟨rfl,h.2⟩
def mT (ram:List Int):MV:=⟨2147483648,A6 32 0,3,A6 22 0,ram,zeroD,0,false,false⟩
def qD (ram:List Int):MV:=if bA ram.length=true then dU (mT ram) else au
theorem NA (w':a.ownsRow w.heap.size 32 1 (.slice (some ⟨w.heap.size,0,none⟩) b b) b (madeCells (L7 .u64 0).cells (b*1)).toList):a.ownsRow w.heap.size 32 1 (.slice (some ⟨w.heap.size,0,none⟩) b b) b ((A6 b (0:Int)).map (L7 .u64)):=by rw [List.map_replicate,<- toList_madeCells_one];simpa [Value.cells] using w'
theorem iI (p:P2 k f) (m:Nat) (l c:L4) (e:k.op=Op.makeSlice 31 l c) (hl:g.eval l=.i m) (j:g.eval c=.i m) (hm:m<=1048576) (h:∀ d,d.ownsRow w.heap.size 32 1 (.slice (some ⟨w.heap.size,0,none⟩) m m) m ((A6 m (0:Int)).map (L7 .u64))->Bw w d->n (g.put k.dst (.slice (some ⟨w.heap.size,0,none⟩) m m)) d): if P2 k f=true then Oper.wp prog k g w n o else n (g.put k.dst undef) w:=by obtain ⟨q,K,ys,a,i⟩:=info_parts zN;obtain ⟨t,b,r,s⟩:=run_make_full (P:=prog) w w.heap.size 31 32 q (.u 0) 1 underlying31 K ys a .i64 .i64 m (by rw [i];omega) ct (M5 _);rw [JZ8 p];unfold Oper.wp;simp [execOp,e,hl,j,b,Result.andThen];exact h _ (NA r) ((M7 _ _).grown s (M5 _) (by intro Q h;cases h))
theorem gV {B E:Nat} {c r:FRow} {j h l:Nat} (hx:bi b A w [W]) (m:bi M j w [c]) (n:bi h l w [r]) (D:B<=b/\A<=E) (F:B<=M/\j<=E) (G:B<=h/\l<=E) (z:A<=M\/j<=b) (i:A<=h\/l<=b) (C:j<=h\/l<=M):bi B E w [W,c,r,aI none 0 0 [],aI none 0 0 []]:=by
 have y:W ∈ [W]:=A0.2 rfl;have u:c ∈ [c]:=A0.2 rfl;have v:r ∈ [r]:=A0.2 rfl;have t:=λk e=>And.intro ((hx.own W y).lt k e).1 (hx.hi W y k e);have o:=λk e=>And.intro ((m.own c u).lt k e).1 (m.hi c u k e);have p:=λk e=>And.intro ((n.own r v).lt k e).1 (n.hi r v k e);have H:∀ k,(aI none 0 0 []).v.ownBlock≠some k:=λk e=>ki
 refine ⟨λq d=>?_,λq d k e=>?_,?_⟩
 ·simp only [F0,A5,or_false] at d;rcases d with rfl|rfl|rfl|rfl|rfl;·exact cS (hx.own _ y) D.1
  ·exact cS (m.own _ u) F.1
  ·exact cS (n.own _ v) G.1
  ·exact ⟨rfl,.inl ⟨rfl,rfl⟩⟩
  ·exact ⟨rfl,.inl ⟨rfl,rfl⟩⟩
 ·simp only [F0,A5,or_false] at d;rcases d with rfl|rfl|rfl|rfl|rfl;·have:=t k e;omega
  ·have:=o k e;omega
  ·have:=p k e;omega
  ·cases e
  ·cases e
 ·simp only [List.pairwise_cons,F0,A5,or_false];refine ⟨λs f k e a=>?_,λs f k e a=>?_,λs f k e a=>?_,λs f k e=>ki,λs f=>f.elim,List.Pairwise.nil⟩
  ·rcases f with rfl|rfl|rfl|rfl;·have:=t k e;have:=o k a;omega
   ·have:=t k e;have:=p k a;omega
   ·cases a
   ·cases a
  ·rcases f with rfl|rfl|rfl;·have:=o k e;have:=p k a;omega
   ·cases a
   ·cases a
  ·rcases f with rfl|rfl;·cases a
   ·cases a
theorem cK {q:FRow} (h:a.ownsRow w.heap.size q.t 1 q.v q.n q.xs) (hb:Bw w a):bi w.heap.size a.heap.size a [q]:=(bi.nil w.heap.size w.heap.size a).snoc q _ _ h (M5 _) (M5 _) (M5 _) hb.size
theorem NB (h:y.length<=1048576):iW (mT y):=⟨by simp [mT],by simp [mT],h,by simp [mT,zeroD],by simp [mT,zeroD]⟩
theorem Hh (h:bA b):0<b:=by
 rcases Nat.eq_zero_or_pos b with a|a;·subst a;revert h;decide
 ·exact a
theorem gW (j:P2 k f) (ty:TypeId) (p x:L4) (b:k.op=.store ty p x) (a:Nat) (i:g.eval p=.p a 0) (old cells:Array K1) (hx:g.eval x=.agg cells) (t:TypeId) (d:w.heap[a]?=some (.cells old t (0,0))) (e:(prog.info? ty).map (·.size)=some cells.size) (ys:old.size=cells.size) (c:cells.all (·.oneCell')) (h:n (g.put k.dst undef) (w.setRow a cells)): if P2 k f=true then Oper.wp prog k g w n o else n (g.put k.dst undef) w:=by rw [JZ8 j];exact wp_store_row ty p x b a cells i hx t old d e ys c h
theorem dR {L:List FRow} (h:bi b A w L) (g:Nat) (c:∀ q ∈ L,q.v.ownBlock≠some g) (cs:Array K1):bi b A (w.setRow g cs) L :=
 ⟨λr a=>dp (h.own r a) (λk e=>K4 w g k cs (λB=>c r a (by rw [<- B];exact e))),h.hi,h.ne⟩
theorem DA (h:Below b a w) {g:Nat} (B:b<=g) (cs:Array K1):Below b a (w.setRow g cs):=
 ⟨h.os,h.tape,h.output,by rw [setRow_size];exact h.size,λk v=>(K4 w g k cs aa).trans (h.block k v)⟩
theorem eG (cr:Nat) (ar:Option I5):prog.built 36 [(0,.u 2147483648),(1,.slice (some ⟨m,0,none⟩) 32 32),(2,.i 3),(3,.slice (some ⟨s,0,none⟩) 22 22),(4,.slice ar K cr)]=some #[.u 2147483648,.slice (some ⟨m,0,none⟩) 32 32,.i 3,.slice (some ⟨s,0,none⟩) 22 22,.slice ar K cr,.u 0,.u 0,.bool false,.slice none 0 0,.slice none 0 0,.i 0,.u 0,.bool false,.bool false]:=by kernel_rfl
theorem gX (cr:Nat) (ar:Option I5):(#[.u 2147483648,.slice (some ⟨m,0,none⟩) 32 32,.i 3,.slice (some ⟨s,0,none⟩) 22 22,.slice ar K cr,.u 0,.u 0,.bool false,.slice none 0 0,.slice none 0 0,.i 0,.u 0,.bool false,.bool false]:Array K1).all (·.oneCell'):=by kernel_rfl
theorem cL {P:Program} (t:TypeId) (parts:Array (Nat × L4)) (c:k.op=.build t parts) (vs:List (Nat × K1)) (hv:parts.toList.map (λp=>(p.1,g.eval p.2))=vs) (cells:Array K1) (h:P.built t vs=some cells):(execOp g.eval k).run P w=.ok (.value (.agg cells)) w:=by
 have b:(parts.map λ(i,x)=>(i,g.eval x)).toList=vs:=by rw [Array.toList_map];exact hv
 subst b;clear hv;unfold execOp;simp only [c,Sem.run_bind,run_build w t _ cells h,Result.andThen_ok];rfl
theorem d6 {c r:FRow} {h d i g:Nat} (hx:bi A M w [W]) (l:bi b h w [c]) (n:bi d i w [r]) (o:g<A\/M<=g) (p:g<b\/h<=g) (s:g<d\/i<=g):∀ q ∈ [W,c,r,aI none 0 0 [],aI none 0 0 []],q.v.ownBlock≠some g:=by
 intro q m e;simp only [F0,A5,or_false] at m;rcases m with rfl|rfl|rfl|rfl|rfl;·have j:=((hx.own q (A0.2 rfl)).lt g e).1;have k:=hx.hi q (A0.2 rfl) g e;omega
 ·have j:=((l.own q (A0.2 rfl)).lt g e).1;have k:=l.hi q (A0.2 rfl) g e;omega
 ·have j:=((n.own q (A0.2 rfl)).lt g e).1;have k:=n.hi q (A0.2 rfl) g e;omega
 ·cases e
 ·cases e
