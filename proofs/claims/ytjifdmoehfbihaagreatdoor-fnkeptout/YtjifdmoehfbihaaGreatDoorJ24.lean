/- Own lemmas. -/
import Derived.Test.YtjifdmoehfbihaaGreatDoorAuj
import Derived.Test.YtjifdmoehfbihaaGreatDoorJ14
import Derived.Test.YtjifdmoehfbihaaGreatDoorJ15
import Derived.OpenShut
set_option maxRecDepth 100000
set_option maxHeartbeats 12800000
namespace Go.Proofs.YtjifdmoehfbihaaGreatDoor
open Go.RowKit Tryz
open IntKind renaming u64->Uz
set_option linter.unusedVariables false
variable {w a g:World} {n b c r D d m k:Nat} {f o e:Option Addr} {x:DV} {T:Int} {t:List Int} {y:TypeId} {A E:Array Value} {Q:Obj} {j:Oper} {p:Act} {B:Exit->Act->World->Prop} (K:Int) (l:DV) (q:Option Addr) (s:List Int) (z:TypeId) (C:Nat) (F:Option Addr) (G:Nat) (I:List Int) (J:Option Addr) (L N:Nat) (O:World)
theorem Uo (c: -9223372036854775808<=T) (d:T<=9223372036854775807):(Lit.int .i64 T).wf=true:=by have b:IntKind.i64.min=-9223372036854775808:=rfl;have a:IntKind.i64.max=9223372036854775807:=rfl;simp only [Lit.wf,Bool.and_eq_true,decide_eq_true_eq];omega
theorem Cs.keep (h:Cs a b f n r w g) (hk:w.heap[k]?=some Q) (d:k≠b):g.heap[k]?=some Q:=by
 by_cases c:k<w.heap.size;·rw [h.2.block k c (by simp [d])];exact hk
 ·rw [Array.getElem?_eq_none ab] at hk;cases hk
theorem lu.lt (h:lu a w b f n r):b<w.heap.size:=by
 obtain ⟨i,x,_,d⟩:=h.row;by_cases c:b<w.heap.size;·exact c
 ·rw [Array.getElem?_eq_none ab] at d;cases d
theorem lj (q:Code w f n t) (m:World) (F:lu w m b f n c): Calls prog 167 #[.p b 0] m λe L=>∃ x:Int,e=.returned (.u x)/\(0<=x/\x<18446744073709551616)/\Hid (Cs w b f n c m L):=by
 have A:Hid (Code w f n t):=q;have E:Hid (lu w m b f n c):=F;clear q F;go_enter func167,ntmps167;go_wp2_with fail;go_loopw [3,4] (λh i wr=>∃ (k:Nat) (x:Int),k<=8/\h=.u x/\i=.i k/\(0<=x/\x<18446744073709551616)/\Hid (Cs w b f n c m wr))
  (λ_ i _=>8-(intOf i).toNat)
 case atStart=>exact ⟨0,0,Nat.zero_le _,rfl,rfl,ab,Cs.refl E.out⟩
 case round =>
  obtain ⟨k,x,M,rfl,rfl,⟨j,l⟩,r⟩:=hrel;by_cases J:k<8
  ·go_wp2_with fail;refine (kF A.out _ r.out.1).mono ?_;rintro e p ⟨y,rfl,⟨s,zs⟩,cap⟩;obtain ⟨z,N⟩:∃ z,z=Uz.wrap (Uz.wrap (x*256)+y):=⟨_,rfl⟩;go_wp2_with fail;go_roundw;case rel =>refine ⟨k+1,_,ab,rfl,by go_num,?_,r.out.trans cap.out⟩;rw [IntKind.wrap_u64];omega
   case measure=>simp [intOf];omega
  ·go_wp2_with fail;refine (aB A.out 5 ab _ r.out.1).mono ?_;rintro e p ⟨y,rfl,⟨s,zs⟩,cap⟩;have g:Hid (Cs w b f n c m p):=r.out.trans cap.out;have K:0<=x%100/\x%100<18446744073709551616:=ab;have C:0<=Uz.wrap (wrap64 x/1099511627776)/\Uz.wrap (wrap64 x/1099511627776)<18446744073709551616:=dm;obtain ⟨k,rfl⟩:=Int.eq_ofNat_of_zero_le s;match k,zs with
   | 0,_ =>
     go_wp2_with fail;have D:Hid (lu w (p.alloc (.cells #[.u 0,.u 1,.u 18446744073709551615,.u 9223372036854775808,.u 9223372036854775807,.u 2147483648,.u 2147483647,.u 18446744071562067968,.u 4294967295,.u 64] 22)) b f n c):=cap.out.1.grown (mt _ _ _);refine (aB A.out 10 ab _ D.out).mono ?_;rintro e u ⟨y,rfl,⟨j,l⟩,a⟩;obtain ⟨k,rfl⟩:=Int.eq_ofNat_of_zero_le j;have o:u.heap[p.heap.size]?=some (.cells #[.u 0,.u 1,.u 18446744073709551615,.u 9223372036854775808,.u 9223372036854775807,.u 2147483648,.u 2147483647,.u 18446744071562067968,.u 4294967295,.u 64] 22 (0,0)):=a.out.keep (heap_alloc_new _ _) (Nat.ne_of_gt cap.out.1.lt);obtain ⟨v,G,B⟩:∃ v:Int,(0<=v/\v<18446744073709551616)/\u.cell? ⟨p.heap.size,k,none⟩=some (.u v):=by
      have d:=cell_of_row u p.heap.size k _ _ _ o;match k,l with
      | 0,_=>exact ⟨_,ab,d⟩
      | 1,_=>exact ⟨_,ab,d⟩
      | 2,_=>exact ⟨_,ab,d⟩
      | 3,_=>exact ⟨_,ab,d⟩
      | 4,_=>exact ⟨_,ab,d⟩
      | 5,_=>exact ⟨_,ab,d⟩
      | 6,_=>exact ⟨_,ab,d⟩
      | 7,_=>exact ⟨_,ab,d⟩
      | 8,_=>exact ⟨_,ab,d⟩
      | 9,_=>exact ⟨_,ab,d⟩
      | k+10,h=>exact absurd h ab
     have I:Hid (0<=v/\v<18446744073709551616):=G;have H:Hid (Cs w b f n c m u):=⟨a.out.1,aZ g.out.2 (aZ (mt _ _ _) a.out.2)⟩;clear o G r cap a D E g;go_wp2_with fail;go_ret;exact ⟨_,rfl,I.out,H⟩
   | 1,_ =>go_wp2_with fail;go_ret;exact ⟨_,rfl,K,g⟩
   | 2,_ =>go_wp2_with fail;go_ret;exact ⟨_,rfl,C,g⟩
   | 3,_ =>go_wp2_with fail;go_ret;exact ⟨_,rfl,⟨j,l⟩,g⟩
   | 4,_ =>go_wp2_with fail;go_ret;exact ⟨_,rfl,⟨j,l⟩,g⟩
   | k+5,h=>exact absurd h ab
theorem Cs.alloc {g:World} (h:lu w g b f n c) (o:Obj):Cs w b f n c g (g.alloc o):=⟨h.grown (mt _ _ _),mt _ _ _⟩
theorem sZ (hr:w.heap[b]?=some (.cells (s.map (Value.int .u64)).toArray z (0,0))) (a:∀ x ∈ s,U x) (hk:k<s.length):∃ v,U v/\w.cell? ⟨b,k,none⟩=some (.u v):=by refine ⟨s[k],a _ (List.getElem_mem hk),?_⟩;rw [cell_of_row _ _ _ _ _ _ hr];simp [List.getElem?_eq_getElem hk]
theorem OO (hr:w.heap[b]?=some (.cells (s.map (Value.int .i64)).toArray z (0,0))) (a:∀ x ∈ s,(Lit.int .i64 x).wf=true) (hk:k<s.length):∃ v,(Lit.int .i64 v).wf=true/\w.cell? ⟨b,k,none⟩=some (.i v):=by refine ⟨s[k],a _ (List.getElem_mem hk),?_⟩;rw [cell_of_row _ _ _ _ _ _ hr];simp [List.getElem?_eq_getElem hk]
theorem Cs.of_below (wx:lu a w b f n c) (hb:Bw w g):Cs a b f n c w g:=by have e:=wx.lt;obtain ⟨i,x,cap,d⟩:=wx.row;exact ⟨⟨wx.new,aa wx.below hb,i,x,cap,by rw [hb.block b e];exact d⟩,⟨hb.os,hb.tape,hb.output,hb.size,λk h _=>hb.block k h⟩⟩
theorem Vu:(prog.info? 2).map (λi=>(i.zero,i.size,i.bytes))=some (some (.i 0),1,8):=by kernel_rfl
theorem xx (D:Code w f n t) (r:World) (hc:lu w r b f n c): Calls prog 220 #[.p b 0] r λe w'=>∃ x:Int,e=.returned (.i x)/\(Lit.int .i64 x).wf=true/\Hid (Cs w b f n c r w'):=by
 have O:Hid (Code w f n t):=D;have I:Hid (lu w r b f n c):=hc;obtain ⟨i0,hi,hz0,hz1,hz2⟩:=info_parts Vu;have T:(22+5)*8<=140737488355328:=ab
 have X:22+5<=maxLen:=by unfold maxLen;omega
 have C:∀ u ∈ ([256,260,324,3860,769]:List Int).map (Value.int .i64),u.oneCell'=true:=ints_oneCell _ _;have o:∀ (W:World) (j:Nat) (u:Value),(([256,260,324,3860,769]:List Int).map (Value.int .i64))[j]?=some u->(W.alloc (.cells #[.i 256,.i 260,.i 324,.i 3860,.i 769] 2)).cell? ((⟨W.heap.size,0,none⟩:Addr).add j)=some u:=by intro W j u hu;rw [zB,Nat.zero_add,cell_of_row _ _ _ _ _ _ (heap_alloc_new _ _)];rw [<- hu];simp
 have HN:Hid (∀ (W:World) (j:Nat) (u:Value),(([256,260,324,3860,769]:List Int).map (Value.int .i64))[j]?=some u->(W.alloc (.cells #[.i 256,.i 260,.i 324,.i 3860,.i 769] 2)).cell? ((⟨W.heap.size,0,none⟩:Addr).add j)=some u):=o;clear D hc o;go_enter func220,ntmps220;go_wp2_with fail;refine (pQ _).mono ?_;rintro e M ⟨rfl,q⟩;have G:M.ownsRow r.heap.size 2 1 (.slice (some ⟨r.heap.size,0,none⟩) 22 22) 22 (eg.map (Value.int .i64)):=by rw [q];exact World.ownsRow_lit r _ 22 (Nat.le_refl _) et rfl
 have zs:Bw r M:=by rw [q];exact bal _ _
 have hE:=G.alloc (.cells #[.i 256,.i 260,.i 324,.i 3860,.i 769] 2);have F:r.heap.size<M.heap.size:=by rw [q];simp
 clear q G;go_wp2_with (at_builtin;refine wpList_append_own _ rfl (.tmp 4) (.tmp 5) 39 rfl _ 2 i0 (.i 0) 1 8 underlying39 hi hz0 hz1 hz2 rfl bc _ 22 (eg.map (Value.int .i64)) (by rfl) hE ⟨M.heap.size,0,none⟩ 5 5 (([256,260,324,3860,769]:List Int).map (Value.int .i64)) rfl rfl (HN.out _) C X T bv ?_;intro v' w2 d l y);obtain ⟨g2,c2,z,E⟩:=jV d ab;have B2:Bw r w2:=Below.grown (zs.alloc zs.size _) l bv (by intro k K;simp [Value.ownBlock] at K;omega);have s:Hid (Cs w b f n c r w2):=Cs.of_below I.out B2;obtain ⟨L,J⟩:∃ L,L=eg++([256,260,324,3860,769]:List Int):=⟨_,rfl⟩;rw [z,<- List.map_append,<- J] at d;have S:Hid (∀ x ∈ L,(Lit.int .i64 x).wf=true):=by rw [J];show ∀ x ∈ _,_;decide
 have B:Hid (L.length=27):=by rw [J];rfl
 have HO:Hid (w2.ownsRow r.heap.size 2 1 (.slice (some ⟨g2,0,none⟩) 27 c2) 27 (L.map (Value.int .i64))):=d;have P:Hid (b<g2):=Nat.lt_of_lt_of_le I.out.lt E;rw [z];clear J d l y z hE zs F HN C E B2;go_wp2_with fail;refine (bG O.out 14 ab _ s.out.1).mono ?_;rintro e w3 ⟨cap,rfl,a⟩;cases cap with
 | true =>go_wp2_with fail;have N:=Cs.alloc a.out.1 (.cells #[.i 0,.i 1,.i 769,.i 2816,.i 3072,.i 4095] 2);refine (aB O.out 6 ab _ N.1).mono ?_;rintro e w4 ⟨x,rfl,⟨A,Z⟩,m⟩;obtain ⟨k,rfl⟩:=Int.eq_ofNat_of_zero_le A;obtain ⟨v,hv,U⟩:=OO [0,1,769,2816,3072,4095] 2 (m.out.keep (heap_alloc_new _ _) (Nat.ne_of_gt a.out.1.lt)) bc (k:=k) bv;have R:Hid ((Lit.int .i64 v).wf=true):=hv;have Q:Hid (Cs w b f n c r w4):=s.out.trans (a.out.trans (N.trans m.out));clear hv a m N I;go_wp2_with fail;go_ret;exact ⟨_,rfl,R.out,Q⟩
 | false =>go_wp2_with fail;refine (aB O.out 27 ab _ a.out.1).mono ?_;rintro e w4 ⟨x,rfl,⟨A,Z⟩,m⟩;obtain ⟨k,rfl⟩:=Int.eq_ofNat_of_zero_le A;have p:=a.out.trans m.out;have H:=zC HO.out p.2 (by intro j hj Y;have:=P.out;simp [Value.ownBlock] at hj Y;omega);obtain ⟨g,off,e,_,V⟩:=kI H k (by have:=B.out;omega);simp only [Option.some.injEq,Addr.mk.injEq,and_true] at e;obtain ⟨rfl,rfl⟩:=e;rw [Nat.zero_add] at V;have R:Hid ((Lit.int .i64 (L.getD k 0)).wf=true):=(by have K:k<L.length:=(by have:=B.out;omega);have e:L.getD k 0=L[k]:=(by simp [List.getD,List.getElem?_eq_getElem K]);show (Lit.int .i64 (L.getD k 0)).wf=true;rw [e];exact S.out _ (List.getElem_mem K));generalize L.getD k 0=v at *;have Q:Hid (Cs w b f n c r w4):=s.out.trans p;clear H p a m I;go_wp2_with fail;go_ret;exact ⟨_,rfl,R.out,Q⟩
def Rm (d:World) (g:Nat) (a:Option Addr) (n cap:Nat) (w:World) (b m:Nat) (wr:World):Prop :=
 ∃ c:List Int,(∀ y ∈ c,(Lit.int .u8 y).wf=true)/\wr.ownsRow w.heap.size 5 1 (.slice (some ⟨b,0,none⟩) m m) m (c.map (Value.int .u8))/\Cs d g a n cap w wr/\g<w.heap.size/\w.heap.size<=b
theorem Rm.next {wr:World} (h:Rm a c f n r w b m wr) (k:Cs a c f n r wr g):Rm a c f n r w b m g:=by obtain ⟨q,p,o,cap,i,e⟩:=h;refine ⟨q,p,zC o k.2 ?_,cap.trans k,i,e⟩;intro j l d;simp [Value.ownBlock] at l d;omega
theorem Rm.cur {wr:World} (h:Rm a c f n r w b m wr):lu a wr c f n r:=by obtain ⟨k,j,i,d,cap,e⟩:=h;exact d.1
theorem VH (c:0<=T) (d:T<=255):(Lit.int .u8 T).wf=true:=by have b:IntKind.u8.min=0:=rfl;have a:IntKind.u8.max=255:=rfl;simp only [Lit.wf,Bool.and_eq_true,decide_eq_true_eq];omega
theorem DQ:∀ y ∈ List.replicate C (0:Int),(Lit.int .u8 y).wf=true:=by intro y a;rw [(List.mem_replicate.mp a).2];decide
theorem DR (v:Value) (zs:List Int) (g:w.ownsRow C 5 1 v G (zs.map (Value.int .u8))) (hn:G<=1048576) (ad:Addr) (c:Nat) (b:Int) (a:∀ j u,[Value.int .u8 b][j]?=some u->w.cell? (ad.add j)=some u) (h:C<=w.heap.size): ∃ d f i,(Builtin.append_ #[24,24] z #[v,.slice (some ad) 1 c]).run prog w=.ok (.slice d (G+1) f) i/\i.ownsRow C 5 1 (.slice d (G+1) f) (G+1) ((zs++[b]).map (Value.int .u8))/\w.grownBy i v.ownBlock/\((Value.slice d (G+1) f).ownBlock=v.ownBlock\/(Value.slice d (G+1) f).ownBlock=some w.heap.size):=by
 obtain ⟨y,s,k,l,m⟩:=info_parts info5;obtain ⟨ty,i,p,o,r,base⟩:=run_append_own (P:=prog) w C 24 z 5 y (.int .u8 0) 1 1 underlying24 s k l m rfl bc v G (zs.map (Value.int .u8)) g ad 1 c [.int .u8 b] rfl a ti et ab h;have x:=qF z g ad c b a hn p;have t:∃ d f,ty=.slice d (G+1) f:=by
  rcases o.2 with ⟨_,A⟩|⟨B,cap,q,e,_⟩;·omega
  ·exact ⟨_,_,e⟩
 obtain ⟨d,f,rfl⟩:=t;exact ⟨d,f,i,p,by rw [List.map_append];exact o,r,x⟩
structure Dc (w0:World) (g:Nat) (a:Option Addr) (n cap:Nat) (w:World) (r b:Nat) (T:TypeId) (rs cs:Array Value) (wr:World):Prop where
 row:wr.heap[b]?=some (.cells cs T (0,0))
 res:wr.heap[r]?=some (.cells rs T (0,0))
 cu:Cs w0 g a n cap w wr
 glt:g<r
 rlt:r<b
 wle:w.heap.size<=r
theorem blk (h:w.heap[n]?=some Q):n<w.heap.size:=(Array.getElem?_eq_some_iff.1 h).1
theorem Dc.next {wr:World} (h:Dc a c f n D w r b y A E wr) (k:Cs a c f n D wr g):Dc a c f n D w r b y A E g:=by have e:=h.glt;have cap:=h.rlt;have keep:∀ j o,j≠c->wr.heap[j]?=some o->g.heap[j]?=some o:=λj o i d=>(k.2.block j (blk d) bv).trans d;exact ⟨keep _ _ ab h.row,keep _ _ ab h.res,h.cu.trans k,e,cap,h.wle⟩
theorem Dc.drew {wr:World} (h:Dc a c f n D w r b y A E wr):Dc a c f n D w r b y A E wr.drew:=⟨h.row,h.res,⟨h.cu.1.grown (m9 wr 1 none),aZ h.cu.2 (m9 wr 1 _)⟩,h.glt,h.rlt,h.wle⟩
theorem Cs.setc {wr:World} (h:Cs a b f n c w wr) (k i:Nat) (v:Value) (hk:w.heap.size<=k) (cap:b≠k) (d:a.heap.size<=k):Cs a b f n c w (wr.setCell ⟨k,i,none⟩ v):=by obtain ⟨j,x,l,e⟩:=h.1.row;refine ⟨⟨h.1.new,h.1.below.setCell d v,j,x,l,(Below.heap_setCell wr ⟨k,i,none⟩ v b cap).trans e⟩,h.2.os,h.2.tape,h.2.output,by rw [aX];exact h.2.size,λq m g=>?_⟩;rw [Below.heap_setCell wr ⟨k,i,none⟩ v q di];exact h.2.block q m g
theorem Dc.put {wr:World} (h:Dc a c f n D w r b y A E wr) (i:Nat) (v:Value):Dc a c f n D w r b y A (E.setIfInBounds i v) (wr.setCell ⟨b,i,none⟩ v):=by have d:=h.glt;have e:=h.rlt;have cap:=h.wle;have j:=h.cu.1.new;exact ⟨bH h.row i v,gL h.res ⟨b,i,none⟩ v di,h.cu.setc b i v ab ab ab,d,e,cap⟩
theorem Dc.on {wr:World} (h:Dc a c f n d w r b y A E wr) (k:lB (b+1) D wr g):Dc a c f n d w r b y A E g:=by have l:=h.glt;have p:=h.rlt;have s:=h.wle;have u:=blk h.row;have t:=h.cu.1.new;obtain ⟨j,x,cap,i⟩:=h.cu.1.row;have keep:∀ j o,j<b+1->wr.heap[j]?=some o->g.heap[j]?=some o:=λj o cap T=>(k.block j (blk T) (.inl cap)).trans T;exact ⟨keep _ _ ab h.row,keep _ _ ab h.res,⟨⟨h.cu.1.new,h.cu.1.below.trans (k.below ab (by have:=h.cu.1.below.size;omega)),j,x,cap,keep _ _ ab i⟩,k.os.trans h.cu.2.os,k.tape.trans h.cu.2.tape,k.output.trans h.cu.2.output,Nat.le_trans h.cu.2.size k.size,λq m e=>(k.block q ab (.inl ab)).trans (h.cu.2.block q m e)⟩,l,p,s⟩
structure Dx (w0:World) (g:Nat) (a:Option Addr) (n cap:Nat) (w:World) (r b:Nat) (D:DV) (a1:Option Addr) (c1:Nat) (a2:Option Addr) (c2:Nat) (wr:World):Prop where
 c:Dc w0 g a n cap w r b 30 (gh zeroD none 0 none 0) (gh D a1 c1 a2 c2) wr
 fam:bz (b+1) wr.heap.size wr (vm D a1 c1 a2 c2)
theorem Dx.next {wr:World} (h:Dx a c f n D w r b x o d e m wr) (k:Cs a c f n D wr g):Dx a c f n D w r b x o d e m g:=by have i:=h.c.glt;have l:=h.c.rlt;exact ⟨h.c.next k,(h.fam.mono λj a1 c1 wx=>k.2.block j wx bv).low (Nat.le_refl _) k.2.size⟩
theorem Dx.drew {wr:World} (h:Dx a c f n D w r b x o d e m wr):Dx a c f n D w r b x o d e m wr.drew:=⟨h.c.drew,h.fam.mono λj _ _ _=>rfl⟩
theorem Dx.cur {wr:World} (h:Dx a c f n D w r b x o d e m wr):lu a wr c f n D:=h.c.cu.1
theorem OP (hm:I.length=L):(gh l q C F G).setIfInBounds 3 (.slice J L N)=gh ⟨l.t,l.cm,l.so,I,l.ys,l.ir⟩ J N F G:=by subst hm;rfl
theorem IF (hm:I.length=L):(gh l q C F G).setIfInBounds 4 (.slice J L N)=gh ⟨l.t,l.cm,l.so,l.xs,I,l.ir⟩ q C J N:=by subst hm;rfl
theorem Dx.cmp {wr:World} (h:Dx a c f n D w r b x o d e m wr) (a2:Int):Dx a c f n D w r b ⟨x.t,a2,x.so,x.xs,x.ys,x.ir⟩ o d e m (wr.setCell ⟨b,1,none⟩ (.u a2)):=
 ⟨h.c.put 1 (.u a2),(h.fam.set ⟨b,1,none⟩ _ (.inl di)).low (Nat.le_refl _) ek⟩
theorem bz.pushOut {ys:List Int} (h:bz n b w (gj o d c t e r D ys)) (p:b<=w.heap.size) (B:w.grownBy a (Value.slice e r D).ownBlock) {g:Nat} {zs:List Int} (a1:a.ownsRow n 5 1 (.slice f m g) m (zs.map (Value.int .u8))) (c1:(Value.slice f m g).ownBlock=(Value.slice e r D).ownBlock\/(Value.slice f m g).ownBlock=some w.heap.size):bz n a.heap.size a (gj o d c t f m g zs):=by
 have E:=(List.pairwise_cons.1 h.ne).1 (aF e r D ys) (List.mem_singleton.2 rfl);have j:=h.own (aF o d c t) t5;have l:=h.hi (aF o d c t) t5;refine ⟨λi w'=>?_,λi w' k a2=>?_,List.pairwise_cons.2 ⟨λi w' k a2 e2=>?_,List.pairwise_singleton _ _⟩⟩
 ·rcases List.mem_cons.1 w' with rfl | w';·exact eu j (λk a2=>B.block k (j.lt k a2).2 (λe2=>E k a2 e2.symm))
  ·rw [List.mem_singleton.1 w'];exact a1
 ·rcases List.mem_cons.1 w' with rfl|w';·have:=(j.lt k a2).2;have:=B.size;omega
  ·rw [List.mem_singleton.1 w'] at a2;exact (a1.lt k a2).2
 ·rw [List.mem_singleton.1 w'] at e2;rcases c1 with c1|c1;·exact E k a2 (c1.symm.trans e2)
  ·have e3:some w.heap.size=some k:=c1.symm.trans e2;cases e3;have:=l _ a2;omega
theorem Dx.pushIn {wr:World} (h:Dx a c f n D w r b x o d e m wr) (hl:x.xs.length<=1048576) (y:Int) (ty:TypeId):∃ (c1:Option Addr) (q:Nat) (g:World),(Builtin.append_ #[24,24] ty #[.slice o x.xs.length d,.slice (some ⟨wr.heap.size,0,none⟩) 1 1]).run prog (wr.alloc (.cells #[.int .u8 y] 5))=.ok (.slice c1 (x.xs.length+1) q) g/\g.cell? ⟨b,3,none⟩=some (.slice o x.xs.length d)/\g.frozen? ⟨b,3,none⟩=false /\ Dx a c f n D w r b ⟨x.t,x.cm,x.so,x.xs++[y],x.ys,x.ir⟩ c1 q e m (g.setCell ⟨b,3,none⟩ (.slice c1 (x.xs.length+1) q)):=by
 have A:=blk h.c.row;have l:bz (b+1) wr.heap.size (wr.alloc (.cells #[.int .u8 y] 5)) (gj o x.xs.length d x.xs e x.ys.length m x.ys):=h.fam.below (bal _ _);have i:=l.own (aF o x.xs.length d x.xs) t5;obtain ⟨c1,q,g,u,t,cap,a2⟩:=DR ty (b+1) x.xs.length _ x.xs i hl ⟨wr.heap.size,0,none⟩ 1 y (vH wr y) i4;have c2:=l.pushIn i4 cap t a2;have z:lB (b+1) g.heap.size wr g:=by have v:=cap.size;rw [World.size_alloc] at v;exact ⟨cap.os,cap.tape,cap.output,ab,λk p s=>(cap.block k i4 (λa1=>by have:=(i.lt k a1.symm).1;omega)).trans (Below.heap_alloc wr _ k p)⟩
 have j:=h.c.on z;refine ⟨c1,q,g,u,(hC j.row).2.2.2.1,ic j.row 3,?_,?_⟩;·rw [<- OP x o d e m (x.xs++[y]) c1 (x.xs.length+1) q cp];exact j.put 3 _
 ·unfold vm;dsimp only;rw [show (x.xs++[y]).length=x.xs.length+1 by simp];exact (c2.set ⟨b,3,none⟩ _ (.inl di)).low (Nat.le_refl _) ek
theorem Dx.pushOut {wr:World} (h:Dx a c f n D w r b x o d e m wr) (hl:x.ys.length<=1048576) (y:Int) (ty:TypeId):∃ (c1:Option Addr) (q:Nat) (g:World),(Builtin.append_ #[24,24] ty #[.slice e x.ys.length m,.slice (some ⟨wr.heap.size,0,none⟩) 1 1]).run prog (wr.alloc (.cells #[.int .u8 y] 5))=.ok (.slice c1 (x.ys.length+1) q) g/\g.cell? ⟨b,4,none⟩=some (.slice e x.ys.length m)/\g.frozen? ⟨b,4,none⟩=false /\ Dx a c f n D w r b ⟨x.t,x.cm,x.so,x.xs,x.ys++[y],x.ir⟩ o d c1 q (g.setCell ⟨b,4,none⟩ (.slice c1 (x.ys.length+1) q)):=by
 have A:=blk h.c.row;have l:bz (b+1) wr.heap.size (wr.alloc (.cells #[.int .u8 y] 5)) (gj o x.xs.length d x.xs e x.ys.length m x.ys):=h.fam.below (bal _ _);have i:=l.own (aF e x.ys.length m x.ys) t5;obtain ⟨c1,q,g,u,t,cap,a2⟩:=DR ty (b+1) x.ys.length _ x.ys i hl ⟨wr.heap.size,0,none⟩ 1 y (vH wr y) i4;have c2:=l.pushOut i4 cap t a2;have z:lB (b+1) g.heap.size wr g:=by have v:=cap.size;rw [World.size_alloc] at v;exact ⟨cap.os,cap.tape,cap.output,ab,λk p s=>(cap.block k i4 (λa1=>by have:=(i.lt k a1.symm).1;omega)).trans (Below.heap_alloc wr _ k p)⟩
 have j:=h.c.on z;refine ⟨c1,q,g,u,(hC j.row).2.2.2.2.1,ic j.row 4,?_,?_⟩;·rw [<- IF x o d e m (x.ys++[y]) c1 (x.ys.length+1) q cp];exact j.put 4 _
 ·unfold vm;dsimp only;rw [show (x.ys++[y]).length=x.ys.length+1 by simp];exact (c2.set ⟨b,4,none⟩ _ (.inl di)).low (Nat.le_refl _) ek
theorem Dx.newIn {wr:World} (h:Dx a c f n D w r b x o d e m wr) (c1:Option Addr) (cap q:Nat) (zs:List Int) (hz:zs.length=cap) (i:g.ownsRow wr.heap.size 5 1 (.slice c1 cap q) cap (zs.map (Value.int .u8))) (hb:Bw wr g):g.cell? ⟨b,3,none⟩=some (.slice o x.xs.length d)/\g.frozen? ⟨b,3,none⟩=false/\Dx a c f n D w r b ⟨x.t,x.cm,x.so,zs,x.ys,x.ir⟩ c1 q e m (g.setCell ⟨b,3,none⟩ (.slice c1 cap q)):=by
 have a1:=blk h.c.row;have wx:=h.c.on (lB.of_below (E:=g.heap.size) hb);refine ⟨(hC wx.row).2.2.2.1,ic wx.row 3,?_,?_⟩;·rw [<- OP x o d e m zs c1 cap q hz];exact wx.put 3 _
 ·unfold vm;dsimp only;rw [hz];exact ((bz.newIn (h.fam.below hb) c1 cap q zs _ g.heap.size i (Nat.le_refl _) ab (Nat.le_refl _) hb.size).set ⟨b,3,none⟩ _ (.inl di)).low (Nat.le_refl _) ek
theorem Dx.newOut {wr:World} (h:Dx a c f n D w r b x o d e m wr) (c1:Option Addr) (cap q:Nat) (zs:List Int) (hz:zs.length=cap) (i:g.ownsRow wr.heap.size 5 1 (.slice c1 cap q) cap (zs.map (Value.int .u8))) (hb:Bw wr g):g.cell? ⟨b,4,none⟩=some (.slice e x.ys.length m)/\g.frozen? ⟨b,4,none⟩=false/\Dx a c f n D w r b ⟨x.t,x.cm,x.so,x.xs,zs,x.ir⟩ o d c1 q (g.setCell ⟨b,4,none⟩ (.slice c1 cap q)):=by
 have a1:=blk h.c.row;have wx:=h.c.on (lB.of_below (E:=g.heap.size) hb);refine ⟨(hC wx.row).2.2.2.2.1,ic wx.row 4,?_,?_⟩;·rw [<- IF x o d e m zs c1 cap q hz];exact wx.put 4 _
 ·unfold vm;dsimp only;rw [hz];exact ((bz.newOut (h.fam.below hb) c1 cap q zs _ g.heap.size i (Nat.le_refl _) ab (Nat.le_refl _) hb.size).set ⟨b,4,none⟩ _ (.inl di)).low (Nat.le_refl _) ek
structure lm (D:DV) (k1 k2:Nat):Prop where
 t:U D.t
 cm:U D.cm
 ir:D.ir=0\/D.ir=1
 by_:dW D
 l1:D.xs.length<=k1
 l2:D.ys.length<=k2
def Xg (y:Int):Int:=Uz.wrap y
def Ss (i:Ins):Bool:=decide (0<=i.rd/\i.rd<=31)&&decide (0<=i.a/\i.a<=31)&&decide (0<=i.b/\i.b<=31)
theorem OQ:∃ (j:Ins) (t:Bool),me K=.tuple #[.agg #[.i j.op,.i j.rd,.i j.a,.i j.b,.i j.imm],.bool t]/\(t=true->Ca K=some j)/\(t=false->Ca K=none):=by
 unfold me;cases h:Ca K with
 | none=>exact ⟨pU,false,rfl,cp,cp⟩
 | some i=>exact ⟨i,true,rfl,cp,cp⟩
theorem Gm:prog.stoodInHeld 69=false:=by kernel_rfl
theorem Gn:prog.eqGuardType prog.depth 69=false:=by kernel_rfl
theorem DS (b c d e f b' c' g i:Int) (w:World): (binOp .neq 69 (.agg #[.i K,.i b,.i c,.i d,.i e]) (.agg #[.i f,.i b',.i c',.i g,.i i])).run prog w=.ok (.bool (!(K==f&&b==b'&&c==c'&&d==g&&e==i))) w:=by
 rw [run_neq_struct,run_equalIn_struct w 9999 _ _ _ (by rw [Program.fieldsOf,underlying69]) Gm];simp only [Program.fieldsOf,underlying69];have P:∀ (k:Nat) (j l m n o v:Value),(#[j,l,m,n,o]:Array Value)[k]?=some v->∀ w,(part 2 #[j,l,m,n,o] k).run prog w=.ok v w:=by intro k j l m n o v h w;simp [part,isAgg,run_underlying underlying2,h]
 have Q:∀ (x y:Int) (w:World),(Op.equalIn 9999 2 (.i x) (.i y)).run prog w=.ok (x==y) w:=λx y w=>run_equalIn_int w 9998 2 .i64 .i64 x y underlying2;simp [Op.eqFields,Sem.run_bind,P 0 _ _ _ _ _ _ rfl,P 1 _ _ _ _ _ _ rfl,P 2 _ _ _ _ _ _ rfl,P 3 _ _ _ _ _ _ rfl,P 4 _ _ _ _ _ _ rfl,Q];by_cases p:K=f<;>by_cases q:b=b'<;>by_cases r:c=c'<;>by_cases s:d=g<;>by_cases t:e=i<;>simp [p,q,r,s,t]
theorem Gp {K:Act->World->Prop} {b c d e f b' c' g i:Int} (x y:Operand) (t:TypeId) (o:j.op=.binOp .neq 69 x y t) (hx:p.eval x=.agg #[.i T,.i b,.i c,.i d,.i e]) (hy:p.eval y=.agg #[.i f,.i b',.i c',.i g,.i i]) (nb:Bool) (hn:(!(T==f&&b==b'&&c==c'&&d==g&&e==i))=nb) (h:K (p.put j.dst (.bool nb)) w):j.wp prog p w K B:=by subst hn;unfold Oper.wp execOp;simp only [o,hx,hy,Sem.run_bind,run_eqGuard_agg w _ _ _ _ _ _ Gn,DS,Result.andThen_ok];exact h
theorem pf {f:Array Oper} {rest:List Oper} {b c d e g b' c' i o:Int} (l:Region.wanted j (yielded f p.tmps)=true) (x y:Operand) (t:TypeId) (k:j.op=.binOp .neq 69 x y t) (hx:p.eval x=.agg #[.i T,.i b,.i c,.i d,.i e]) (hy:p.eval y=.agg #[.i g,.i b',.i c',.i i,.i o]) (nb:Bool) (hn:(!(T==g&&b==b'&&c==c'&&d==i&&e==o))=nb) (h:wpList prog f B rest (p.put j.dst (.bool nb)) w):wpList prog f B (j::rest) p w:=by unfold wpList;rw [if_pos l];exact Or.inl (Gp x y t k hx hy nb hn h)
theorem Be (h:U K) (w:World):Calls prog 78 #[.u K] w λe a=>∃ (g i c d f:Int) (t:Bool),e=.returned (.tuple #[.agg #[.i g,.i i,.i c,.i d,.i f],.bool t])/\Bw w a:=by obtain ⟨j,t,b,_,_⟩:=OQ K;exact (oX K h.1 h.2 w).mono λe a k=>⟨j.op,j.rd,j.a,j.b,j.imm,t,by rw [k.1,b],k.2⟩
theorem Bf (i:Ins) (w:World):Calls prog 165 #[.agg #[.i i.op,.i i.rd,.i i.a,.i i.b,.i i.imm]] w λe u=>∃ (x:Int) (t:Bool),e=.returned (.tuple #[.u x,.bool t])/\U x/\Bw w u:=by
 by_cases Q:rW i.op=true/\Ss i=true
 ·obtain ⟨ho,H⟩:=Q
  have X:1<=i.op/\i.op<=98:=of_decide_eq_true ho
  simp only [Ss,Bool.and_eq_true,decide_eq_true_eq] at H
  obtain ⟨⟨R1,R2⟩,R3⟩:=H
  obtain ⟨F,q,a,b,p⟩:=i
  simp only at X R1 R2 R3 ⊢
  obtain ⟨k,hk⟩:∃ k:Nat,F=(k:Int)+1:=⟨(F-1).toNat,ab⟩
  have hk2:k<98:=ab
  subst hk
  have I:=ew ((k:Int)+1) 1 98
  have J:=ew q 0 31
  have L:=ew a 0 31
  have N:=ew b 0 31
  rw [decide_eq_true ab] at I J L N
  have H1:Hid (∀ w:World,CE 51 #[.i ((k:Int)+1),.i 1,.i 98] w (.bool true)):=I
  have H2:Hid (∀ w:World,CE 51 #[.i q,.i 0,.i 31] w (.bool true)):=J
  have H3:Hid (∀ w:World,CE 51 #[.i a,.i 0,.i 31] w (.bool true)):=L
  have H4:Hid (∀ w:World,CE 51 #[.i b,.i 0,.i 31] w (.bool true)):=N
  clear I J L N ho
  go_enter func165,ntmps165
  go_wp2_with fail
  refine (oA _).mono ?_
  rintro e l ⟨rfl,V,O⟩
  have E:Bw w l:=(bal _ _).trans (O.mono cp)
  have K:Hid (l.heap[w.heap.size]?=some (.cells #[.i ((k:Int)+1),.i q,.i a,.i b,.i p] 69 (0,0))):=by
   show _=_
   rw [O.block _ cp];exact heap_alloc_new _ _
  have q0:l.cell? ⟨w.heap.size,0,none⟩=some (.i ((k:Int)+1)):=(cell_of_row _ _ _ _ _ _ K.out).trans rfl
  have q1:l.cell? ⟨w.heap.size,1,none⟩=some (.i q):=(cell_of_row _ _ _ _ _ _ K.out).trans rfl
  have q2:l.cell? ⟨w.heap.size,2,none⟩=some (.i a):=(cell_of_row _ _ _ _ _ _ K.out).trans rfl
  have q3:l.cell? ⟨w.heap.size,3,none⟩=some (.i b):=(cell_of_row _ _ _ _ _ _ K.out).trans rfl
  obtain ⟨g,hg⟩:∃ g,g=(w.alloc (.cells #[.i ((k:Int)+1),.i q,.i a,.i b,.i p] 69)).heap.size:=⟨_,rfl⟩
  rw [<- hg] at V ⊢
  clear O hg
  obtain ⟨r,Y⟩:∃ r,r=cj k:=⟨_,rfl⟩
  obtain ⟨C0,C1,C2,C3,C4⟩:=V.out.2 k hk2 r Y
  obtain ⟨nm,f,o,z,m⟩:=r
  simp only at C0 C1 C2 C3 C4
  have C:∀ c:Obj,Bw l (l.alloc c):=λc=>(Below.refl _ _).alloc (Nat.le_refl _) c
  have Q1:∀ c:Obj,(l.alloc c).cell? ⟨w.heap.size,1,none⟩=some (.i q):=λc=>(cell_of_row _ _ _ _ _ _ (dB (C c) K.out)).trans rfl
  have Q2:∀ c:Obj,(l.alloc c).cell? ⟨w.heap.size,2,none⟩=some (.i a):=λc=>(cell_of_row _ _ _ _ _ _ (dB (C c) K.out)).trans rfl
  have Q3:∀ c:Obj,(l.alloc c).cell? ⟨w.heap.size,3,none⟩=some (.i b):=λc=>(cell_of_row _ _ _ _ _ _ (dB (C c) K.out)).trans rfl
  have Q4:∀ c:Obj,(l.alloc c).cell? ⟨w.heap.size,4,none⟩=some (.i p):=λc=>(cell_of_row _ _ _ _ _ _ (dB (C c) K.out)).trans rfl
  clear C Y V
  obtain ⟨s,Z⟩:∃ s,s=f.str:=⟨_,rfl⟩
  rw [<- Z] at C1
  have HS:Hid (s=f.str):=Z
  clear Z X R1 R2 R3
  go_wp2_with fail
  refine (H1.out _).mono ?_
  rintro e R ⟨rfl,d⟩
  have j:=d.symm
  subst j
  go_wp2_with fail
  refine (H2.out _).mono ?_
  rintro e R ⟨rfl,d⟩
  have j:=d.symm
  subst j
  go_wp2_with fail
  refine (H3.out _).mono ?_
  rintro e R ⟨rfl,d⟩
  have j:=d.symm
  subst j
  go_wp2_with fail
  refine (H4.out _).mono ?_
  rintro e R ⟨rfl,d⟩
  have j:=d.symm
  subst j
  go_upto_if 63 with fail
  go_cut [7] from 10 (λy wc=>∃ x:Int,y=.u x/\Hid (U x)/\wc=l.alloc (.cells #[.string nm,.string s,.u o,.i z,.u m] 152))
  case first =>
   by_cases hz:0<z
   ·have dz:decide (0<z)=true:=by simpa using hz
    go_wp2_with fail
    go_meet
    exact ⟨_,rfl,ah _ _ _,rfl⟩
   ·have dz:decide (0<z)=false:=by simpa using hz
    go_wp2_with fail
    go_meet
    exact ⟨_,rfl,ah _ _ _,rfl⟩
  case rest =>
   obtain ⟨x,rfl,hx,rfl⟩:=hcut
   have Z:=HS.out
   subst Z
   clear HS
   generalize Uz.wrap p=M at *
   repeat ((fail_if_success (show Code.wp _ (Code.block 0 _) _ _ _));first | go_values | go_skip | go_guarded | go_step | go_upon | go_back | go_simp)
   go_cut [7] from 10 (λy wc=>∃ x:Int,y=.u x/\Hid (U x)/\wc=l.alloc (.cells #[.string nm,.string f.str,.u o,.i z,.u m] 152))
   case first =>
    cases f
    all_goals (
     as_aux_lemma =>
      simp only [Fm.str] at C1 ⊢
      go_wp2_with fail
      go_meet
      exact ⟨_,rfl,(by first | exact ah _ _ _ | exact hx.out),rfl⟩)
   case rest =>
    obtain ⟨x,rfl,hx,rfl⟩:=hcut
    go_wp2_with fail
    refine (Be _ hx.out _).mono ?_
    rintro e G ⟨jo,jr,ja,jb,ji,t,rfl,P⟩
    have T:Hid (G.heap[w.heap.size]?=some (.cells #[.i ((k:Int)+1),.i q,.i a,.i b,.i p] 69 (0,0))):=dB P (dB (bal _ _) K.out)
    have B:Bw w G:=E.trans ((((Below.refl l.heap.size l).alloc (Nat.le_refl _) _).trans (P.mono cp)).mono E.size)
    have A:∀ c:Obj,Bw G (G.alloc c):=λc=>(Below.refl _ _).alloc (Nat.le_refl _) c
    have E0:∀ c:Obj,(G.alloc c).cell? ⟨w.heap.size,0,none⟩=some (.i ((k:Int)+1)):=λc=>(cell_of_row _ _ _ _ _ _ (dB (A c) T.out)).trans rfl
    have E1:∀ c:Obj,(G.alloc c).cell? ⟨w.heap.size,1,none⟩=some (.i q):=λc=>(cell_of_row _ _ _ _ _ _ (dB (A c) T.out)).trans rfl
    have E2:∀ c:Obj,(G.alloc c).cell? ⟨w.heap.size,2,none⟩=some (.i a):=λc=>(cell_of_row _ _ _ _ _ _ (dB (A c) T.out)).trans rfl
    have E3:∀ c:Obj,(G.alloc c).cell? ⟨w.heap.size,3,none⟩=some (.i b):=λc=>(cell_of_row _ _ _ _ _ _ (dB (A c) T.out)).trans rfl
    have E4:∀ c:Obj,(G.alloc c).cell? ⟨w.heap.size,4,none⟩=some (.i p):=λc=>(cell_of_row _ _ _ _ _ _ (dB (A c) T.out)).trans rfl
    clear A P q0 q1 q2 q3 Q1 Q2 Q3 Q4 C0 C1 C2 C3 C4 H1 H2 H3 H4 K E
    cases t with
    | false =>
      as_aux_lemma =>
       go_wp2_with fail
       go_ret2
       exact ⟨_,_,rfl,⟨bc,bc⟩,B.alloc B.size _⟩
    | true =>
      obtain ⟨nb,W⟩:∃ nb,(!(jo==(k:Int)+1&&jr==q&&ja==a&&jb==b&&ji==p))=nb:=⟨_,rfl⟩
      have S:Hid ((!(jo==(k:Int)+1&&jr==q&&ja==a&&jb==b&&ji==p))=nb):=W
      clear W
      cases nb with
      | true =>
        as_aux_lemma =>
         go_wp2_with (refine pf rfl _ _ _ rfl rfl rfl true S.out ?_)
         go_ret2
         exact ⟨_,_,rfl,⟨bc,bc⟩,B.alloc B.size _⟩
      | false =>
        as_aux_lemma =>
         go_wp2_with (refine pf rfl _ _ _ rfl rfl rfl false S.out ?_)
         go_ret2
         exact ⟨_,_,rfl,hx.out,B.alloc B.size _⟩
 ·obtain ⟨F,q,a,b,p⟩:=i
  have D:(decide (1<=F/\F<=98)&&(decide (0<=q/\q<=31)&&decide (0<=a/\a<=31)&&decide (0<=b/\b<=31)))=false:=by
   rw [Bool.eq_false_iff];intro h;rw [Bool.and_eq_true] at h;exact Q h
  simp only
  obtain ⟨t1,ht1⟩:∃ t,t=decide (1<=F/\F<=98):=⟨_,rfl⟩
  obtain ⟨t2,ht2⟩:∃ t,t=decide (0<=q/\q<=31):=⟨_,rfl⟩
  obtain ⟨t3,ht3⟩:∃ t,t=decide (0<=a/\a<=31):=⟨_,rfl⟩
  obtain ⟨t4,ht4⟩:∃ t,t=decide (0<=b/\b<=31):=⟨_,rfl⟩
  have I:=ew F 1 98
  have J:=ew q 0 31
  have L:=ew a 0 31
  have N:=ew b 0 31
  rw [<- ht1] at I D
  rw [<- ht2] at J D
  rw [<- ht3] at L D
  rw [<- ht4] at N D
  have H1:Hid (∀ w:World,CE 51 #[.i F,.i 1,.i 98] w (.bool t1)):=I
  have H2:Hid (∀ w:World,CE 51 #[.i q,.i 0,.i 31] w (.bool t2)):=J
  have H3:Hid (∀ w:World,CE 51 #[.i a,.i 0,.i 31] w (.bool t3)):=L
  have H4:Hid (∀ w:World,CE 51 #[.i b,.i 0,.i 31] w (.bool t4)):=N
  clear I J L N ht1 ht2 ht3 ht4 Q
  go_enter func165,ntmps165
  go_wp2_with fail
  refine (oA _).mono ?_
  rintro e l ⟨rfl,V,O⟩
  have E:Bw w l:=(bal _ _).trans (O.mono cp)
  have K:l.heap[w.heap.size]?=some (.cells #[.i F,.i q,.i a,.i b,.i p] 69 (0,0)):=by
   rw [O.block _ cp];exact heap_alloc_new _ _
  have q0:l.cell? ⟨w.heap.size,0,none⟩=some (.i F):=(cell_of_row _ _ _ _ _ _ K).trans rfl
  have q1:l.cell? ⟨w.heap.size,1,none⟩=some (.i q):=(cell_of_row _ _ _ _ _ _ K).trans rfl
  have q2:l.cell? ⟨w.heap.size,2,none⟩=some (.i a):=(cell_of_row _ _ _ _ _ _ K).trans rfl
  have q3:l.cell? ⟨w.heap.size,3,none⟩=some (.i b):=(cell_of_row _ _ _ _ _ _ K).trans rfl
  clear K O V
  cases t1<;>cases t2<;>cases t3<;>cases t4
  case true.true.true.true=>cases D
  all_goals (
   as_aux_lemma =>
    clear D
    go_wp2_with (go_at_call 51;first | (with_reducible refine (H1.out _).mono ?_;rintro e R ⟨rfl,d⟩;have j:=d.symm;subst j) | (with_reducible refine (H2.out _).mono ?_;rintro e R ⟨rfl,d⟩;have j:=d.symm;subst j) | (with_reducible refine (H3.out _).mono ?_;rintro e R ⟨rfl,d⟩;have j:=d.symm;subst j) | (with_reducible refine (H4.out _).mono ?_;rintro e R ⟨rfl,d⟩;have j:=d.symm;subst j))
    go_ret2
    exact ⟨_,_,rfl,⟨bc,bc⟩,E⟩)
theorem Bg (c1:Nat) (a2:Option Addr) (c2:Nat) (f:Option Addr) (o:Nat) (b2:Option Addr) (p:Nat) (w:World) (a1:Sl .u8 w q l.xs) (r:Sl .u8 w a2 l.ys) (s:Sl .u8 w f l.xs) (h4:Sl .u8 w b2 l.ys): CB 64 #[.agg #[.u l.t,.u l.cm,.bool l.so,.slice q l.xs.length c1,.slice a2 l.ys.length c2,.i l.ir],.agg #[.u l.t,.u l.cm,.bool l.so,.slice f l.xs.length o,.slice b2 l.ys.length p,.i l.ir]] w (.bool true):=by have d:∀ b c,Bw w ((w.alloc b).alloc c):=λb c=>((Below.refl _ _).alloc (Nat.le_refl _) b).alloc cp c;have g:∀ b c,(convert 24 9 (.slice q l.xs.length c1)).run prog ((w.alloc b).alloc c)=.ok (.string (strOfNums l.xs)) ((w.alloc b).alloc c):=λb c=>mr _ _ _ _ _ rfl (a1.below (d b c));have j:∀ b c,(convert 24 9 (.slice a2 l.ys.length c2)).run prog ((w.alloc b).alloc c)=.ok (.string (strOfNums l.ys)) ((w.alloc b).alloc c):=λb c=>mr _ _ _ _ _ rfl (r.below (d b c));have D:∀ b c,(convert 24 9 (.slice f l.xs.length o)).run prog ((w.alloc b).alloc c)=.ok (.string (strOfNums l.xs)) ((w.alloc b).alloc c):=λb c=>mr _ _ _ _ _ rfl (s.below (d b c));have m:∀ b c,(convert 24 9 (.slice b2 l.ys.length p)).run prog ((w.alloc b).alloc c)=.ok (.string (strOfNums l.ys)) ((w.alloc b).alloc c):=λb c=>mr _ _ _ _ _ rfl (h4.below (d b c));clear a1 r s h4;obtain ⟨t,A,F,u,y,B⟩:=l;dsimp only at g j D m ⊢;generalize strOfNums u=G at *;generalize strOfNums y=H at *;generalize u.length=C at *;generalize y.length=E at *;go_enter func64,ntmps64;go_wp2_with fail;go_ret;exact ⟨rfl,d _ _⟩
theorem Rz:CE 20 #[.slice q C G] O (.bool (decide (4096<C))):=by
 by_cases h:4096<C;·have F:Hid (decide (4096<C)=true):=(by show decide (4096<C)=true;simpa using h);have d:decide ((4096:Int)<(C:Int))=true:=bv;clear h;go_enter func20,ntmps20;exact a02
 ·have F:Hid (decide (4096<C)=false):=(by show decide (4096<C)=false;simpa using h);have d:decide ((4096:Int)<(C:Int))=false:=bv;clear h;go_enter func20,ntmps20;exact a02
theorem RC (h:Bn .u8 w f n b t) (hn:n<=4096):∃ cap,Code w f n cap:=by obtain ⟨cap,c,d,e,_⟩:=h.sl;exact ⟨cap,c,hn,d,e⟩
end Go.Proofs.YtjifdmoehfbihaaGreatDoor
