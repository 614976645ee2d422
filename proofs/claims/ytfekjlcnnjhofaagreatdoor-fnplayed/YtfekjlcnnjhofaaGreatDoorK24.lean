/- Own lemmas. -/
import Derived.Test.YtfekjlcnnjhofaaGreatDoorAut
import Derived.Test.YtfekjlcnnjhofaaGreatDoorK14
import Derived.Test.YtfekjlcnnjhofaaGreatDoorK15
import Derived.OpenShut
set_option maxRecDepth 100000
set_option maxHeartbeats 12800000
namespace Go.Proofs.YtfekjlcnnjhofaaGreatDoor
open Go.RowKit Tryz
open IntKind renaming u64->Uz
open Below renaming refl->L6,heap_setCell->N1,heap_alloc->O1
open Bool renaming and_eq_true->K1
open Builtin renaming append_->L0
open Go renaming cell_of_row->A5,World->A6,heap_alloc_new->A8,Addr->A9,Value->C5,TypeId->C6,Calls->D1
open Int renaming eq_ofNat_of_zero_le->G1
open List renaming mem_singleton->I1,getElem?_eq_getElem->I2,getElem_mem->I3,pairwise_cons->I4,map_append->I5,mem_cons->K0
open Lit renaming int->H8
open Nat renaming le_refl->D2,zero_add->D3,ne_of_gt->D4
open Value renaming int->D8,slice->F0,ownBlock->F3
set_option linter.unusedVariables false
variable {w a g:A6} {n b c r D d m k:Nat} {f e o:Option A9} {x:DV} {T:Int} {t:List Int} {y:C6} {A E:Array C5} {Q:Oper} {j:Act} {p:Exit->Act->A6->Prop} (B:Int) (K:DV) (l:Option A9) (q:List Int) (s:C6) (z:Nat) (C:Option A9) (F:Nat) (G:List Int) (I:Option A9) (J M:Nat) (N:A6)
theorem Ve (c: -9223372036854775808<=T) (d:T<=9223372036854775807):(H8 .i64 T).wf:=by have b:IntKind.i64.min=-9223372036854775808:=rfl;have a:IntKind.i64.max=9223372036854775807:=rfl;simp only [Lit.wf,K1,JZ6];omega
theorem Cs.keep (h:Cs a b f n r w g) {k:Nat} {o:Obj} (hk:w.heap[k]?=some o) (d:k≠b):g.heap[k]?=some o:=by
 by_cases c:k<w.heap.size;·rw [h.2.block k c (by simp [d])];exact hk
 ·rw [Array.getElem?_eq_none ab] at hk;cases hk
theorem ma.lt (h:ma a w b f n r):b<w.heap.size:=by
 obtain ⟨i,x,_,d⟩:=h.row;by_cases c:b<w.heap.size;·exact c
 ·rw [Array.getElem?_eq_none ab] at d;cases d
theorem lu (q:Code w f n t) (m:A6) (F:ma w m b f n c): D1 prog 54 #[.p b 0] m λe L=>∃ x:Int,e=.returned (.u x)/\(0<=x/\x<18446744073709551616)/\Hid (Cs w b f n c m L):=by
 have A:Hid (Code w f n t):=q;have E:Hid (ma w m b f n c):=F;clear q F;go_enter func54,ntmps54;go_wp2_with fail;go_loopw [3,4] (λh i wr=>∃ (k:Nat) (x:Int),k<=8/\h=.u x/\i=.i k/\(0<=x/\x<18446744073709551616)/\Hid (Cs w b f n c m wr))
  (λ_ i _=>8-(intOf i).toNat)
 case atStart=>exact ⟨0,0,Nat.zero_le _,rfl,rfl,ab,Cs.refl E.out⟩
 case round =>
  obtain ⟨k,x,M,rfl,rfl,⟨j,l⟩,r⟩:=hrel;by_cases J:k<8
  ·go_wp2_with fail;refine (kF A.out _ r.out.1).mono ?_;rintro e p ⟨y,rfl,⟨s,zs⟩,cap⟩;obtain ⟨z,N⟩:∃ z,z=Uz.wrap (Uz.wrap (x*256)+y):=⟨_,rfl⟩;go_wp2_with fail;go_roundw;case rel =>refine ⟨k+1,_,ab,rfl,by go_num,?_,r.out.trans cap.out⟩;rw [IntKind.wrap_u64];omega
   case measure=>simp [intOf];omega
  ·go_wp2_with fail;refine (az A.out 5 ab _ r.out.1).mono ?_;rintro e p ⟨y,rfl,⟨s,zs⟩,cap⟩;have g:Hid (Cs w b f n c m p):=r.out.trans cap.out;have K:0<=x%100/\x%100<18446744073709551616:=ab;have C:0<=Uz.wrap (wrap64 x/1099511627776)/\Uz.wrap (wrap64 x/1099511627776)<18446744073709551616:=dv;obtain ⟨k,rfl⟩:=G1 s;match k,zs with
   | 0,_ =>
     go_wp2_with fail;have D:Hid (ma w (p.alloc (.cells #[.u 0,.u 1,.u 18446744073709551615,.u 9223372036854775808,.u 9223372036854775807,.u 2147483648,.u 2147483647,.u 18446744071562067968,.u 4294967295,.u 64] 24)) b f n c):=cap.out.1.grown (mz _ _ _);refine (az A.out 10 ab _ D.out).mono ?_;rintro e u ⟨y,rfl,⟨j,l⟩,a⟩;obtain ⟨k,rfl⟩:=G1 j;have o:u.heap[p.heap.size]?=some (.cells #[.u 0,.u 1,.u 18446744073709551615,.u 9223372036854775808,.u 9223372036854775807,.u 2147483648,.u 2147483647,.u 18446744071562067968,.u 4294967295,.u 64] 24 (0,0)):=a.out.keep (A8 _ _) (D4 cap.out.1.lt);obtain ⟨v,G,B⟩:∃ v:Int,(0<=v/\v<18446744073709551616)/\u.cell? ⟨p.heap.size,k,none⟩=some (.u v):=by
      have d:=A5 u p.heap.size k _ _ _ o;match k,l with
      | 0,_=>exact ⟨_,ab,d⟩
      | 1,_=>exact ⟨_,ab,d⟩
      | 2,_=>exact ⟨_,ab,d⟩
      | 3,_=>exact ⟨_,ab,d⟩
      | 4,_=>exact ⟨_,ab,d⟩
      | 5,_=>exact ⟨_,ab,d⟩
      | 6,_=>exact ⟨_,ab,d⟩
      | 7,_=>exact ⟨_,ab,d⟩
      | 8,_=>exact ⟨_,ab,d⟩
      | 9,_=>exact ⟨_,ab,d⟩
      | k+10,h=>exact absurd h ab
     have I:Hid (0<=v/\v<18446744073709551616):=G;have H:Hid (Cs w b f n c m u):=⟨a.out.1,aY g.out.2 (aY (mz _ _ _) a.out.2)⟩;clear o G r cap a D E g;go_wp2_with fail;go_ret;exact ⟨_,rfl,I.out,H⟩
   | 1,_ =>go_wp2_with fail;go_ret;exact ⟨_,rfl,K,g⟩
   | 2,_ =>go_wp2_with fail;go_ret;exact ⟨_,rfl,C,g⟩
   | 3,_ =>go_wp2_with fail;go_ret;exact ⟨_,rfl,⟨j,l⟩,g⟩
   | 4,_ =>go_wp2_with fail;go_ret;exact ⟨_,rfl,⟨j,l⟩,g⟩
   | k+5,h=>exact absurd h ab
theorem Cs.alloc {w:A6} (h:ma a w b f n c) (o:Obj):Cs a b f n c w (w.alloc o):=⟨h.grown (mz _ _ _),mz _ _ _⟩
theorem sV (hr:w.heap[b]?=some (.cells (q.map (D8 .u64)).toArray s (0,0))) (a:∀ x ∈ q,U x) (hk:k<q.length):∃ v,U v/\w.cell? ⟨b,k,none⟩=some (.u v):=by refine ⟨q[k],a _ (I3 hk),?_⟩;rw [A5 _ _ _ _ _ _ hr];simp [I2 hk]
theorem OG (hr:w.heap[b]?=some (.cells (q.map (D8 .i64)).toArray s (0,0))) (a:∀ x ∈ q,(H8 .i64 x).wf) (hk:k<q.length):∃ v,(H8 .i64 v).wf/\w.cell? ⟨b,k,none⟩=some (.i v):=by refine ⟨q[k],a _ (I3 hk),?_⟩;rw [A5 _ _ _ _ _ _ hr];simp [I2 hk]
theorem Cs.of_below (wx:ma a w b f n c) (hb:Bw w g):Cs a b f n c w g:=by have e:=wx.lt;obtain ⟨i,x,cap,d⟩:=wx.row;exact ⟨⟨wx.new,aa wx.below hb,i,x,cap,by rw [hb.block b e];exact d⟩,⟨hb.os,hb.tape,hb.output,hb.size,λk h _=>hb.block k h⟩⟩
theorem Vf:(prog.info? 2).map (λi=>(i.zero,i.size,i.bytes))=some (some (.i 0),1,8):=by kernel_rfl
theorem xk {zs:List Int} (D:Code w e n zs) (r:A6) (hc:ma w r b e n c): D1 prog 82 #[.p b 0] r λa w'=>∃ x:Int,a=.returned (.i x)/\(H8 .i64 x).wf/\Hid (Cs w b e n c r w'):=by
 have O:Hid (Code w e n zs):=D;have I:Hid (ma w r b e n c):=hc;obtain ⟨i0,hi,hz0,hz1,hz2⟩:=info_parts Vf;have T:(22+5)*8<=140737488355328:=ab
 have X:22+5<=maxLen:=by unfold maxLen;omega
 have C:∀ u ∈ ([256,260,324,3860,769]:List Int).map (D8 .i64),u.oneCell':=ints_oneCell _ _;have o:∀ (W:A6) (j:Nat) (u:C5),(([256,260,324,3860,769]:List Int).map (D8 .i64))[j]?=some u->(W.alloc (.cells #[.i 256,.i 260,.i 324,.i 3860,.i 769] 2)).cell? ((⟨W.heap.size,0,none⟩:A9).add j)=some u:=by intro W j u hu;rw [zt,D3,A5 _ _ _ _ _ _ (A8 _ _)];rw [<- hu];simp
 have HN:Hid (∀ (W:A6) (j:Nat) (u:C5),(([256,260,324,3860,769]:List Int).map (D8 .i64))[j]?=some u->(W.alloc (.cells #[.i 256,.i 260,.i 324,.i 3860,.i 769] 2)).cell? ((⟨W.heap.size,0,none⟩:A9).add j)=some u):=o;clear D hc o;go_enter func82,ntmps82;go_wp2_with fail;refine (pW _).mono ?_;rintro a M ⟨rfl,q⟩;have G:M.ownsRow r.heap.size 2 1 (.slice (some ⟨r.heap.size,0,none⟩) 22 22) 22 (dV.map (D8 .i64)):=by rw [q];exact World.ownsRow_lit r _ 22 (D2 _) fb rfl
 have t:Bw r M:=by rw [q];exact bal _ _
 have hE:=G.alloc (.cells #[.i 256,.i 260,.i 324,.i 3860,.i 769] 2);have F:r.heap.size<M.heap.size:=by rw [q];simp
 clear q G;go_wp2_with (at_builtin;refine wpList_append_own _ rfl (.tmp 4) (.tmp 5) 56 rfl _ 2 i0 (.i 0) 1 8 underlying56 hi hz0 hz1 hz2 rfl bc _ 22 (dV.map (D8 .i64)) (by rfl) hE ⟨M.heap.size,0,none⟩ 5 5 (([256,260,324,3860,769]:List Int).map (D8 .i64)) rfl rfl (HN.out _) C X T bv ?_;intro v' w2 d l y);obtain ⟨g2,c2,z,E⟩:=jV d ab;have B2:Bw r w2:=Below.grown (t.alloc t.size _) l bv (by intro k K;simp [F3] at K;omega);have s:Hid (Cs w b e n c r w2):=Cs.of_below I.out B2;obtain ⟨L,J⟩:∃ L,L=dV++([256,260,324,3860,769]:List Int):=⟨_,rfl⟩;rw [z,<- I5,<- J] at d;have S:Hid (∀ x ∈ L,(H8 .i64 x).wf):=by rw [J];show ∀ x ∈ _,_;decide
 have B:Hid (L.length=27):=by rw [J];rfl
 have HO:Hid (w2.ownsRow r.heap.size 2 1 (.slice (some ⟨g2,0,none⟩) 27 c2) 27 (L.map (D8 .i64))):=d;have P:Hid (b<g2):=Nat.lt_of_lt_of_le I.out.lt E;rw [z];clear J d l y z hE t F HN C E B2;go_wp2_with fail;refine (bA O.out 14 ab _ s.out.1).mono ?_;rintro a w3 ⟨cap,rfl,f⟩;cases cap with
 | true =>go_wp2_with fail;have N:=Cs.alloc f.out.1 (.cells #[.i 0,.i 1,.i 769,.i 2816,.i 3072,.i 4095] 2);refine (az O.out 6 ab _ N.1).mono ?_;rintro a w4 ⟨x,rfl,⟨A,Z⟩,m⟩;obtain ⟨k,rfl⟩:=G1 A;obtain ⟨v,hv,U⟩:=OG [0,1,769,2816,3072,4095] 2 (m.out.keep (A8 _ _) (D4 f.out.1.lt)) bc (k:=k) bv;have R:Hid ((H8 .i64 v).wf):=hv;have Q:Hid (Cs w b e n c r w4):=s.out.trans (f.out.trans (N.trans m.out));clear hv f m N I;go_wp2_with fail;go_ret;exact ⟨_,rfl,R.out,Q⟩
 | false =>go_wp2_with fail;refine (az O.out 27 ab _ f.out.1).mono ?_;rintro a w4 ⟨x,rfl,⟨A,Z⟩,m⟩;obtain ⟨k,rfl⟩:=G1 A;have p:=f.out.trans m.out;have H:=zu HO.out p.2 (by intro j hj Y;have:=P.out;simp [F3] at hj Y;omega);obtain ⟨g,off,a,_,V⟩:=kI H k (by have:=B.out;omega);simp only [Option.some.injEq,Addr.mk.injEq,and_true] at a;obtain ⟨rfl,rfl⟩:=a;rw [D3] at V;have R:Hid ((H8 .i64 (L.getD k 0)).wf):=(by have K:k<L.length:=(by have:=B.out;omega);have a:L.getD k 0=L[k]:=(by simp [List.getD,I2 K]);show (H8 .i64 (L.getD k 0)).wf=true;rw [a];exact S.out _ (I3 K));generalize L.getD k 0=v at *;have Q:Hid (Cs w b e n c r w4):=s.out.trans p;clear H p f m I;go_wp2_with fail;go_ret;exact ⟨_,rfl,R.out,Q⟩
def Rm (d:A6) (g:Nat) (a:Option A9) (n cap:Nat) (w:A6) (b m:Nat) (wr:A6):Prop :=
 ∃ c:List Int,(∀ y ∈ c,(H8 .u8 y).wf)/\wr.ownsRow w.heap.size 5 1 (.slice (some ⟨b,0,none⟩) m m) m (c.map (D8 .u8))/\Cs d g a n cap w wr/\g<w.heap.size/\w.heap.size<=b
theorem Rm.next {wr:A6} (h:Rm a c f n r w b m wr) (k:Cs a c f n r wr g):Rm a c f n r w b m g:=by obtain ⟨q,p,o,cap,i,e⟩:=h;refine ⟨q,p,zu o k.2 ?_,cap.trans k,i,e⟩;intro j l d;simp [F3] at l d;omega
theorem Rm.cur {wr:A6} (h:Rm a c f n r w b m wr):ma a wr c f n r:=by obtain ⟨k,j,i,d,cap,e⟩:=h;exact d.1
theorem Vr (c:0<=T) (d:T<=255):(H8 .u8 T).wf:=by have b:IntKind.u8.min=0:=rfl;have a:IntKind.u8.max=255:=rfl;simp only [Lit.wf,K1,JZ6];omega
theorem DO:∀ y ∈ List.replicate z (0:Int),(H8 .u8 y).wf:=by intro y a;rw [(List.mem_replicate.mp a).2];decide
theorem DQ {w:A6} (v:C5) (zs:List Int) (g:w.ownsRow z 5 1 v F (zs.map (D8 .u8))) (hn:F<=1048576) (ad:A9) (c:Nat) (b:Int) (a:∀ j u,[D8 .u8 b][j]?=some u->w.cell? (ad.add j)=some u) (h:z<=w.heap.size): ∃ d f i,(L0 #[22,22] s #[v,.slice (some ad) 1 c]).run prog w=.ok (.slice d (F+1) f) i/\i.ownsRow z 5 1 (.slice d (F+1) f) (F+1) ((zs++[b]).map (D8 .u8))/\w.grownBy i v.ownBlock/\((F0 d (F+1) f).ownBlock=v.ownBlock\/(F0 d (F+1) f).ownBlock=some w.heap.size):=by
 obtain ⟨y,ty,k,l,m⟩:=info_parts info5;obtain ⟨base,i,p,o,r,C⟩:=run_append_own (P:=prog) w z 22 s 5 y (.int .u8 0) 1 1 underlying22 ty k l m rfl bc v F (zs.map (D8 .u8)) g ad 1 c [.int .u8 b] rfl a ia fb ab h;have x:=qI s g ad c b a hn p;have t:∃ d f,base=.slice d (F+1) f:=by
  rcases o.2 with ⟨_,A⟩|⟨B,cap,q,e,_⟩;·omega
  ·exact ⟨_,_,e⟩
 obtain ⟨d,f,rfl⟩:=t;exact ⟨d,f,i,p,by rw [I5];exact o,r,x⟩
structure Dc (w0:A6) (g:Nat) (a:Option A9) (n cap:Nat) (w:A6) (r b:Nat) (T:C6) (rs cs:Array C5) (wr:A6):Prop where
 row:wr.heap[b]?=some (.cells cs T (0,0))
 res:wr.heap[r]?=some (.cells rs T (0,0))
 cu:Cs w0 g a n cap w wr
 glt:g<r
 rlt:r<b
 wle:w.heap.size<=r
theorem blk {o:Obj} (h:w.heap[n]?=some o):n<w.heap.size:=(Array.getElem?_eq_some_iff.1 h).1
theorem Dc.next {wr:A6} (h:Dc a c f n D w r b y A E wr) (k:Cs a c f n D wr g):Dc a c f n D w r b y A E g:=by have e:=h.glt;have cap:=h.rlt;have keep:∀ j o,j≠c->wr.heap[j]?=some o->g.heap[j]?=some o:=λj o i d=>(k.2.block j (blk d) bv).trans d;exact ⟨keep _ _ ab h.row,keep _ _ ab h.res,h.cu.trans k,e,cap,h.wle⟩
theorem Dc.drew {wr:A6} (h:Dc a c f n D w r b y A E wr):Dc a c f n D w r b y A E wr.drew:=⟨h.row,h.res,⟨h.cu.1.grown (m7 wr 1 none),aY h.cu.2 (m7 wr 1 _)⟩,h.glt,h.rlt,h.wle⟩
theorem Cs.setc {wr:A6} (h:Cs a b f n c w wr) (k i:Nat) (v:C5) (hk:w.heap.size<=k) (cap:b≠k) (d:a.heap.size<=k):Cs a b f n c w (wr.setCell ⟨k,i,none⟩ v):=by obtain ⟨j,x,l,e⟩:=h.1.row;refine ⟨⟨h.1.new,h.1.below.setCell d v,j,x,l,(N1 wr ⟨k,i,none⟩ v b cap).trans e⟩,h.2.os,h.2.tape,h.2.output,by rw [aO];exact h.2.size,λq m g=>?_⟩;rw [N1 wr ⟨k,i,none⟩ v q cb];exact h.2.block q m g
theorem Dc.put {wr:A6} (h:Dc a c f n D w r b y A E wr) (i:Nat) (v:C5):Dc a c f n D w r b y A (E.setIfInBounds i v) (wr.setCell ⟨b,i,none⟩ v):=by have d:=h.glt;have e:=h.rlt;have cap:=h.wle;have j:=h.cu.1.new;exact ⟨bH h.row i v,fT h.res ⟨b,i,none⟩ v cb,h.cu.setc b i v ab ab ab,d,e,cap⟩
theorem Dc.on {wr:A6} (h:Dc a c f n d w r b y A E wr) (k:lG (b+1) D wr g):Dc a c f n d w r b y A E g:=by have l:=h.glt;have p:=h.rlt;have s:=h.wle;have u:=blk h.row;have t:=h.cu.1.new;obtain ⟨j,x,cap,i⟩:=h.cu.1.row;have keep:∀ j o,j<b+1->wr.heap[j]?=some o->g.heap[j]?=some o:=λj o cap T=>(k.block j (blk T) (.inl cap)).trans T;exact ⟨keep _ _ ab h.row,keep _ _ ab h.res,⟨⟨h.cu.1.new,h.cu.1.below.trans (k.below ab (by have:=h.cu.1.below.size;omega)),j,x,cap,keep _ _ ab i⟩,k.os.trans h.cu.2.os,k.tape.trans h.cu.2.tape,k.output.trans h.cu.2.output,Nat.le_trans h.cu.2.size k.size,λq m e=>(k.block q ab (.inl ab)).trans (h.cu.2.block q m e)⟩,l,p,s⟩
structure Dx (w0:A6) (g:Nat) (a:Option A9) (n cap:Nat) (w:A6) (r b:Nat) (D:DV) (a1:Option A9) (c1:Nat) (a2:Option A9) (c2:Nat) (wr:A6):Prop where
 c:Dc w0 g a n cap w r b 27 (fl zeroD none 0 none 0) (fl D a1 c1 a2 c2) wr
 fam:bj (b+1) wr.heap.size wr (pP D a1 c1 a2 c2)
theorem Dx.next {wr:A6} (h:Dx a c f n D w r b x e d o m wr) (k:Cs a c f n D wr g):Dx a c f n D w r b x e d o m g:=by have i:=h.c.glt;have l:=h.c.rlt;exact ⟨h.c.next k,(h.fam.mono λj c2 c1 wx=>k.2.block j wx bv).low (D2 _) k.2.size⟩
theorem Dx.drew {wr:A6} (h:Dx a c f n D w r b x e d o m wr):Dx a c f n D w r b x e d o m wr.drew:=⟨h.c.drew,h.fam.mono λj _ _ _=>rfl⟩
theorem Dx.cur {wr:A6} (h:Dx a c f n D w r b x e d o m wr):ma a wr c f n D:=h.c.cu.1
theorem OH (hm:G.length=J):(fl K l z C F).setIfInBounds 3 (.slice I J M)=fl ⟨K.t,K.cm,K.so,G,K.ys,K.ir⟩ I M C F:=by subst hm;rfl
theorem IF (hm:G.length=J):(fl K l z C F).setIfInBounds 4 (.slice I J M)=fl ⟨K.t,K.cm,K.so,K.xs,G,K.ir⟩ l z I M:=by subst hm;rfl
theorem Dx.cmp {wr:A6} (h:Dx a c f n D w r b x e d o m wr) (a2:Int):Dx a c f n D w r b ⟨x.t,a2,x.so,x.xs,x.ys,x.ir⟩ e d o m (wr.setCell ⟨b,1,none⟩ (.u a2)):=
 ⟨h.c.put 1 (.u a2),(h.fam.set ⟨b,1,none⟩ _ (.inl cb)).low (D2 _) ep⟩
theorem bj.pushOut {ys:List Int} (h:bj n b w (eX f d c t e r D ys)) (p:b<=w.heap.size) (B:w.grownBy a (F0 e r D).ownBlock) {a1:Option A9} {m g:Nat} {zs:List Int} (o:a.ownsRow n 5 1 (.slice a1 m g) m (zs.map (D8 .u8))) (c1:(F0 a1 m g).ownBlock=(F0 e r D).ownBlock\/(F0 a1 m g).ownBlock=some w.heap.size):bj n a.heap.size a (eX f d c t a1 m g zs):=by
 have E:=(I4.1 h.ne).1 (aE e r D ys) (I1.2 rfl);have j:=h.own (aE f d c t) tk;have l:=h.hi (aE f d c t) tk;refine ⟨λi w'=>?_,λi w' k a2=>?_,I4.2 ⟨λi w' k a2 e2=>?_,List.pairwise_singleton _ _⟩⟩
 ·rcases K0.1 w' with rfl | w';·exact dQ j (λk a2=>B.block k (j.lt k a2).2 (λe2=>E k a2 e2.symm))
  ·rw [I1.1 w'];exact o
 ·rcases K0.1 w' with rfl|w';·have:=(j.lt k a2).2;have:=B.size;omega
  ·rw [I1.1 w'] at a2;exact (o.lt k a2).2
 ·rw [I1.1 w'] at e2;rcases c1 with c1|c1;·exact E k a2 (c1.symm.trans e2)
  ·have e3:some w.heap.size=some k:=c1.symm.trans e2;cases e3;have:=l _ a2;omega
theorem Dx.pushIn {wr:A6} (h:Dx a c f n D w r b x e d o m wr) (hl:x.xs.length<=1048576) (y:Int) (ty:C6):∃ (c1:Option A9) (q:Nat) (g:A6),(L0 #[22,22] ty #[.slice e x.xs.length d,.slice (some ⟨wr.heap.size,0,none⟩) 1 1]).run prog (wr.alloc (.cells #[.int .u8 y] 5))=.ok (.slice c1 (x.xs.length+1) q) g/\g.cell? ⟨b,3,none⟩=some (.slice e x.xs.length d)/\g.frozen? ⟨b,3,none⟩=false /\ Dx a c f n D w r b ⟨x.t,x.cm,x.so,x.xs++[y],x.ys,x.ir⟩ c1 q o m (g.setCell ⟨b,3,none⟩ (.slice c1 (x.xs.length+1) q)):=by
 have A:=blk h.c.row;have l:bj (b+1) wr.heap.size (wr.alloc (.cells #[.int .u8 y] 5)) (eX e x.xs.length d x.xs o x.ys.length m x.ys):=h.fam.below (bal _ _);have i:=l.own (aE e x.xs.length d x.xs) tk;obtain ⟨c1,q,g,u,t,cap,a2⟩:=DQ ty (b+1) x.xs.length _ x.xs i hl ⟨wr.heap.size,0,none⟩ 1 y (qK wr y) j1;have a1:=l.pushIn j1 cap t a2;have z:lG (b+1) g.heap.size wr g:=by have v:=cap.size;rw [World.size_alloc] at v;exact ⟨cap.os,cap.tape,cap.output,ab,λk p s=>(cap.block k j1 (λc2=>by have:=(i.lt k c2.symm).1;omega)).trans (O1 wr _ k p)⟩
 have j:=h.c.on z;refine ⟨c1,q,g,u,(aQ j.row).2.2.2.1,dD j.row 3,?_,?_⟩;·rw [<- OH x e d o m (x.xs++[y]) c1 (x.xs.length+1) q di];exact j.put 3 _
 ·unfold pP;dsimp only;rw [show (x.xs++[y]).length=x.xs.length+1 by simp];exact (a1.set ⟨b,3,none⟩ _ (.inl cb)).low (D2 _) ep
theorem Dx.pushOut {wr:A6} (h:Dx a c f n D w r b x e d o m wr) (hl:x.ys.length<=1048576) (y:Int) (ty:C6):∃ (c1:Option A9) (q:Nat) (g:A6),(L0 #[22,22] ty #[.slice o x.ys.length m,.slice (some ⟨wr.heap.size,0,none⟩) 1 1]).run prog (wr.alloc (.cells #[.int .u8 y] 5))=.ok (.slice c1 (x.ys.length+1) q) g/\g.cell? ⟨b,4,none⟩=some (.slice o x.ys.length m)/\g.frozen? ⟨b,4,none⟩=false /\ Dx a c f n D w r b ⟨x.t,x.cm,x.so,x.xs,x.ys++[y],x.ir⟩ e d c1 q (g.setCell ⟨b,4,none⟩ (.slice c1 (x.ys.length+1) q)):=by
 have A:=blk h.c.row;have l:bj (b+1) wr.heap.size (wr.alloc (.cells #[.int .u8 y] 5)) (eX e x.xs.length d x.xs o x.ys.length m x.ys):=h.fam.below (bal _ _);have i:=l.own (aE o x.ys.length m x.ys) tk;obtain ⟨c1,q,g,u,t,cap,a2⟩:=DQ ty (b+1) x.ys.length _ x.ys i hl ⟨wr.heap.size,0,none⟩ 1 y (qK wr y) j1;have a1:=l.pushOut j1 cap t a2;have z:lG (b+1) g.heap.size wr g:=by have v:=cap.size;rw [World.size_alloc] at v;exact ⟨cap.os,cap.tape,cap.output,ab,λk p s=>(cap.block k j1 (λc2=>by have:=(i.lt k c2.symm).1;omega)).trans (O1 wr _ k p)⟩
 have j:=h.c.on z;refine ⟨c1,q,g,u,(aQ j.row).2.2.2.2.1,dD j.row 4,?_,?_⟩;·rw [<- IF x e d o m (x.ys++[y]) c1 (x.ys.length+1) q di];exact j.put 4 _
 ·unfold pP;dsimp only;rw [show (x.ys++[y]).length=x.ys.length+1 by simp];exact (a1.set ⟨b,4,none⟩ _ (.inl cb)).low (D2 _) ep
theorem Dx.newIn {wr:A6} (h:Dx a c f n D w r b x e d o m wr) (c1:Option A9) (cap q:Nat) (zs:List Int) (hz:zs.length=cap) (i:g.ownsRow wr.heap.size 5 1 (.slice c1 cap q) cap (zs.map (D8 .u8))) (hb:Bw wr g):g.cell? ⟨b,3,none⟩=some (.slice e x.xs.length d)/\g.frozen? ⟨b,3,none⟩=false/\Dx a c f n D w r b ⟨x.t,x.cm,x.so,zs,x.ys,x.ir⟩ c1 q o m (g.setCell ⟨b,3,none⟩ (.slice c1 cap q)):=by
 have c2:=blk h.c.row;have wx:=h.c.on (lG.of_below (E:=g.heap.size) hb);refine ⟨(aQ wx.row).2.2.2.1,dD wx.row 3,?_,?_⟩;·rw [<- OH x e d o m zs c1 cap q hz];exact wx.put 3 _
 ·unfold pP;dsimp only;rw [hz];exact ((bj.newIn (h.fam.below hb) c1 cap q zs _ g.heap.size i (D2 _) ab (D2 _) hb.size).set ⟨b,3,none⟩ _ (.inl cb)).low (D2 _) ep
theorem Dx.newOut {wr:A6} (h:Dx a c f n D w r b x e d o m wr) (c1:Option A9) (cap q:Nat) (zs:List Int) (hz:zs.length=cap) (i:g.ownsRow wr.heap.size 5 1 (.slice c1 cap q) cap (zs.map (D8 .u8))) (hb:Bw wr g):g.cell? ⟨b,4,none⟩=some (.slice o x.ys.length m)/\g.frozen? ⟨b,4,none⟩=false/\Dx a c f n D w r b ⟨x.t,x.cm,x.so,x.xs,zs,x.ir⟩ e d c1 q (g.setCell ⟨b,4,none⟩ (.slice c1 cap q)):=by
 have c2:=blk h.c.row;have wx:=h.c.on (lG.of_below (E:=g.heap.size) hb);refine ⟨(aQ wx.row).2.2.2.2.1,dD wx.row 4,?_,?_⟩;·rw [<- IF x e d o m zs c1 cap q hz];exact wx.put 4 _
 ·unfold pP;dsimp only;rw [hz];exact ((bj.newOut (h.fam.below hb) c1 cap q zs _ g.heap.size i (D2 _) ab (D2 _) hb.size).set ⟨b,4,none⟩ _ (.inl cb)).low (D2 _) ep
structure ly (D:DV) (k1 k2:Nat):Prop where
 t:U D.t
 cm:U D.cm
 ir:D.ir=0\/D.ir=1
 by_:cS D
 l1:D.xs.length<=k1
 l2:D.ys.length<=k2
def Xa (y:Int):Int:=Uz.wrap y
def RU (i:Ins):Bool:=decide (0<=i.rd/\i.rd<=31)&&decide (0<=i.a/\i.a<=31)&&decide (0<=i.b/\i.b<=31)
theorem OI:∃ (j:Ins) (t:Bool),mj B=.tuple #[.agg #[.i j.op,.i j.rd,.i j.a,.i j.b,.i j.imm],.bool t]/\(t->Cc B=some j)/\(t=false->Cc B=none):=by
 unfold mj;cases h:Cc B with
 | none=>exact ⟨pY,false,rfl,di,di⟩
 | some i=>exact ⟨i,true,rfl,di,di⟩
theorem Gp:prog.stoodInHeld 88=false:=by kernel_rfl
theorem Gq:prog.eqGuardType prog.depth 88=false:=by kernel_rfl
theorem DR (b c d e f b' c' g i:Int) (w:A6): (binOp .neq 88 (.agg #[.i B,.i b,.i c,.i d,.i e]) (.agg #[.i f,.i b',.i c',.i g,.i i])).run prog w=.ok (.bool (!(B==f&&b==b'&&c==c'&&d==g&&e==i))) w:=by
 rw [run_neq_struct,run_equalIn_struct w 9999 _ _ _ (by rw [Program.fieldsOf,underlying88]) Gp];simp only [Program.fieldsOf,underlying88];have P:∀ (k:Nat) (j l m n o v:C5),(#[j,l,m,n,o]:Array C5)[k]?=some v->∀ w,(part 2 #[j,l,m,n,o] k).run prog w=.ok v w:=by intro k j l m n o v h w;simp [part,isAgg,run_underlying underlying2,h]
 have Q:∀ (x y:Int) (w:A6),(Op.equalIn 9999 2 (.i x) (.i y)).run prog w=.ok (x==y) w:=λx y w=>run_equalIn_int w 9998 2 .i64 .i64 x y underlying2;simp [Op.eqFields,Sem.run_bind,P 0 _ _ _ _ _ _ rfl,P 1 _ _ _ _ _ _ rfl,P 2 _ _ _ _ _ _ rfl,P 3 _ _ _ _ _ _ rfl,P 4 _ _ _ _ _ _ rfl,Q];by_cases p:B=f<;>by_cases q:b=b'<;>by_cases r:c=c'<;>by_cases s:d=g<;>by_cases t:e=i<;>simp [p,q,r,s,t]
theorem Gr {K:Act->A6->Prop} {b c d e f b' c' g i:Int} (x y:Operand) (t:C6) (o:Q.op=.binOp .neq 88 x y t) (hx:j.eval x=.agg #[.i T,.i b,.i c,.i d,.i e]) (hy:j.eval y=.agg #[.i f,.i b',.i c',.i g,.i i]) (nb:Bool) (hn:(!(T==f&&b==b'&&c==c'&&d==g&&e==i))=nb) (h:K (j.put Q.dst (.bool nb)) w):Q.wp prog j w K p:=by subst hn;unfold Oper.wp execOp;simp only [o,hx,hy,Sem.run_bind,run_eqGuard_agg w _ _ _ _ _ _ Gq,DR,Result.andThen_ok];exact h
theorem pg {f:Array Oper} {rest:List Oper} {b c d e g b' c' i o:Int} (l:Region.wanted Q (yielded f j.tmps)) (x y:Operand) (t:C6) (k:Q.op=.binOp .neq 88 x y t) (hx:j.eval x=.agg #[.i T,.i b,.i c,.i d,.i e]) (hy:j.eval y=.agg #[.i g,.i b',.i c',.i i,.i o]) (nb:Bool) (hn:(!(T==g&&b==b'&&c==c'&&d==i&&e==o))=nb) (h:wpList prog f p rest (j.put Q.dst (.bool nb)) w):wpList prog f p (Q::rest) j w:=by unfold wpList;rw [JZ8 l];exact Or.inl (Gr x y t k hx hy nb hn h)
theorem Bh (h:U B) (w:A6):D1 prog 68 #[.u B] w λe a=>∃ (g i c d f:Int) (t:Bool),e=.returned (.tuple #[.agg #[.i g,.i i,.i c,.i d,.i f],.bool t])/\Bw w a:=by obtain ⟨j,t,b,_,_⟩:=OI B;exact (oX B h.1 h.2 w).mono λe a k=>⟨j.op,j.rd,j.a,j.b,j.imm,t,by rw [k.1,b],k.2⟩
theorem Bi (i:Ins) (w:A6):D1 prog 52 #[.agg #[.i i.op,.i i.rd,.i i.a,.i i.b,.i i.imm]] w λe u=>∃ (x:Int) (t:Bool),e=.returned (.tuple #[.u x,.bool t])/\U x/\Bw w u:=by
 by_cases Q:rW i.op/\RU i
 ·obtain ⟨ho,H⟩:=Q
  have X:1<=i.op/\i.op<=98:=of_decide_eq_true ho
  simp only [RU,K1,JZ6] at H
  obtain ⟨⟨R1,R2⟩,R3⟩:=H
  obtain ⟨F,q,a,b,p⟩:=i
  simp only at X R1 R2 R3 ⊢
  obtain ⟨k,hk⟩:∃ k:Nat,F=(k:Int)+1:=⟨(F-1).toNat,ab⟩
  have hk2:k<98:=ab
  subst hk
  have I:=eH ((k:Int)+1) 1 98
  have J:=eH q 0 31
  have L:=eH a 0 31
  have N:=eH b 0 31
  rw [decide_eq_true ab] at I J L N
  have H1:Hid (∀ w:A6,CE 47 #[.i ((k:Int)+1),.i 1,.i 98] w (.bool true)):=I
  have H2:Hid (∀ w:A6,CE 47 #[.i q,.i 0,.i 31] w (.bool true)):=J
  have H3:Hid (∀ w:A6,CE 47 #[.i a,.i 0,.i 31] w (.bool true)):=L
  have H4:Hid (∀ w:A6,CE 47 #[.i b,.i 0,.i 31] w (.bool true)):=N
  clear I J L N ho
  go_enter func52,ntmps52
  go_wp2_with fail
  refine (oD _).mono ?_
  rintro e l ⟨rfl,V,O⟩
  have E:Bw w l:=(bal _ _).trans (O.mono di)
  have K:Hid (l.heap[w.heap.size]?=some (.cells #[.i ((k:Int)+1),.i q,.i a,.i b,.i p] 88 (0,0))):=by
   show _=_
   rw [O.block _ di];exact A8 _ _
  have q0:l.cell? ⟨w.heap.size,0,none⟩=some (.i ((k:Int)+1)):=(A5 _ _ _ _ _ _ K.out).trans rfl
  have q1:l.cell? ⟨w.heap.size,1,none⟩=some (.i q):=(A5 _ _ _ _ _ _ K.out).trans rfl
  have q2:l.cell? ⟨w.heap.size,2,none⟩=some (.i a):=(A5 _ _ _ _ _ _ K.out).trans rfl
  have q3:l.cell? ⟨w.heap.size,3,none⟩=some (.i b):=(A5 _ _ _ _ _ _ K.out).trans rfl
  obtain ⟨g,hg⟩:∃ g,g=(w.alloc (.cells #[.i ((k:Int)+1),.i q,.i a,.i b,.i p] 88)).heap.size:=⟨_,rfl⟩
  rw [<- hg] at V ⊢
  clear O hg
  obtain ⟨r,Y⟩:∃ r,r=ce k:=⟨_,rfl⟩
  obtain ⟨C0,C1,C2,C3,C4⟩:=V.out.2 k hk2 r Y
  obtain ⟨nm,f,o,z,m⟩:=r
  simp only at C0 C1 C2 C3 C4
  have C:∀ c:Obj,Bw l (l.alloc c):=λc=>(L6 _ _).alloc (D2 _) c
  have Q1:∀ c:Obj,(l.alloc c).cell? ⟨w.heap.size,1,none⟩=some (.i q):=λc=>(A5 _ _ _ _ _ _ (dp (C c) K.out)).trans rfl
  have Q2:∀ c:Obj,(l.alloc c).cell? ⟨w.heap.size,2,none⟩=some (.i a):=λc=>(A5 _ _ _ _ _ _ (dp (C c) K.out)).trans rfl
  have Q3:∀ c:Obj,(l.alloc c).cell? ⟨w.heap.size,3,none⟩=some (.i b):=λc=>(A5 _ _ _ _ _ _ (dp (C c) K.out)).trans rfl
  have Q4:∀ c:Obj,(l.alloc c).cell? ⟨w.heap.size,4,none⟩=some (.i p):=λc=>(A5 _ _ _ _ _ _ (dp (C c) K.out)).trans rfl
  clear C Y V
  obtain ⟨s,Z⟩:∃ s,s=f.str:=⟨_,rfl⟩
  rw [<- Z] at C1
  have HS:Hid (s=f.str):=Z
  clear Z X R1 R2 R3
  go_wp2_with fail
  refine (H1.out _).mono ?_
  rintro e R ⟨rfl,d⟩
  have j:=d.symm
  subst j
  go_wp2_with fail
  refine (H2.out _).mono ?_
  rintro e R ⟨rfl,d⟩
  have j:=d.symm
  subst j
  go_wp2_with fail
  refine (H3.out _).mono ?_
  rintro e R ⟨rfl,d⟩
  have j:=d.symm
  subst j
  go_wp2_with fail
  refine (H4.out _).mono ?_
  rintro e R ⟨rfl,d⟩
  have j:=d.symm
  subst j
  go_upto_if 63 with fail
  go_cut [7] from 10 (λy wc=>∃ x:Int,y=.u x/\Hid (U x)/\wc=l.alloc (.cells #[.string nm,.string s,.u o,.i z,.u m] 124))
  case first =>
   by_cases hz:0<z
   ·have dz:decide (0<z):=by simpa using hz
    go_wp2_with fail
    go_meet
    exact ⟨_,rfl,ah _ _ _,rfl⟩
   ·have dz:decide (0<z)=false:=by simpa using hz
    go_wp2_with fail
    go_meet
    exact ⟨_,rfl,ah _ _ _,rfl⟩
  case rest =>
   obtain ⟨x,rfl,hx,rfl⟩:=hcut
   have Z:=HS.out
   subst Z
   clear HS
   generalize Uz.wrap p=M at *
   repeat ((fail_if_success (show Code.wp _ (Code.block 0 _) _ _ _));first | go_values | go_skip | go_guarded | go_step | go_upon | go_back | go_simp)
   go_cut [7] from 10 (λy wc=>∃ x:Int,y=.u x/\Hid (U x)/\wc=l.alloc (.cells #[.string nm,.string f.str,.u o,.i z,.u m] 124))
   case first =>
    cases f
    all_goals (
     as_aux_lemma =>
      simp only [Fm.str] at C1 ⊢
      go_wp2_with fail
      go_meet
      exact ⟨_,rfl,(by first | exact ah _ _ _ | exact hx.out),rfl⟩)
   case rest =>
    obtain ⟨x,rfl,hx,rfl⟩:=hcut
    go_wp2_with fail
    refine (Bh _ hx.out _).mono ?_
    rintro e G ⟨jo,jr,ja,jb,ji,t,rfl,P⟩
    have T:Hid (G.heap[w.heap.size]?=some (.cells #[.i ((k:Int)+1),.i q,.i a,.i b,.i p] 88 (0,0))):=dp P (dp (bal _ _) K.out)
    have B:Bw w G:=E.trans ((((L6 l.heap.size l).alloc (D2 _) _).trans (P.mono di)).mono E.size)
    have A:∀ c:Obj,Bw G (G.alloc c):=λc=>(L6 _ _).alloc (D2 _) c
    have E0:∀ c:Obj,(G.alloc c).cell? ⟨w.heap.size,0,none⟩=some (.i ((k:Int)+1)):=λc=>(A5 _ _ _ _ _ _ (dp (A c) T.out)).trans rfl
    have E1:∀ c:Obj,(G.alloc c).cell? ⟨w.heap.size,1,none⟩=some (.i q):=λc=>(A5 _ _ _ _ _ _ (dp (A c) T.out)).trans rfl
    have E2:∀ c:Obj,(G.alloc c).cell? ⟨w.heap.size,2,none⟩=some (.i a):=λc=>(A5 _ _ _ _ _ _ (dp (A c) T.out)).trans rfl
    have E3:∀ c:Obj,(G.alloc c).cell? ⟨w.heap.size,3,none⟩=some (.i b):=λc=>(A5 _ _ _ _ _ _ (dp (A c) T.out)).trans rfl
    have E4:∀ c:Obj,(G.alloc c).cell? ⟨w.heap.size,4,none⟩=some (.i p):=λc=>(A5 _ _ _ _ _ _ (dp (A c) T.out)).trans rfl
    clear A P q0 q1 q2 q3 Q1 Q2 Q3 Q4 C0 C1 C2 C3 C4 H1 H2 H3 H4 K E
    cases t with
    | false =>
      as_aux_lemma =>
       go_wp2_with fail
       go_ret2
       exact ⟨_,_,rfl,⟨bc,bc⟩,B.alloc B.size _⟩
    | true =>
      obtain ⟨nb,W⟩:∃ nb,(!(jo==(k:Int)+1&&jr==q&&ja==a&&jb==b&&ji==p))=nb:=⟨_,rfl⟩
      have S:Hid ((!(jo==(k:Int)+1&&jr==q&&ja==a&&jb==b&&ji==p))=nb):=W
      clear W
      cases nb with
      | true =>
        as_aux_lemma =>
         go_wp2_with (refine pg rfl _ _ _ rfl rfl rfl true S.out ?_)
         go_ret2
         exact ⟨_,_,rfl,⟨bc,bc⟩,B.alloc B.size _⟩
      | false =>
        as_aux_lemma =>
         go_wp2_with (refine pg rfl _ _ _ rfl rfl rfl false S.out ?_)
         go_ret2
         exact ⟨_,_,rfl,hx.out,B.alloc B.size _⟩
 ·obtain ⟨F,q,a,b,p⟩:=i
  have D:(decide (1<=F/\F<=98)&&(decide (0<=q/\q<=31)&&decide (0<=a/\a<=31)&&decide (0<=b/\b<=31)))=false:=by
   rw [Bool.eq_false_iff];intro h;rw [K1] at h;exact Q h
  simp only
  obtain ⟨t1,ht1⟩:∃ t,t=decide (1<=F/\F<=98):=⟨_,rfl⟩
  obtain ⟨t2,ht2⟩:∃ t,t=decide (0<=q/\q<=31):=⟨_,rfl⟩
  obtain ⟨t3,ht3⟩:∃ t,t=decide (0<=a/\a<=31):=⟨_,rfl⟩
  obtain ⟨t4,ht4⟩:∃ t,t=decide (0<=b/\b<=31):=⟨_,rfl⟩
  have I:=eH F 1 98
  have J:=eH q 0 31
  have L:=eH a 0 31
  have N:=eH b 0 31
  rw [<- ht1] at I D
  rw [<- ht2] at J D
  rw [<- ht3] at L D
  rw [<- ht4] at N D
  have H1:Hid (∀ w:A6,CE 47 #[.i F,.i 1,.i 98] w (.bool t1)):=I
  have H2:Hid (∀ w:A6,CE 47 #[.i q,.i 0,.i 31] w (.bool t2)):=J
  have H3:Hid (∀ w:A6,CE 47 #[.i a,.i 0,.i 31] w (.bool t3)):=L
  have H4:Hid (∀ w:A6,CE 47 #[.i b,.i 0,.i 31] w (.bool t4)):=N
  clear I J L N ht1 ht2 ht3 ht4 Q
  go_enter func52,ntmps52
  go_wp2_with fail
  refine (oD _).mono ?_
  rintro e l ⟨rfl,V,O⟩
  have E:Bw w l:=(bal _ _).trans (O.mono di)
  have K:l.heap[w.heap.size]?=some (.cells #[.i F,.i q,.i a,.i b,.i p] 88 (0,0)):=by
   rw [O.block _ di];exact A8 _ _
  have q0:l.cell? ⟨w.heap.size,0,none⟩=some (.i F):=(A5 _ _ _ _ _ _ K).trans rfl
  have q1:l.cell? ⟨w.heap.size,1,none⟩=some (.i q):=(A5 _ _ _ _ _ _ K).trans rfl
  have q2:l.cell? ⟨w.heap.size,2,none⟩=some (.i a):=(A5 _ _ _ _ _ _ K).trans rfl
  have q3:l.cell? ⟨w.heap.size,3,none⟩=some (.i b):=(A5 _ _ _ _ _ _ K).trans rfl
  clear K O V
  cases t1<;>cases t2<;>cases t3<;>cases t4
  case true.true.true.true=>cases D
  all_goals (
   as_aux_lemma =>
    clear D
    go_wp2_with (go_at_call 47;first | (with_reducible refine (H1.out _).mono ?_;rintro e R ⟨rfl,d⟩;have j:=d.symm;subst j) | (with_reducible refine (H2.out _).mono ?_;rintro e R ⟨rfl,d⟩;have j:=d.symm;subst j) | (with_reducible refine (H3.out _).mono ?_;rintro e R ⟨rfl,d⟩;have j:=d.symm;subst j) | (with_reducible refine (H4.out _).mono ?_;rintro e R ⟨rfl,d⟩;have j:=d.symm;subst j))
    go_ret2
    exact ⟨_,_,rfl,⟨bc,bc⟩,E⟩)
theorem Bj (a2:Option A9) (c2:Nat) (f:Option A9) (o:Nat) (b2:Option A9) (p:Nat) (w:A6) (q:Sl .u8 w l K.xs) (r:Sl .u8 w a2 K.ys) (s:Sl .u8 w f K.xs) (h4:Sl .u8 w b2 K.ys): CB 25 #[.agg #[.u K.t,.u K.cm,.bool K.so,.slice l K.xs.length z,.slice a2 K.ys.length c2,.i K.ir],.agg #[.u K.t,.u K.cm,.bool K.so,.slice f K.xs.length o,.slice b2 K.ys.length p,.i K.ir]] w (.bool true):=by have d:∀ b c,Bw w ((w.alloc b).alloc c):=λb c=>((L6 _ _).alloc (D2 _) b).alloc di c;have g:∀ b c,(convert 22 9 (.slice l K.xs.length z)).run prog ((w.alloc b).alloc c)=.ok (.string (strOfNums K.xs)) ((w.alloc b).alloc c):=λb c=>mx _ _ _ _ _ rfl (q.below (d b c));have j:∀ b c,(convert 22 9 (.slice a2 K.ys.length c2)).run prog ((w.alloc b).alloc c)=.ok (.string (strOfNums K.ys)) ((w.alloc b).alloc c):=λb c=>mx _ _ _ _ _ rfl (r.below (d b c));have a1:∀ b c,(convert 22 9 (.slice f K.xs.length o)).run prog ((w.alloc b).alloc c)=.ok (.string (strOfNums K.xs)) ((w.alloc b).alloc c):=λb c=>mx _ _ _ _ _ rfl (s.below (d b c));have m:∀ b c,(convert 22 9 (.slice b2 K.ys.length p)).run prog ((w.alloc b).alloc c)=.ok (.string (strOfNums K.ys)) ((w.alloc b).alloc c):=λb c=>mx _ _ _ _ _ rfl (h4.below (d b c));clear q r s h4;obtain ⟨t,A,F,u,y,B⟩:=K;dsimp only at g j a1 m ⊢;generalize strOfNums u=G at *;generalize strOfNums y=H at *;generalize u.length=C at *;generalize y.length=E at *;go_enter func25,ntmps25;go_wp2_with fail;go_ret;exact ⟨rfl,d _ _⟩
theorem Q5:CE 4 #[.slice l z F] N (.bool (decide (4096<z))):=by
 by_cases h:4096<z;·have cap:Hid (decide (4096<z)):=(by show decide (4096<z)=true;simpa using h);have d:decide ((4096:Int)<(z:Int)):=bv;clear h;go_enter func4,ntmps4;go_wp2_with fail;go_ret;exact ⟨by rw [cap.out];rfl,rfl⟩
 ·have cap:Hid (decide (4096<z)=false):=(by show decide (4096<z)=false;simpa using h);have d:decide ((4096:Int)<(z:Int))=false:=bv;clear h;go_enter func4,ntmps4;go_wp2_with fail;go_ret;exact ⟨by rw [cap.out];rfl,rfl⟩
theorem Q6 (h:Bu .u8 w f n b t) (hn:n<=4096):∃ cap,Code w f n cap:=by obtain ⟨cap,c,d,e,_⟩:=h.sl;exact ⟨cap,c,hn,d,e⟩
