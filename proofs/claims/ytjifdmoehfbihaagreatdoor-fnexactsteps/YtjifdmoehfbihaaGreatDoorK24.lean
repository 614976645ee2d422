/- Own lemmas. -/
import Derived.Test.YtjifdmoehfbihaaGreatDoorAut
import Derived.Test.YtjifdmoehfbihaaGreatDoorK23
import Derived.RangeFuncNested
import Derived.RangeFuncBound
import Derived.Shelf.RegionOpen
import Derived.OwnWalkIn
import Derived.LoopNIn
import Derived.LoopIn
set_option maxRecDepth 100000
set_option maxHeartbeats 4000000
namespace Go.Proofs.YtjifdmoehfbihaaGreatDoor
open Go.RowKit Tryz
open IntKind renaming u64->Uz
set_option linter.unusedVariables false
theorem fo {B:Nat} {w w':World} (h:Below B w w') (q:Nat):Below B w (w'.drewN q):=⟨h.os,h.tape,h.output,h.size,h.block⟩
def Ar (k:Int):Bool:=(k==1)||(k==2)||(k==3)
theorem ye (k:Int):Ar k=decide (1<=k/\k<=3):=by
 unfold Ar;by_cases a:k=1;·subst a;rfl
 ·by_cases b:k=2;·subst b;rfl
  ·by_cases c:k=3;·subst c;rfl
   ·have:¬ (1<=k/\k<=3):=by omega
    rw [decide_eq_false this];simp [a,b,c]
theorem oR (k:Int) (w:World):CE 90 #[.i k] w (.bool (Ar k)):=by
 have F:Hid (Ar k=((k==1)||(k==2)||(k==3))):=(rfl:Ar k=_);cases b:(k==1) with
 | true =>rw [b] at F;exact a0r
 | false =>
   rw [b] at F;cases c:(k==2) with
   | true =>rw [c] at F;exact a0r
   | false =>
     rw [c] at F;cases d:(k==3) with
     | true =>rw [d] at F;exact a0r
     | false =>rw [d] at F;exact a0r
def rF (k:Int):Int:=if (k==1)=true then 4 else if (k==2)=true then 1 else 2
theorem As (k:Int) (w:World):CE 250 #[.i k] w (.u (rF k)):=by
 have F:Hid (rF k=if (k==1)=true then 4 else if (k==2)=true then 1 else 2):=(rfl:rF k=_);cases b:(k==1) with
 | true =>rw [b] at F;go_enter func250,ntmps250;exact z0
 | false =>
   rw [b] at F;cases c:(k==2) with
   | true =>rw [c] at F;go_enter func250,ntmps250;exact z0
   | false =>rw [c] at F;go_enter func250,ntmps250;exact z0
def uj (b a x y:Int):Bool:=decide (b<=x)&&decide (y<=a)
theorem C8 (c b r x y:Int) (w:World):CB 231 #[.agg #[.u c,.u b,.u r],.u x,.u y] w (.bool (uj c b x y)):=by
 have F:Hid (uj c b x y=(decide (c<=x)&&decide (y<=b))):=(rfl:uj c b x y=_);cases d:decide (c<=x) with
 | true =>
   rw [d] at F;cases f:decide (y<=b) with
   | true =>rw [f] at F;go_enter func231,ntmps231;go_wp2;go_ret;exact ⟨a6,bal _ _⟩
   | false =>rw [f] at F;go_enter func231,ntmps231;go_wp2;go_ret;exact ⟨a6,bal _ _⟩
 | false =>rw [d] at F;go_enter func231,ntmps231;go_wp2;go_ret;exact ⟨a6,bal _ _⟩
def jS (r p k:Int):Bool:=((p==3)&&(bits .and .u64 r 128==0))||(bits .and .u64 r (rF k) != 0)
theorem C9 (j g r p k:Int) (w:World):CB 232 #[.agg #[.u j,.u g,.u r],.i p,.i k] w (.bool (jS r p k)):=by
 have F:Hid (jS r p k=(((p==3)&&(bits .and .u64 r 128==0))||(bits .and .u64 r (rF k) != 0))):=(rfl:jS r p k=_);have c:Hid (∀ w,Calls prog 250 #[.i k] w λe b=>e=.returned (.u (rF k))/\∃ q,b=w.drewN q):=λw=>(As k w).mono λe b h=>⟨h.1,0,by rw [h.2];rfl⟩;generalize rF k=m at *;cases d:(p==3) with
 | true =>
   rw [d] at F;cases f:(bits .and .u64 r 128==0) with
   | true =>rw [f] at F;go_enter func232,ntmps232;go_wp2;go_ret;exact ⟨a6,bal _ _⟩
   | false =>
     rw [f] at F;go_enter func232,ntmps232;go_wp2_with fail;go_quiet (first | (go_at_call 250;with_reducible refine Calls.quiet_of (c.out _)))
     go_wp2_with fail;go_ret;exact ⟨a6,fo (bal _ _) _⟩
 | false =>
   rw [d] at F;go_enter func232,ntmps232;go_wp2_with fail;go_quiet (first | (go_at_call 250;with_reducible refine Calls.quiet_of (c.out _)))
   go_wp2_with fail;go_ret;exact ⟨a6,fo (bal _ _) _⟩
theorem yf (b d cap:Nat) (l:List Int) (i:Nat) (q:i<4) (w:World) (c:w.cell? ⟨b,d+(16+i),none⟩=some (.u (l.getD (16+i) 0))):CB 174 #[.slice (some ⟨b,d,none⟩) 22 cap,.i i] w (.u (oC l i)):=by
 have F:Hid (oC l i=if (i==0)=true then 0 else Uz.wrap (4*l.getD (16+i) 0)):=(rfl:oC l i=_);rcases Nat.eq_zero_or_pos i with h|h;·subst h;go_enter func174,ntmps174;exact a0l
 ·have p:((i:Int)==0)=false:=a7;have m:wrap64 (17+(i:Int))=((17+i:Nat):Int):=la;have j:wrap64 (((17+i:Nat):Int)-1)=((16+i:Nat):Int):=la;have g:0<=((16+i:Nat):Int)/\((16+i:Nat):Int)<((22:Nat):Int):=al;have f:Hid (oC l i=Uz.wrap (4*l.getD (16+i) 0)):=(by have:=F.out;rw [if_neg a7] at this;exact this);clear F;generalize l.getD (16+i) 0=a at *;go_enter func174,ntmps174;go_wp2_with fail;go_ret;exact ⟨by rw [f.out];rfl,Below.refl _ _⟩
theorem OD (x y:Int) (i:Nat):bt (bits .xor .u64 x y) i=(bt x i ^^ bt y i):=by show (BitVec.ofInt 64 (Uz.wrap ((BitVec.ofInt 64 x ^^^ BitVec.ofInt 64 y).toNat:Int))).getLsbD i=_;rw [pj];simp [bt]
theorem Mh (a:Nat) (h:a<18446744073709551616):bits .xor .u64 IntKind.u64.max (a:Int)=((18446744073709551615-a:Nat):Int):=by
 have e:IntKind.u64.max=18446744073709551615:=rfl;rw [e];refine bg _ _ (aj _ _ _) ⟨al,al⟩ λi b=>?_;rw [OD,xY i b,nB _ ⟨al,al⟩,nB _ ⟨al,al⟩];have c:(18446744073709551615-a:Nat)=2^64-(a+1):=al
 simp only [Int.toNat_natCast];rw [c,Nat.testBit_two_pow_sub_succ h,decide_eq_true b];simp
theorem uk (a:Int) (x z k:Nat) (q:bits .xor .u64 IntKind.u64.max a=(x:Int)) (hk:min z 53=k) (o:k<=53) (w:World) (l:Hid (CE 223 #[.u x] w (.i z))):CB 175 #[.u a] w (.tuple #[.u (nT a k),.u (oD a k)]):=by
 have j:Hid (min z 53=k):=hk;have p:IntKind.u64.signed=false:=rfl;clear hk;go_enter func175,ntmps175;go_wp2_with fail;refine l.out.mono ?_;rintro e r ⟨rfl,d⟩;have f:=d.symm;subst f;go_wp2_with fail;case inl =>
  rename_i b;have c:Hid (k=53):=(by have:=j.out;show k=53;omega);go_quiet (fail)
  go_wp2_with fail;go_ret2;exact ⟨by rw [c.out];rfl,fo (Below.refl _ _) _⟩
 case inr =>
  rename_i b;have m:Hid (k=z):=(by have:=j.out;show k=z;omega);go_quiet (fail)
  go_wp2_with fail;go_ret2;exact ⟨by rw [m.out];rfl,fo (Below.refl _ _) _⟩
theorem vk (a:Int) (h:U a) (w:World) (c:qb w):CB 175 #[.u a] w (.tuple #[.u (nT a (lY a)),.u (oD a (lY a))]):=by
 obtain ⟨n,rfl⟩:∃ n:Nat,a=n:=⟨a.toNat,by have:=h.1;omega⟩;have d:n<18446744073709551616:=by have:=h.2;omega
 have b:(18446744073709551615-(n:Int)).toNat=18446744073709551615-n:=al
 refine uk (n:Int) (18446744073709551615-n) (Lib.ctz 64 (18446744073709551615-n)) _ (Mh n d) ?_ ?_ w (OA _ al w c);·unfold lY;rw [b]
 ·unfold lY;exact Nat.min_le_right _ _
theorem JN (b f cap:Nat) (l:List Int) (i:Nat) (H:i<4) (w:World) (z:qb w) (hl:∀ j,U (l.getD j 0)) (D:w.cell? ⟨b,f+16,none⟩=some (.u (l.getD 16 0))) (E:w.cell? ⟨b,f+(17+i),none⟩=some (.u (l.getD (17+i) 0))) (m:w.cell? ⟨b,f+(16+i),none⟩=some (.u (l.getD (16+i) 0))):CB 107 #[.slice (some ⟨b,f,none⟩) 22 cap,.i i] w (.tuple #[.u (dZ l i).1,.u (dZ l i).2]):=by
 have HR:Hid (Calls prog 173 #[.u (l.getD 16 0),.i i] w λe g=>e=.returned (.u (fN (l.getD 16 0) i))/\g=w.drew):=pI _ i al (hl 16).1 (hl 16).2 w;have A:Hid (Calls prog 174 #[.slice (some ⟨b,f,none⟩) 22 cap,.i i] w.drew λe g=>e=.returned (.u (oC l i))/\Below w.heap.size w.drew g):=yf b f cap l i H w.drew (by rw [World.cell?_drew];exact m);have B:Hid (Calls prog 175 #[.u (l.getD (17+i) 0)] w.drew λe g=>e=.returned (.tuple #[.u (nT (l.getD (17+i) 0) (lY (l.getD (17+i) 0))),.u (oD (l.getD (17+i) 0) (lY (l.getD (17+i) 0)))])/\Below w.heap.size w.drew g):=vk _ (hl (17+i)) w.drew (λj I=>by rw [World.cell?_drew];exact z j I);have d:dZ l i=if (fN (l.getD 16 0) i==1)=true then (oC l i,Uz.wrap (4*l.getD (17+i) 0))
  else if (fN (l.getD 16 0) i==2)=true then (Uz.wrap (4*l.getD (17+i) 0),Uz.wrap (Uz.wrap (4*l.getD (17+i) 0)+4))
  else if (fN (l.getD 16 0) i==3)=true then (nT (l.getD (17+i) 0) (lY (l.getD (17+i) 0)),oD (l.getD (17+i) 0) (lY (l.getD (17+i) 0)))
  else (0,0):=rfl
 have o:Hid (Bw w w.drew):=(Below.refl _ _).drew;have G:wrap64 (17+(i:Int))=((17+i:Nat):Int):=by unfold wrap64;omega
 have C:0<=((17+i:Nat):Int)/\((17+i:Nat):Int)<((22:Nat):Int):=al
 generalize dZ l i=r at *;generalize oC l i=J at *;generalize lY (l.getD (17+i) 0)=on at *;generalize nT (l.getD (17+i) 0) on=pl at *;generalize oD (l.getD (17+i) 0) on=K at *;generalize fN (l.getD 16 0) i=q at *;generalize l.getD (17+i) 0=a at *;generalize l.getD 16 0=M at *;clear z hl m;cases t:(q==1) with
 | true =>rw [t,if_pos rfl] at d;have F:Hid (r=(J,Uz.wrap (4*a))):=d;clear d;go_enter func107,ntmps107;go_wp2_with fail;refine HR.out.mono ?_;rintro e s ⟨rfl,c⟩;subst c;go_wp2_with fail;refine A.out.mono ?_;rintro e L ⟨rfl,p⟩;go_wp2_with fail;go_ret2;exact ⟨a6,o.out.trans p⟩
 | false =>
   rw [t,if_neg a5] at d;cases u:(q==2) with
   | true =>rw [u,if_pos rfl] at d;have F:Hid (r=(Uz.wrap (4*a),Uz.wrap (Uz.wrap (4*a)+4))):=d;clear d;go_enter func107,ntmps107;go_wp2_with fail;refine HR.out.mono ?_;rintro e s ⟨rfl,c⟩;subst c;go_wp2_with fail;go_ret2;exact ⟨a6,o.out⟩
   | false =>
     rw [u,if_neg a5] at d;cases y:(q==3) with
     | true =>rw [y,if_pos rfl] at d;have F:Hid (r=(pl,K)):=d;clear d;go_enter func107,ntmps107;go_wp2_with fail;refine HR.out.mono ?_;rintro e s ⟨rfl,c⟩;subst c;go_wp2_with fail;refine B.out.mono ?_;rintro e L ⟨rfl,p⟩;go_wp2_with fail;go_ret2;exact ⟨a6,o.out.trans p⟩
     | false =>rw [y,if_neg a5] at d;have F:Hid (r=(0,0)):=d;clear d;go_enter func107,ntmps107;go_wp2_with fail;refine HR.out.mono ?_;rintro e s ⟨rfl,c⟩;subst c;go_wp2_with fail;go_ret2;exact ⟨a6,o.out⟩
end Go.Proofs.YtjifdmoehfbihaaGreatDoor
namespace Go.Proofs.YtjifdmoehfbihaaGreatDoor
open Go.RowKit Tryz Go.Shelf
open IntKind renaming u64->Uz
set_option linter.unusedVariables false
attribute [local go_sem] Oper.semAt_some
theorem qF {w w':World} (hb:Bw w w') (row:Option Nat):w.grownBy w' row:=⟨hb.os,hb.tape,hb.output,hb.size,λk a _=>hb.block k a⟩
def JO (x:Nat × Int × Int × Int):Array Value:=#[.i (x.1:Int),.agg #[.u x.2.1,.u x.2.2.1,.u x.2.2.2]]
theorem Au (n:Nat) (lp Bs c b d cap:Nat) (l:List Int) (hl:∀ j,U (l.getD j 0)) (J Y:List (Nat × Int × Int × Int)->World->Prop) (hb:b<c) (L:Bs<c) (hg:0<c) (W:World) (hn:c<=W.heap.size) (hT:qb W) (hc:W.cell? ⟨Bs,0,none⟩=some (.slice (some ⟨b,d,none⟩) 22 cap)) (hs:∀ j,j<22->W.cell? ⟨b,d+j,none⟩=some (.u (l.getD j 0))) (hJ:AbidesFrom W.heap.size J) (hY:∀ pre x D,J pre D->pre.length<4->YieldAt Fence.wide (n-1) prog lp (JO x) D λe s=>(e=.returned (.bool true)/\J (pre++[x]) s/\Below c D s)\/(e=.returned (.bool false)/\Y (pre++[x]) s)) (h0:J [] W):CallsIn Fence.wide n prog 106 #[.func (.yield lp) #[] #[],.p Bs 0] W λe s=>(∃ v,e=.returned v)/\((∃ ys,ys=fE l 4/\J ys s)\/(∃ pre,pre <+: fE l 4/\Y pre s)):=by
 have HC:Hid (W.cell? ⟨Bs,0,none⟩=some (.slice (some ⟨b,d,none⟩) 22 cap)):=hc;have X:Hid (∀ j,j<22->W.cell? ⟨b,d+j,none⟩=some (.u (l.getD j 0))):=hs;have HT:Hid (qb W):=hT;have HY:Hid (∀ pre x D,J pre D->pre.length<4->YieldAt Fence.wide (n-1) prog lp (JO x) D λe s=>(e=.returned (.bool true)/\J (pre++[x]) s/\Below c D s)\/(e=.returned (.bool false)/\Y (pre++[x]) s)):=hY;have HJ:Hid (AbidesFrom W.heap.size J):=hJ;have HL:Hid (∀ j,U (l.getD j 0)):=hl;clear hc hs hT hY hJ hl;refine callsIn_of_wp func106 rfl trivial ?_ rfl;simp only [ntmps106,List.size_toArray,List.length_cons,List.length_nil,Nat.reduceAdd,Nat.reduceSub,Array.replicate_succ,Array.replicate_zero,List.push_toArray,List.append_toArray,List.nil_append,List.cons_append];gi_wp2;gi_loopw [7] (λi wr=>∃ k:Nat,k<=4/\i=.i k/\J (fE l k) wr/\Below c W wr) (λi _=>4-(intOf i).toNat);case atStart=>exact ⟨0,al,rfl,h0,Below.refl _ _⟩
 case round =>
  obtain ⟨k,hk,rfl,N,t⟩:=hrel;have y:Hid (Below c W wr):=t;have C:Hid (J (fE l k) wr):=N;have hcw:wr.cell? ⟨Bs,0,none⟩=some (.slice (some ⟨b,d,none⟩) 22 cap):=(t.cell (p:=⟨Bs,0,none⟩) L).trans HC.out;have q:c<=wr.heap.size:=Nat.le_trans hn t.size;clear t N;by_cases hlt:k<4
  ·have m:Hid (CB 107 #[.slice (some ⟨b,d,none⟩) 22 cap,.i k] wr (.tuple #[.u (dZ l k).1,.u (dZ l k).2])):=
    JN b d cap l k hlt wr (HT.out.from y.out hg) HL.out ((y.out.cell (p:=⟨b,d+16,none⟩) hb).trans (X.out 16 al)) ((y.out.cell (p:=⟨b,d+(17+k),none⟩) hb).trans (X.out (17+k) al)) ((y.out.cell (p:=⟨b,d+(16+k),none⟩) hb).trans (X.out (16+k) al))
   by_cases o:(dZ l k).2<=(dZ l k).1
   ·have I:Hid (fE l (k+1)=fE l k):=Gt o;have O:decide ((dZ l k).1>=(dZ l k).2)=true:=(by simpa using o);gi_wp2_with fail;refine ⟨trivial,(λh=>ow),(callsIn_wide.2 m.out).mono ?_⟩;rintro e f ⟨rfl,g⟩;clear m;have A:Hid (J (fE l (k+1)) f):=(by have:=HJ.out _ wr f none C.out (qF g none) (λr e=>yn);rw [I.out];exact this);have z:Hid (Below c W f):=y.out.trans (g.mono q);gi_wp2_with fail;go_roundw;case rel=>exact ⟨k+1,al,bc,A.out,z.out⟩
    case measure=>simp [intOf];omega
   ·have O:decide ((dZ l k).1>=(dZ l k).2)=false:=(by simpa using o);have I:Hid (fE l (k+1)=fE l k++[(k,(dZ l k).1,Uz.wrap ((dZ l k).2-1),cI (l.getD 16 0) (8*k) 8)]):=Gu o;have HPB:Hid (∀ w,Calls prog 108 #[.u (l.getD 16 0),.i k] w λe w'=>e=.returned (.u (cI (l.getD 16 0) (8*k) 8))/\w'=w.drew):=λw=>nP _ k al (HL.out 16).1 (HL.out 16).2 w;have H:Hid (∀ f,Bw wr f->f.cell? ⟨b,d+16,none⟩=some (.u (l.getD 16 0))/\f.cell? ⟨Bs,0,none⟩=some (.slice (some ⟨b,d,none⟩) 22 cap)):=λf h1 =>
     ⟨(h1.cell (p:=⟨b,d+16,none⟩) (Nat.lt_of_lt_of_le hb q)).trans ((y.out.cell (p:=⟨b,d+16,none⟩) hb).trans (X.out 16 al)),(h1.cell (p:=⟨Bs,0,none⟩) (Nat.lt_of_lt_of_le L q)).trans hcw⟩
    have HLN:Hid ((fE l k).length<4):=(by have:=JH l k;show (fE l k).length<4;omega);have HPR:Hid (fE l (k+1) <+: fE l 4):=(by have:=JI l (4-(k+1)) (k+1);rw [show k+1+(4-(k+1))=4 from al] at this;exact this);generalize cI (l.getD 16 0) (8*k) 8=E at *;generalize l.getD 16 0=c16 at *;obtain ⟨T,Q⟩:∃ T,(dZ l k).1=T:=⟨_,rfl⟩;obtain ⟨s2,R⟩:∃ s2,(dZ l k).2=s2:=⟨_,rfl⟩;rw [Q,R] at m I O;clear Q R o;gi_wp2_with fail;refine ⟨trivial,(λh=>ow),(callsIn_wide.2 m.out).mono ?_⟩;rintro e f ⟨rfl,g⟩;clear m;obtain ⟨hc1,hc2⟩:=H.out f g;have A:Hid (J (fE l k) f):=HJ.out _ wr f none C.out (qF g none) (λr e=>yn);have z:Hid (Below c W f):=y.out.trans (g.mono q);have S:Hid (c<=f.heap.size):=Nat.le_trans q g.size;clear g;gi_wp2_with fail;refine ⟨trivial,(λh=>ow),(callsIn_wide.2 (HPB.out _)).mono ?_⟩;rintro e w2 ⟨rfl,hw2⟩;subst hw2;gi_wp2_with fail;obtain ⟨V,F⟩:∃ V,Uz.wrap (s2-1)=V:=⟨_,rfl⟩;have K:Hid (fE l (k+1)=fE l k++[(k,T,V,E)]):=(by have:=I.out;rw [F] at this;exact this);rw [F];clear F I;have G:Hid (Bw f ((f.alloc (.cells #[.u T,.u V,.u E] 90)).drew)):=(bal _ _).drew;obtain ⟨fn,tmps,assign,body,hy,hR⟩:=HY.out (fE l k) (k,T,V,E) _ (HJ.out _ f _ none A.out (qF G.out none) (λr e=>yn)) HLN.out;simp only [JO] at hy;rw [hy];gi_wp2_with fail;refine ⟨(λh=>ow),hR.mono ?_⟩;rintro e W3 (⟨rfl,M,P⟩ | ⟨rfl,u⟩)
    ·have B:Hid (J (fE l (k+1)) W3):=(by rw [K.out];exact M);have Z:Hid (Below c W W3):=(z.out.trans (G.out.mono S.out)).trans P;clear M P;gi_wp2_with fail;go_roundw;case rel=>exact ⟨k+1,al,bc,B.out,Z.out⟩
     case measure=>simp [intOf];omega
    ·have B:Hid (Y (fE l (k+1)) W3):=(by rw [K.out];exact u);clear u;gi_wp2_with fail;refine bodyPost_ret (results_none rfl _ _ _) rfl ?_;exact ⟨⟨_,rfl⟩,.inr ⟨_,HPR.out,B.out⟩⟩
  ·obtain rfl:k=4:=al;gi_wp2_with fail;go_end0;exact ⟨⟨_,rfl⟩,.inl ⟨_,rfl,C.out⟩⟩
theorem Da (n:Nat) (a:Option Addr) (m cap:Nat) (w:World):CallsIn Fence.wide n prog 63 #[.slice a m cap] w λe b=>e=.returned (.func (.func 106) #[] #[.p w.heap.size 0])/\b=w.alloc (.cells #[.slice a m cap] 23):=by refine callsIn_of_wp func63 rfl trivial ?_ rfl;simp only [ntmps63,List.size_toArray,List.length_cons,List.length_nil,Nat.reduceAdd,Nat.reduceSub,Array.replicate_succ,Array.replicate_zero,List.push_toArray,List.append_toArray,List.nil_append,List.cons_append];gi_wp2;go_ret;exact a0h
theorem vm (n:Nat) (Bs a b c cap:Nat) (l:List Int) (hl:∀ j,U (l.getD j 0)) (hb:b<a) (d:Bs<a) (f:0<a) (w:World) (hn:a<=w.heap.size) (m:qb w)
 (q:w.cell? ⟨Bs,0,none⟩=some (.slice (some ⟨b,c,none⟩) 22 cap)) (hs:∀ j,j<22->w.cell? ⟨b,c+j,none⟩=some (.u (l.getD j 0))) :
 SeqStopsK Fence.wide n prog 106 #[.p Bs 0] JO (Below a) (λt=>t=fE l 4) (λpre=>pre <+: fE l 4) 4 w:=λs J g W e i k o h =>
 Au n s Bs a b c cap l hl J g hb d f W (Nat.le_trans hn e.size) (m.from e (Nat.lt_of_lt_of_le f hn)) ((e.cell (p:=⟨Bs,0,none⟩) (Nat.lt_of_lt_of_le d hn)).trans q)
  (λj r=>(e.cell (p:=⟨b,c+j,none⟩) (Nat.lt_of_lt_of_le hb hn)).trans (hs j r)) i o h
theorem kF {A B:World} {row:Option Nat} {g:Nat} {cs:Array Value} {t:TypeId} {f:Nat × Nat} (h:A.heap[g]?=some (.cells cs t f)) (c:A.grownBy B row) (hr:∀ r,row=some r->∃ o:Obj,A.heap[r]?=some o/\o.isCells=false):B.heap[g]?=some (.cells cs t f):=by refine (c.block g (Array.getElem?_eq_some_iff.1 h).1 λe=>?_).trans h;obtain ⟨o,a,b⟩:=hr g e.symm;rw [h] at a;cases a;cases b
end Go.Proofs.YtjifdmoehfbihaaGreatDoor
namespace Go.Proofs.YtjifdmoehfbihaaGreatDoor
open Go.RowKit Tryz Go.Shelf
open IntKind renaming u64->Uz
set_option linter.unusedVariables false
attribute [local go_sem] Oper.semAt_some
theorem kl {W:World} {g j:Nat} {cs:Array Value} {t:TypeId} (h:W.heap[g]?=some (.cells cs t (0,0))) (v:Value):(W.setCell ⟨g,j,none⟩ v).heap[g]?=some (.cells (cs.set! j v) t (0,0)):=by have a:=(Array.getElem?_eq_some_iff.1 h).1;simp only [World.setCell];rw [Array.getElem?_modify];simp [h]
theorem eB {W:World} {g B j:Nat} {o:Obj} (h:W.heap[g]?=some o) (a:g≠B) (v:Value):(W.setCell ⟨B,j,none⟩ v).heap[g]?=some o:=by simp only [World.setCell];rw [Array.getElem?_modify,if_neg (by simpa using Ne.symm a)];exact h
theorem sD {W:World} {g D:Nat} {o b:Obj} (h:W.heap[g]?=some o) (a:g≠D):(W.putObj D b).heap[g]?=some o :=
 ((grownBy_putObj' W D b).block g (Array.getElem?_eq_some_iff.1 h).1 ti).trans h
theorem kf {W:World} {g:Nat} {cs:Array Value} {t:TypeId} {f:Nat × Nat} (h:W.heap[g]?=some (.cells cs t f)) (j:Nat):W.cell? ⟨g,j,none⟩=cs[j]?:=by simp [World.cell?,h]
theorem qG {W:World} {g:Nat} {o:Obj} (h:W.heap[g]?=some o) (a:Obj):(W.alloc a).heap[g]?=some o:=(Below.heap_alloc W a g (Array.getElem?_eq_some_iff.1 h).1).trans h
theorem yg (b g cap:Nat) (l:List Int) (x y:Int) (w:World) (hbw:b<w.heap.size) (hs:∀ j,j<22->w.cell? ⟨b,g+j,none⟩=some (.u (l.getD j 0))) (hl:∀ j,U (l.getD j 0)) (hT:qb w):CB 230 #[.slice (some ⟨b,g,none⟩) 22 cap,.u x,.u y] w (.tuple #[.agg #[.u (ke l x y).1,.u (ke l x y).2.1,.u (ke l x y).2.2.1],.bool (ke l x y).2.2.2]):=by
 have HS:Hid (∀ j,j<22->w.cell? ⟨b,g+j,none⟩=some (.u (l.getD j 0))):=hs;have HL:Hid (∀ j,U (l.getD j 0)):=hl;have HT:Hid (qb w):=hT;clear hs hl hT;refine (callsIn_wide (n:=3)).1 ?_;refine callsIn_of_wp_marks func230 rfl trivial ?_ rfl;simp only [ntmps230,List.size_toArray,List.length_cons,List.length_nil,Nat.reduceAdd,Nat.reduceSub,Array.replicate_succ,Array.replicate_zero,List.push_toArray,List.append_toArray,List.nil_append,List.cons_append];gi_wp2_with fail;refine ⟨trivial,(Da _ _ _ _ _).mono ?_⟩;rintro e N ⟨rfl,rfl⟩;gi_wp2_with fail;have bX:=((((Boxed.new w 22 (.u x)).alloc (.cells #[.u y] 22)).alloc (.cells #[.u 0,.u 0,.u 0] 90)).alloc (.cells #[.bool false] 4)).alloc (.cells #[.slice (some ⟨b,g,none⟩) 22 cap] 23);have bY:=(((Boxed.new (w.alloc (.cells #[.u x] 22)) 22 (.u y)).alloc (.cells #[.u 0,.u 0,.u 0] 90)).alloc (.cells #[.bool false] 4)).alloc (.cells #[.slice (some ⟨b,g,none⟩) 22 cap] 23);have bR:=qG (qG (World.alloc_heap_new ((w.alloc (.cells #[.u x] 22)).alloc (.cells #[.u y] 22)) (.cells #[.u 0,.u 0,.u 0] 90)) (.cells #[.bool false] 4)) (.cells #[.slice (some ⟨b,g,none⟩) 22 cap] 23);have bB:=(Boxed.new (((w.alloc (.cells #[.u x] 22)).alloc (.cells #[.u y] 22)).alloc (.cells #[.u 0,.u 0,.u 0] 90)) 4 (.bool false)).alloc (.cells #[.slice (some ⟨b,g,none⟩) 22 cap] 23);have bS:=Boxed.new ((((w.alloc (.cells #[.u x] 22)).alloc (.cells #[.u y] 22)).alloc (.cells #[.u 0,.u 0,.u 0] 90)).alloc (.cells #[.bool false] 4)) 23 (.slice (some ⟨b,g,none⟩) 22 cap);simp only [World.size_alloc] at bY bR bB bS;have L:Bw w (((((w.alloc (.cells #[.u x] 22)).alloc (.cells #[.u y] 22)).alloc (.cells #[.u 0,.u 0,.u 0] 90)).alloc (.cells #[.bool false] 4)).alloc (.cells #[.slice (some ⟨b,g,none⟩) 22 cap] 23)):=(((((Below.refl _ w).alloc (Nat.le_refl _) _).alloc bc _).alloc a7 _).alloc a7 _).alloc a7 _;have hz6:(((((w.alloc (.cells #[.u x] 22)).alloc (.cells #[.u y] 22)).alloc (.cells #[.u 0,.u 0,.u 0] 90)).alloc (.cells #[.bool false] 4)).alloc (.cells #[.slice (some ⟨b,g,none⟩) 22 cap] 23)).heap.size=w.heap.size+5:=bc
 obtain ⟨N,S⟩:∃ N,((((w.alloc (.cells #[.u x] 22)).alloc (.cells #[.u y] 22)).alloc (.cells #[.u 0,.u 0,.u 0] 90)).alloc (.cells #[.bool false] 4)).alloc (.cells #[.slice (some ⟨b,g,none⟩) 22 cap] 23)=N:=⟨_,rfl⟩;rw [S] at bX bY bR bB bS L hz6 ⊢;clear S;have hT6:qb N:=HT.out.below L;have hs6:∀ j,j<22->N.cell? ⟨b,g+j,none⟩=some (.u (l.getD j 0)):=λj hj=>(L.cell (p:=⟨b,g+j,none⟩) hbw).trans (HS.out j hj);have hg5:0<w.heap.size:=HT.out.lt;refine wpIn_rangeFunc_ownH rfl al (gf:=106) (lb:=#[.p (w.heap.size+1+1+1+1) 0]) rfl trivial (enters_of func106 a3 rfl)
  (vm 2 (w.heap.size+1+1+1+1) (w.heap.size+5) b g cap l HL.out al al al N al hT6 bS.cell hs6) belowK_t (belowK_b al) (Below.refl _ _) (λ_=>rfl)
  (λpre W=>((∀ p ∈ pre,i7 x y p=false)/\Boxed W w.heap.size 22 (.u x)/\Boxed W (w.heap.size+1) 22 (.u y)/\W.heap[w.heap.size+1+1]?=some (.cells #[.u 0,.u 0,.u 0] 90 (0,0))/\Boxed W (w.heap.size+1+1+1) 4 (.bool false)/\w.heap.size+5<=W.heap.size)/\Bw w W)
  (λc pre W=>(c=.ret/\∃ C d,pre=C++[d]/\(∀ p ∈ C,i7 x y p=false)/\i7 x y d=true/\W.heap[w.heap.size+1+1]?=some (.cells #[.u d.2.1,.u d.2.2.1,.u d.2.2.2] 90 (0,0))/\Boxed W (w.heap.size+1+1+1) 4 (.bool true))/\Bw w W)
  (OwnFrom.and (λs A B row hs H I=>⟨hs.1,kF hs.2.1 H (λr e=>(I r e).2),kF hs.2.2.1 H (λr e=>(I r e).2),kF hs.2.2.2.1 H (λr e=>(I r e).2),kF hs.2.2.2.2.1 H (λr e=>(I r e).2),Nat.le_trans hs.2.2.2.2.2 H.size⟩) (ownFrom_below (Nat.le_refl _) al))
  (λc=>OwnFrom.and (λs A B row hs H I=>by obtain ⟨hc,C,d,e1,e2,e3,e4,e5⟩:=hs;exact ⟨hc,C,d,e1,e2,e3,kF e4 H (λr e=>(I r e).2),kF e5 H (λr e=>(I r e).2)⟩) (ownFrom_below (Nat.le_refl _) al))
  ⟨⟨bc,bX,bY,bR,bB,al⟩,L⟩
  (λq a' W=>∃ J,w.heap.size+4<=J/\W.heap[J]?=some (.cells #[.u q.2.1,.u q.2.2.1,.u q.2.2.2] 90 (0,0))/\a'={tmps:=#[.slice (some ⟨b,g,none⟩) 22 cap,.u x,.u y,undef,.p w.heap.size 0,.p (w.heap.size+1) 0,.p (w.heap.size+1+1) 0,.p (w.heap.size+1+1+1) 0,undef,.p J 0,.slice (some ⟨b,g,none⟩) 22 cap,.func (.func 106) #[] #[.p (w.heap.size+1+1+1+1) 0],.i (q.1:Int),.agg #[.u q.2.1,.u q.2.2.1,.u q.2.2.2],undef,undef,undef,undef,undef,undef,undef,undef,undef,undef,undef,undef],defers:=[]})
  (λq a' _ X Y row hs H I=>by obtain ⟨J,Z,h2,h3⟩:=hs;exact ⟨J,Z,kF h2 H (λr e=>(I r e).2),h3⟩)
  ?assign ?body ?done ?stop
 case assign =>rintro lp pre q W K ⟨⟨O,t,u,f,m,z⟩,o⟩ R;simp only [JO];gi_wp2_with fail;exact R _ _ ((KeepsOthers.alloc _ _).from _) ((Below.refl _ W).alloc z _) ⟨⟨O,t.alloc _,u.alloc _,qG f _,m.alloc _,a7⟩,o.alloc o.size _⟩ ⟨W.heap.size,m.lt,World.alloc_heap_new W _,rfl⟩
 case body =>
  rintro lp pre q a' W hlp ⟨r,I⟩ ⟨⟨O,t,u,f,m,z⟩,o⟩ ⟨J,hBx,bQ,rfl⟩ hlt;have q0:W.cell? ⟨J,0,none⟩=some (.u q.2.1):=(by simp [World.cell?,bQ]);have q1:W.cell? ⟨J,1,none⟩=some (.u q.2.2.1):=(by simp [World.cell?,bQ]);have q2:W.cell? ⟨J,2,none⟩=some (.u q.2.2.2):=(by simp [World.cell?,bQ]);have cX:=t.cell;have cY:=u.cell;have M:Hid (i7 x y q=(decide (q.2.1<=y)&&decide (x<=q.2.2.1))):=(rfl:i7 x y q=_);cases Z:decide (q.2.1<=y) with
  | false =>rw [Z] at M;have V:Hid (i7 x y q=false):=M.out;gi_wp2_with fail;exact ⟨KeepsFrom.refl _ _,Below.refl _ _,⟨λp P=>(List.mem_append.1 P).elim (O p) (λe=>by simp at e;subst e;exact V.out),t,u,f,m,z⟩,o⟩
  | true =>
    rw [Z] at M;cases h2:decide (x<=q.2.2.1) with
    | false =>rw [h2] at M;have V:Hid (i7 x y q=false):=M.out;gi_wp2_with fail;exact ⟨KeepsFrom.refl _ _,Below.refl _ _,⟨λp P=>(List.mem_append.1 P).elim (O p) (λe=>by simp at e;subst e;exact V.out),t,u,f,m,z⟩,o⟩
    | true =>
      rw [h2] at M;have V:Hid (i7 x y q=true):=M.out;have r0:W.cell? ⟨w.heap.size+1+1,0,none⟩=some (.u 0):=v8;have r1:W.cell? ⟨w.heap.size+1+1,1,none⟩=some (.u 0):=v8;have r2:W.cell? ⟨w.heap.size+1+1,2,none⟩=some (.u 0):=v8;have g0:W.frozen? ⟨w.heap.size+1+1,0,none⟩=false:=ta;have g1:W.frozen? ⟨w.heap.size+1+1,1,none⟩=false:=ta;have g2:W.frozen? ⟨w.heap.size+1+1,2,none⟩=false:=ta;have cB:=m.cell;have fB:=m.frozen;have Z1:Hid (KeepsFrom N.heap.size W ((((W.setCell ⟨w.heap.size+1+1,0,none⟩ (.u q.2.1)).setCell ⟨w.heap.size+1+1,1,none⟩ (.u q.2.2.1)).setCell ⟨w.heap.size+1+1,2,none⟩ (.u q.2.2.2)).setCell ⟨w.heap.size+1+1+1,0,none⟩ (.bool true))):=((((KeepsOthers.setCell W _ _).trans (KeepsOthers.setCell _ _ _)).trans (KeepsOthers.setCell _ _ _)).trans (KeepsOthers.setCell _ _ _)).from _
      have Z2:Hid (((((W.setCell ⟨w.heap.size+1+1,0,none⟩ (.u q.2.1)).setCell ⟨w.heap.size+1+1,1,none⟩ (.u q.2.2.1)).setCell ⟨w.heap.size+1+1,2,none⟩ (.u q.2.2.2)).setCell ⟨w.heap.size+1+1+1,0,none⟩ (.bool true)).heap[w.heap.size+1+1]?=some (.cells #[.u q.2.1,.u q.2.2.1,.u q.2.2.2] 90 (0,0))):=eB (kl (kl (kl f _) _) _) al _;have Z3:Hid (Boxed ((((W.setCell ⟨w.heap.size+1+1,0,none⟩ (.u q.2.1)).setCell ⟨w.heap.size+1+1,1,none⟩ (.u q.2.2.1)).setCell ⟨w.heap.size+1+1,2,none⟩ (.u q.2.2.2)).setCell ⟨w.heap.size+1+1+1,0,none⟩ (.bool true)) (w.heap.size+1+1+1) 4 (.bool true)):=Boxed.set _ (v:=.bool false) (eB (eB (eB m al _) al _) al _);have Z4:Hid (Bw w ((((W.setCell ⟨w.heap.size+1+1,0,none⟩ (.u q.2.1)).setCell ⟨w.heap.size+1+1,1,none⟩ (.u q.2.2.1)).setCell ⟨w.heap.size+1+1,2,none⟩ (.u q.2.2.2)).setCell ⟨w.heap.size+1+1+1,0,none⟩ (.bool true))):=(((o.setCell (p:=⟨w.heap.size+1+1,0,none⟩) a7 _).setCell (p:=⟨w.heap.size+1+1,1,none⟩) a7 _).setCell (p:=⟨w.heap.size+1+1,2,none⟩) a7 _).setCell (p:=⟨w.heap.size+1+1+1,0,none⟩) a7 _;gi_wp2_with fail;exact ⟨Z1.out,⟨rfl,pre,q,rfl,O,V.out,Z2.out,Z3.out⟩,Z4.out⟩
 case done =>rintro D ys W hD rfl ⟨⟨O,t,u,f,m,z⟩,o⟩ R;have FN:Hid (ke l x y=(0,0,0,false)):=(by show ke l x y=_;unfold ke;rw [Gx O]);have r0:W.cell? ⟨w.heap.size+1+1,0,none⟩=some (.u 0):=v8;have r1:W.cell? ⟨w.heap.size+1+1,1,none⟩=some (.u 0):=v8;have r2:W.cell? ⟨w.heap.size+1+1,2,none⟩=some (.u 0):=v8;have g0:W.frozen? ⟨w.heap.size+1+1,0,none⟩=false:=ta;have g1:W.frozen? ⟨w.heap.size+1+1,1,none⟩=false:=ta;have g2:W.frozen? ⟨w.heap.size+1+1,2,none⟩=false:=ta;have cB:=m.cell;have fB:=m.frozen;have k1:Hid (((((W.setCell ⟨w.heap.size+1+1,0,none⟩ (.u 0)).setCell ⟨w.heap.size+1+1,1,none⟩ (.u 0)).setCell ⟨w.heap.size+1+1,2,none⟩ (.u 0)).setCell ⟨w.heap.size+1+1+1,0,none⟩ (.bool false)).heap[D]?=some (.deferred (some []))):=eB (eB (eB (eB R al _) al _) al _) al _;have z2:((((W.setCell ⟨w.heap.size+1+1,0,none⟩ (.u 0)).setCell ⟨w.heap.size+1+1,1,none⟩ (.u 0)).setCell ⟨w.heap.size+1+1,2,none⟩ (.u 0)).setCell ⟨w.heap.size+1+1+1,0,none⟩ (.bool false)).heap[w.heap.size+1+1]?=some (.cells #[.u 0,.u 0,.u 0] 90 (0,0)):=eB (kl (kl (kl f _) _) _) al _;have z3:Boxed ((((W.setCell ⟨w.heap.size+1+1,0,none⟩ (.u 0)).setCell ⟨w.heap.size+1+1,1,none⟩ (.u 0)).setCell ⟨w.heap.size+1+1,2,none⟩ (.u 0)).setCell ⟨w.heap.size+1+1+1,0,none⟩ (.bool false)) (w.heap.size+1+1+1) 4 (.bool false):=Boxed.set _ (v:=.bool false) (eB (eB (eB m al _) al _) al _);have z4:Hid (Bw w ((((W.setCell ⟨w.heap.size+1+1,0,none⟩ (.u 0)).setCell ⟨w.heap.size+1+1,1,none⟩ (.u 0)).setCell ⟨w.heap.size+1+1,2,none⟩ (.u 0)).setCell ⟨w.heap.size+1+1+1,0,none⟩ (.bool false))):=(((o.setCell (p:=⟨w.heap.size+1+1,0,none⟩) a7 _).setCell (p:=⟨w.heap.size+1+1,1,none⟩) a7 _).setCell (p:=⟨w.heap.size+1+1,2,none⟩) a7 _).setCell (p:=⟨w.heap.size+1+1+1,0,none⟩) a7 _;have Z2:Hid (((((((W.setCell ⟨w.heap.size+1+1,0,none⟩ (.u 0)).setCell ⟨w.heap.size+1+1,1,none⟩ (.u 0)).setCell ⟨w.heap.size+1+1,2,none⟩ (.u 0)).setCell ⟨w.heap.size+1+1+1,0,none⟩ (.bool false))).putObj D (.deferred none)).heap[w.heap.size+1+1]?=some (.cells #[.u 0,.u 0,.u 0] 90 (0,0))):=sD z2 al;have Z3:Hid (Boxed (((((W.setCell ⟨w.heap.size+1+1,0,none⟩ (.u 0)).setCell ⟨w.heap.size+1+1,1,none⟩ (.u 0)).setCell ⟨w.heap.size+1+1,2,none⟩ (.u 0)).setCell ⟨w.heap.size+1+1+1,0,none⟩ (.bool false)).putObj D (.deferred none)) (w.heap.size+1+1+1) 4 (.bool false)):=sD z3 al;clear z2 z3;gi_wp2_with fail;refine ⟨bc,.inl ⟨_,_,rfl,run_takeDeferred k1.out,?_⟩⟩;have Q:=Z2.out;have y3:=Z3.out.cell;refine ⟨.tuple #[.agg #[.u 0,.u 0,.u 0],.bool false],?_,by rw [FN.out],z4.out.trans (belowK_b (w:=w) (Nat.le_refl _) _ D _ _ al k1.out rfl rfl)⟩;have E:=kf Q 0;have F:=kf Q 1;have G:=kf Q 2;simp at E F G;simp [results,Tryz.f230,go_sem,E,F,G,y3]
 case stop =>rintro D c pre W hD T ⟨⟨rfl,C,d,e1,e2,e3,f,m⟩,o⟩ R;have FN:Hid (ke l x y=(d.2.1,d.2.2.1,d.2.2.2,true)):=(by show ke l x y=_;unfold ke;rw [Gv T e1 e2 e3]);gi_wp2_with fail;refine ⟨bc,.inl ⟨_,_,rfl,run_takeDeferred R,?_⟩⟩;have Q:(W.putObj D (.deferred none)).heap[w.heap.size+1+1]?=_:=sD f al;have y3:=Boxed.cell (show Boxed (W.putObj D (.deferred none)) (w.heap.size+1+1+1) 4 (.bool true) from sD m al);have E:=kf Q 0;have F:=kf Q 1;have G:=kf Q 2;simp at E F G;refine ⟨.tuple #[.agg #[.u d.2.1,.u d.2.2.1,.u d.2.2.2],.bool true],?_,by rw [FN.out],o.trans (belowK_b (w:=w) (Nat.le_refl _) W D _ _ al R rfl rfl)⟩;simp [results,Tryz.f230,go_sem,E,F,G,y3]
theorem JP {l:List Int} {n:Nat} (hl:∀ j,U (l.getD j 0)) {q:Nat × Int × Int × Int} (h:q ∈ fE l n):∃ z:Nat,z<256/\q.2.2.2=z:=by
 obtain ⟨_,e⟩:=Mg h;unfold lZ at e;split at e;·cases e
 ·have:=Option.some.inj e;rw [<- this];obtain ⟨a,b⟩:=jN (l.getD 16 0) (8*q.1) 8;exact ⟨(cI (l.getD 16 0) (8*q.1) 8).toNat,al,by show cI _ _ _=_;omega⟩
theorem Gz (z:Nat) (hz:z<256) (p k:Int):u7 z p k=jS z p k:=by
 obtain ⟨a,e,b,c,d,f⟩:=PQ z hz;unfold u7 jS rF;rw [a];cases h:((p==3)&&((z:Int)/128==0)) with
 | true=>rfl
 | false =>
   cases g:(k==1) with
   | true=>simp only [if_true,Bool.false_eq_true,if_false,Bool.false_or];rw [b]
   | false =>
     cases i:(k==2) with
     | true=>simp only [if_true,Bool.false_eq_true,if_false,Bool.false_or];rw [c]
     | false=>simp only [Bool.false_eq_true,if_false,Bool.false_or];rw [d]
theorem JQ {l:List Int} (hl:∀ j,U (l.getD j 0)) (a:bf 22 l=true) (p x y k:Int):ay l p x y k 4 0=if (ke l x y).2.2.2=true then (uj (ke l x y).1 (ke l x y).2.1 x y&&jS (ke l x y).2.2.1 p k) else (p==3):=by
 rw [Gy hl a p x y k 4 0 al];have c:(List.range' 0 4).filterMap (lZ l)=fE l 4:=by unfold fE;rw [List.range_eq_range']
 rw [c];unfold ke;cases b:(fE l 4).find? (i7 x y) with
 | none=>rfl
 | some q =>
   obtain ⟨z,d,e⟩:=JP hl (List.mem_of_find?_eq_some b);show (!(decide (x<q.2.1)||decide (q.2.2.1<y))&&u7 q.2.2.2 p k)=(uj q.2.1 q.2.2.1 x y&&jS q.2.2.2 p k);rw [e,Gz z d p k];congr 1;unfold uj;rw [Bool.not_or];congr 1;·rw [<- decide_not];congr 1;exact propext ⟨λh=>al,λh=>al⟩
   ·rw [<- decide_not];congr 1;exact propext ⟨λh=>al,λh=>al⟩
theorem JR {w:World} {a:Option Addr} {l:List Int} (hs:Sl .u64 w a l) (hz:l.length=22):∃ b c,a=some ⟨b,c,none⟩/\b<w.heap.size/\∀ j,j<22->w.cell? ⟨b,c+j,none⟩=some (.u (l.getD j 0)):=by obtain ⟨b,c,rfl,f,_⟩:=hs 0 al;refine ⟨b,c,rfl,f,λj i=>?_⟩;obtain ⟨h,d,e,_,g⟩:=hs j al;cases e;exact g
theorem Db (w:World) (u v z:Value) (t:TypeId):(w.alloc (.cells #[u,v,z] t)).cell? ⟨w.heap.size,0,none⟩=some u/\(w.alloc (.cells #[u,v,z] t)).cell? ⟨w.heap.size,1,none⟩=some v/\(w.alloc (.cells #[u,v,z] t)).cell? ⟨w.heap.size,2,none⟩=some z:=by have h:=World.alloc_heap_new w (.cells #[u,v,z] t);exact ⟨kf h 0,kf h 1,kf h 2⟩
theorem jT (a:Option Addr) (n cap:Nat) (l:List Int) (p x s k:Int) (w:World) (hz:l.length=n) (hs:Sl .u64 w a l) (hl:∀ j,U (l.getD j 0)) (hx:U x) (hT:qb w):CB 189 #[.slice a n cap,.i p,.u x,.i s,.i k] w (.bool (rj n l p x s k)):=by
 have H:Hid (CB 68 #[.slice a n cap,.i p] w (.bool (aQ n l p))):=eI a n cap l p w hz hs hl
 have J:Hid (∀ w,CE 229 #[.i s] w (.bool (ic s))):=fV s
 have K:Hid (∀ w,CE 90 #[.i k] w (.bool (decide (1<=k/\k<=3)))):=λw=>by
  have:=oR k w
  rw [ye] at this
  exact this
 have A:rj n l p x s k=(aQ n l p&&ic s&&decide (1<=k/\k<=3)&&!decide (aM x s<x)&&ay l p x (aM x s) k 4 0):=rfl
 have hy:Uz.wrap (Uz.wrap (x+Uz.wrap s)-1)=aM x s:=rfl
 have S:aQ n l p=true->Hid ((∀ W,Bw w W->CB 230 #[.slice a n cap,.u x,.u (aM x s)] W (.tuple #[.agg #[.u (ke l x (aM x s)).1,.u (ke l x (aM x s)).2.1,.u (ke l x (aM x s)).2.2.1],.bool (ke l x (aM x s)).2.2.2])) /\
  ay l p x (aM x s) k 4 0=if (ke l x (aM x s)).2.2.2=true then (uj (ke l x (aM x s)).1 (ke l x (aM x s)).2.1 x (aM x s)&&jS (ke l x (aM x s)).2.2.1 p k) else (p==3)):=by
  intro h
  obtain ⟨rfl,hp⟩:=fU h
  have Z:bf 22 l=true:=by unfold aQ at h;rw [Bool.and_eq_true] at h;exact h.1
  obtain ⟨b,N,rfl,hb,hc⟩:=JR hs hz
  exact ⟨λW Y=>yg b N cap l x (aM x s) W (Nat.lt_of_lt_of_le hb Y.size) (λj hj=>(Y.cell (p:=⟨b,N+j,none⟩) hb).trans (hc j hj)) hl (hT.below Y),JQ hl Z p x (aM x s) k⟩
 clear hz hs hl hT hx
 generalize rj n l p x s k=g at *
 generalize ay l p x (aM x s) k 4 0=pr at *
 generalize decide (1<=k/\k<=3)=kb at *
 generalize ic s=sb at *
 generalize aM x s=y at *
 generalize aQ n l p=lb at *
 generalize ke l x y=m at *
 obtain ⟨C,B,r,ok⟩:=m
 simp only at S
 cases lb with
 | false =>
   have F:Hid (g=false):=A
   clear A S
   go_enter func189,ntmps189
   go_wp2_with fail
   refine H.out.mono ?_
   rintro e D ⟨rfl,c⟩
   go_wp2_with fail
   go_ret
   exact ⟨a6,c⟩
 | true =>
   have I:=S rfl
   have X:Hid (∀ W,Bw w W->CB 230 #[.slice a n cap,.u x,.u y] W (.tuple #[.agg #[.u C,.u B,.u r],.bool ok])):=I.out.1
   have R:Hid (pr=if ok=true then (uj C B x y&&jS r p k) else (p==3)):=I.out.2
   clear S I
   cases sb with
   | false =>
     have F:Hid (g=false):=A
     clear A
     go_enter func189,ntmps189
     go_wp2_with fail
     refine H.out.mono ?_
     rintro e D ⟨rfl,c⟩
     go_wp2_with fail
     refine (J.out _).mono ?_
     rintro e O ⟨rfl,d⟩
     subst d
     go_wp2_with fail
     go_ret
     exact ⟨a6,c⟩
   | true =>
     cases kb with
     | false =>
       have F:Hid (g=false):=A
       clear A
       go_enter func189,ntmps189
       go_wp2_with fail
       refine H.out.mono ?_
       rintro e D ⟨rfl,c⟩
       go_wp2_with fail
       refine (J.out _).mono ?_
       rintro e O ⟨rfl,d⟩
       subst d
       go_wp2_with fail
       refine (K.out _).mono ?_
       rintro e T ⟨rfl,f⟩
       subst f
       go_wp2_with fail
       go_ret
       exact ⟨a6,c⟩
     | true =>
       cases M:decide (y<x) with
       | true =>
         rw [M] at A
         have F:Hid (g=false):=A
         clear A
         go_enter func189,ntmps189
         go_wp2_with fail
         refine H.out.mono ?_
         rintro e D ⟨rfl,c⟩
         go_wp2_with fail
         refine (J.out _).mono ?_
         rintro e O ⟨rfl,d⟩
         subst d
         go_wp2_with fail
         refine (K.out _).mono ?_
         rintro e T ⟨rfl,f⟩
         subst f
         go_wp2_with fail
         go_ret
         exact ⟨a6,c⟩
       | false =>
         rw [M] at A
         have P:Hid (g=pr):=A.trans bc
         clear A
         cases ok with
         | false =>
           have F:Hid (g=(p==3)):=P.out.trans R.out
           clear R P
           go_enter func189,ntmps189
           go_wp2_with fail
           refine H.out.mono ?_
           rintro e D ⟨rfl,c⟩
           have o:Hid (Bw w D):=c
           clear c
           go_wp2_with fail
           refine (J.out _).mono ?_
           rintro e O ⟨rfl,d⟩
           subst d
           go_wp2_with fail
           refine (K.out _).mono ?_
           rintro e T ⟨rfl,f⟩
           subst f
           go_wp2_with fail
           refine (X.out _ o.out).mono ?_
           rintro e E ⟨rfl,t⟩
           have q:Hid (Bw w E):=aa o.out t
           clear t
           go_wp2_with fail
           go_ret
           exact ⟨a6,q.out.alloc q.out.size _⟩
         | true =>
           have Q:Hid (g=(uj C B x y&&jS r p k)):=P.out.trans R.out
           clear R P
           have HA:Hid (∀ w,CB 231 #[.agg #[.u C,.u B,.u r],.u x,.u y] w (.bool (uj C B x y))):=C8 C B r x y
           have HW:Hid (∀ w,CB 232 #[.agg #[.u C,.u B,.u r],.i p,.i k] w (.bool (jS r p k))):=C9 C B r p k
           generalize uj C B x y=ab at *
           generalize jS r p k=aw at *
           cases ab with
           | false =>
             have F:Hid (g=false):=Q.out
             clear Q
             go_enter func189,ntmps189
             go_wp2_with fail
             refine H.out.mono ?_
             rintro e D ⟨rfl,c⟩
             have o:Hid (Bw w D):=c
             clear c
             go_wp2_with fail
             refine (J.out _).mono ?_
             rintro e O ⟨rfl,d⟩
             subst d
             go_wp2_with fail
             refine (K.out _).mono ?_
             rintro e T ⟨rfl,f⟩
             subst f
             go_wp2_with fail
             refine (X.out _ o.out).mono ?_
             rintro e E ⟨rfl,t⟩
             have q:Hid (Bw w E):=aa o.out t
             clear t
             go_wp2_with fail
             refine (HA.out _).mono ?_
             rintro e w5 ⟨rfl,u⟩
             have G:Hid (Bw w w5):=aa (q.out.alloc q.out.size _) u
             clear u
             go_wp2_with fail
             go_ret
             exact ⟨a6,G.out⟩
           | true =>
             have F:Hid (g=aw):=Q.out.trans bc
             clear Q
             go_enter func189,ntmps189
             go_wp2_with fail
             refine H.out.mono ?_
             rintro e D ⟨rfl,c⟩
             have o:Hid (Bw w D):=c
             clear c
             go_wp2_with fail
             refine (J.out _).mono ?_
             rintro e O ⟨rfl,d⟩
             subst d
             go_wp2_with fail
             refine (K.out _).mono ?_
             rintro e T ⟨rfl,f⟩
             subst f
             go_wp2_with fail
             refine (X.out _ o.out).mono ?_
             rintro e E ⟨rfl,t⟩
             have q:Hid (Bw w E):=aa o.out t
             clear t
             go_wp2_with fail
             refine (HA.out _).mono ?_
             rintro e w5 ⟨rfl,u⟩
             have G:Hid (Bw w w5):=aa (q.out.alloc q.out.size _) u
             obtain ⟨n0,n1,n2⟩:=Db E (.u C) (.u B) (.u r) 90
             have m0:=(u.cell (p:=⟨E.heap.size,0,none⟩) bc).trans n0
             have m1:=(u.cell (p:=⟨E.heap.size,1,none⟩) bc).trans n1
             have m2:=(u.cell (p:=⟨E.heap.size,2,none⟩) bc).trans n2
             clear u n0 n1 n2
             go_wp2_with fail
             refine (HW.out _).mono ?_
             rintro e w6 ⟨rfl,L⟩
             have V:Hid (Bw w w6):=aa G.out L
             clear L m0 m1 m2
             go_wp2_with fail
             go_ret
             exact ⟨a6,V.out⟩
theorem JS (x m:Int) (h:U x):bits .or .u64 (bits .andNot .u64 x m) (bits .and .u64 x m)=x:=by refine bg _ _ (aj _ _ _) h λi a=>?_;rw [bZ,aA _ _ _ a,az];cases bt x i<;>cases bt m i<;>rfl
theorem JT (l:List Int) (k:Nat) (x:Int) (hk:k<l.length) (hx:l.getD k 0=x):l.set k x=l:=by
 have:l[k]=x:=by rw [<- hx];simp [List.getD,List.getElem?_eq_getElem hk]
 rw [<- this];exact List.set_getElem_self hk
theorem wI {M:MV} (a:M.cs.length=22) (b:U (M.cs.getD 9 0)) (hb:kB M=true):dH M=M:=by
 have e:bits .and .u64 (M.cs.getD 9 0) 2184=cU M.d:=by unfold kB at hb;simpa using hb
 have s:M.cs.set 9 (bits .or .u64 (bits .andNot .u64 (M.cs.getD 9 0) 2184) (cU M.d))=M.cs:=by rw [<- e];exact JT _ 9 _ al (JS _ _ b).symm
 unfold dH;rw [s]
theorem Eu (x:Int) (h:U x):bits .andNot .u64 x 7=x/8*8:=by
 refine bg _ _ (aj _ _ _) ⟨by have:=h.1;omega,by have:=h.2;omega⟩ λi c=>?_;have d:=mz (x/8) ⟨by have:=h.1;omega,by have:=h.2;omega⟩ 3 i;have f:Uz.wrap (x/8*2^3)=x/8*8:=by have l:=h.1;have m:=h.2;rw [IntKind.wrap_u64];omega
 rw [f] at d;rw [d,aA _ _ _ c];have k:∀ i,i<64->bt 7 i=decide (i<3):=a8
 rw [k i c];by_cases a:i<3
 ·have:¬ 3<=i:=by omega
  simp [a,this]
 ·have g:3<=i:=al;have j:bt (x/8) (i-3)=bt x i:=(by have b:=iT x h 3 (i-3);rw [show i-3+3=i by omega] at b;have e:(2:Int)^3=8:=a5;rw [e] at b;exact b);simp [a,g,j,c]
theorem Mi (M:MV) (pa:Int) (a:U pa) (hd:U M.hd):(M.hl&&(Uz.wrap (pa.tdiv 8)==Uz.wrap (M.hd.tdiv 8)))=nG M pa:=by
 have e:∀ x:Int,U x->Uz.wrap (x.tdiv 8)=x/8:=λx h=>by have b:=h.1;have c:=h.2;rw [Int.tdiv_eq_ediv_of_nonneg b,IntKind.wrap_u64];omega
 unfold nG;rw [e pa a,e M.hd hd,Eu pa a,Eu M.hd hd];congr 1;by_cases h:pa/8=M.hd/8;·rw [h];simp
 ·rw [beq_eq_false_iff_ne.2 h,beq_eq_false_iff_ne.2 al]
theorem Ev (D:DV) (k:Nat) (h:kq D.xs.length D.ys.length D.ir=true) (hk:(jc D k).2.2=true):kq (jc D k).2.1.xs.length (jc D k).2.1.ys.length (jc D k).2.1.ir=true:=by
 have a:=xr h;match k,hk with
 | 0,_=>exact h
 | 1,_=>exact h
 | 2,_=>exact h
 | 3,_ =>show kq (D.xs.drop 1).length D.ys.length D.ir=true;unfold kq at h ⊢;simp only [Bool.and_eq_true,decide_eq_true_eq,List.length_drop] at h ⊢;omega
 | 4,_=>exact h
 | 5,_=>exact h
theorem JU (x:Int):0<=wrap64 (bits .and .u64 x 1)/\wrap64 (bits .and .u64 x 1)<=1:=by
 have c:∀ i,i<64->bt 1 i=decide (i=0):=a8
 have d:∀ i,i<64->bt 0 i=false:=a8
 have h:bits .and .u64 x 1=if bt x 0=true then 1 else 0:=by
  refine bg _ _ (aj _ _ _) (by split<;>exact ⟨al,al⟩) λi b=>?_;rw [az,c i b];by_cases a:i=0
  ·subst a;cases bt x 0;·rw [if_neg a5,d 0 al];rfl
   ·rw [if_pos rfl,c 0 al];rfl
  ·rw [decide_eq_false a,Bool.and_false];split;·rw [c i b,decide_eq_false a]
   ·rw [d i b]
 rw [h];split<;>decide +kernel
theorem Ew (D:DV) (x addr size:Int) (h:kq D.xs.length D.ys.length D.ir=true):(fy D x (gg addr size)).2=true->kq (fy D x (gg addr size)).1.xs.length (fy D x (gg addr size)).1.ys.length (fy D x (gg addr size)).1.ir=true:=by
 have c:=JU x;have a:=DP D x;obtain ⟨q,d⟩:∃ q,q=wrap64 (bits .and .u64 x 1):=⟨_,rfl⟩;rw [<- d] at a c;clear d;refine jj addr size (λk=>(fy D x k).2=true->kq (fy D x k).1.xs.length (fy D x k).1.ys.length (fy D x k).1.ir=true) ?_ ?_ ?_ ?_ ?_ ?_ ?_;·intro _ _;rw [DM];exact λ_=>h
 ·intro _ _;rw [DN];exact λ_=>h
 ·intro _ _;rw [DO];exact λ_=>h
 ·intro _ _;by_cases b:D.ys.length<4096;·rw [xv D x b];intro _;unfold kq at h ⊢;simp only [Bool.and_eq_true,decide_eq_true_eq,List.length_append,List.length_singleton] at h ⊢;omega
  ·rw [xw D x b];exact λ_=>h
 ·intro _ _;rw [a];intro _;unfold kq at h ⊢;simp only [Bool.and_eq_true,decide_eq_true_eq] at h ⊢;exact ⟨h.1,c⟩
 ·intro _ _;rw [DQ];exact λ_=>h
 ·intro _ _ _ _ _ _;rw [DR];intro e;cases e
theorem OE (D:DV) (k:Nat) (h:(jc D k).2.2=false):(jc D k).1=0:=by
 match k,h with
 | 0,h=>cases h
 | 1,h=>cases h
 | 2,h=>cases h
 | 3,h=>cases h
 | 4,h=>cases h
 | 5,h=>cases h
 | k+6,_=>rfl
theorem Dc {n:Nat} (h:be n=true):0<n:=by
 rcases Nat.eq_zero_or_pos n with a|a;·subst a;revert h;decide
 ·exact a
def Av (M:MV) (pa size kind x:Int):Int × Bool × MV :=
 if fQ M.ram.length pa size=true then
  (if (kind==3)=true then (0,true,mX (bz M (jZ M.ram (pa-2147483648).toNat x size.toNat)) pa) else (le M.ram (pa-2147483648).toNat size.toNat,true,M))
 else if (kind==2)=true then
  (if (jc M.d (gg pa size)).2.2=true then ((jc M.d (gg pa size)).1,true,dH (dy M (jc M.d (gg pa size)).2.1)) else (0,false,M))
 else if (kind==3)=true then
  (if (fy M.d x (gg pa size)).2=true then (0,true,mX (dH (dy M (fy M.d x (gg pa size)).1)) pa) else (0,false,M))
 else (0,false,M)
theorem OF (M:MV) (pa size kind x:Int):rv M pa size kind x=if (Av M pa size kind x).2.1=true then ((Av M pa size kind x).1,(Av M pa size kind x).2.2,0) else (0,(Av M pa size kind x).2.2,jp kind):=by
 unfold rv Av;split;·split<;>rfl
 ·split;·split<;>rfl
  ·split;·split<;>rfl
   ·rfl
theorem JV (l:List Int) (p x s k:Int) (a:aQ 22 l p=true) (b:ic s=true) (c:decide (1<=k/\k<=3)=true):rj 22 l p x s k=!FQ l p x s k:=by unfold rj FQ;rw [a,b,c,Bool.not_or,Bool.not_not];rfl
end Go.Proofs.YtjifdmoehfbihaaGreatDoor
