/- Own lemmas. -/
import Derived.Test.YtlidafnochnddaaGreatDoorAut
import Derived.Test.YtlidafnochnddaaGreatDoorK26
set_option maxRecDepth 100000
set_option maxHeartbeats 6400000
namespace Go.Proofs.YtlidafnochnddaaGreatDoor
open Go.RowKit Tryz
open Below renaming refl->K1
open Go renaming World->L5,run_underlying->L6
open Lib renaming decDigits->H3,itoa->H5,trimSuffix->H8,hasSuffix->I4
open List renaming length_append->F0,length_cons->F3,size_toArray->G3,length_nil->H1,append_nil->H2
open Nat renaming le_of_ble_eq_true->A0,le_refl->A5,zero_le->A6
open Result renaming andThen_ok->K0
open Sem renaming run_pure->K4,run_bind->L4
open _root_.ByteArray renaming size->I5
set_option linter.unusedVariables false
set_option maxRecDepth 100000
variable {n:Int} {A r:List UInt8} (m:ByteArray) (s:L5) (x:Nat) (b:List UInt8)
def sW (k:ByteArray) (m:Int):ByteArray:=⟨(k.data.toList++32::H5 m).toArray⟩
def LP (n:Nat):List ByteArray:=(QR n).map (λI=>⟨(cE I).toArray⟩)++[kQ,sW kRun ((3*n+9:Nat):Int),sW kReg ((2:Nat):Int),wF,sW kCsr 834,sW kCsr 833,sW kReg ((5:Nat):Int)]
def B6 (n:Nat):List UInt8:=D1.data.toList++[10]++H5 ((3*n+9:Nat):Int)++[10]++H3 (je n)++[10]++H3 (je n%256)++[10]++H3 11++[10]++H3 2147483688++[10]++H3 7++[10]
def oM (n:Nat):MV:=eR (sU n) (sV n) 2147483696 0 (je n) 268435456 2147483692 7 6144 2147483692 2147483688 11 ((3*n+8:Nat):Int) [IntKind.u8.wrap (je n)]
def xG (n:Nat):MV:=eR (sU n) (sV n) 2147483648 0 0 0 0 0 0 0 0 0 0 []
theorem LQ (M N:MV) (m:Nat) (hm:eW M) (f:m<=300) (b:(bJ m M).1=N) (d:oL (bJ m M).2=m):jD M [(1,(m:Int))]=(N,m):=by
 have c:((1:Int)==1&&decide (0<=(m:Int)/\(m:Int)<=300)):=by rw [Bool.and_eq_true,JZ6];exact ⟨rfl,aa,aa⟩
 have a:(eW M&&decide (([(1,(m:Int))]:List (Int × Int)).length<=100)):=by rw [hm];rfl
 have e:Cc 1 (m:Int) M=((bJ m M).1,oL (bJ m M).2):=by unfold Cc;rw [JZ8 c,Int.toNat_natCast]
 unfold jD;rw [JZ8 a];unfold me me;dsimp only;rw [e,b,d];rfl
theorem B7 (h:1<=x/\x<=40):jD (xG x) [(1,((3*x+9:Nat):Int))]=(oM x,3*x+9):=
 LQ (xG x) (oM x) (3*x+9) (QS _ _) aa (Fx x h).1 (Fx x h).2
def QT (l:List UInt8):Bool:=match l with
 | []=>false
 | c::_=>c != 46
theorem jT {I:Ins} {w:Int} (b:List Int) (M:MV) (an:List UInt8) (a:QT (cE I)) (j:(cE I).length<=1000) (f:IW I) (he:(j9 I).2) (m:(tX I).1=w) (k:b.length<=900):Ln ⟨(cE I).toArray⟩ b M an (b++[w]) M an:=by
 subst m;have e:(⟨(cE I).toArray⟩:ByteArray).data.toList=cE I:=bh
 obtain ⟨c,rest,l,g⟩:∃ c rest,cE I=c::rest/\c≠46:=by
  cases d:cE I with
  | nil=>rw [d] at a;cases a
  | cons c rest =>rw [d] at a;exact ⟨c,rest,rfl,by simpa [QT] using a⟩
 refine .ins _ I c rest b M an (e.trans l) g (by show (cE I).toArray.size<=1000;simpa using j) (λi t h=>?_) f.1 k;rw [e] at h;exact PR.same h (.inl ⟨rfl,f,he,rfl⟩)
theorem B8 (h: -9223372036854775808<=n/\n<=9223372036854775807):(Lit.int .i64 n).wf:=Lw h.1 h.2
theorem Oo (h:1<=x/\x<=40):QT (cE ⟨22,1,0,0,x⟩)/\(cE ⟨22,1,0,0,x⟩).length<=1000/\(j9 ⟨22,1,0,0,x⟩).2/\(tX ⟨22,1,0,0,x⟩).1=((1048576*x+147:Nat):Int):=by
 obtain rfl|rfl|rfl|rfl|rfl|rfl|rfl|rfl|rfl|rfl|rfl|rfl|rfl|rfl|rfl|rfl|rfl|rfl|rfl|rfl|rfl|rfl|rfl|rfl|rfl|rfl|rfl|rfl|rfl|rfl|rfl|rfl|rfl|rfl|rfl|rfl|rfl|rfl|rfl|rfl:x=1\/x=2\/x=3\/x=4\/x=5\/x=6\/x=7\/x=8\/x=9\/x=10\/x=11\/x=12\/x=13\/x=14\/x=15\/x=16\/x=17\/x=18\/x=19\/x=20\/x=21\/x=22\/x=23\/x=24\/x=25\/x=26\/x=27\/x=28\/x=29\/x=30\/x=31\/x=32\/x=33\/x=34\/x=35\/x=36\/x=37\/x=38\/x=39\/x=40:=aa
 all_goals exact ⟨ab,A0 ab,ab,ab⟩
theorem Oq (h:1<=x/\x<=40):Lib.parseIntB 64 (H5 ((3*x+9:Nat):Int))=.ok ((3*x+9:Nat):Int)/\(H5 ((3*x+9:Nat):Int)).length<=1000:=by
 obtain rfl|rfl|rfl|rfl|rfl|rfl|rfl|rfl|rfl|rfl|rfl|rfl|rfl|rfl|rfl|rfl|rfl|rfl|rfl|rfl|rfl|rfl|rfl|rfl|rfl|rfl|rfl|rfl|rfl|rfl|rfl|rfl|rfl|rfl|rfl|rfl|rfl|rfl|rfl|rfl:x=1\/x=2\/x=3\/x=4\/x=5\/x=6\/x=7\/x=8\/x=9\/x=10\/x=11\/x=12\/x=13\/x=14\/x=15\/x=16\/x=17\/x=18\/x=19\/x=20\/x=21\/x=22\/x=23\/x=24\/x=25\/x=26\/x=27\/x=28\/x=29\/x=30\/x=31\/x=32\/x=33\/x=34\/x=35\/x=36\/x=37\/x=38\/x=39\/x=40:=aa
 all_goals exact ⟨ab,A0 ab⟩
theorem Ib {b c d e:Int} (h:(-9223372036854775808<=n/\n<=9223372036854775807)/\(-9223372036854775808<=b/\b<=9223372036854775807)/\(-9223372036854775808<=c/\c<=9223372036854775807)/\(-9223372036854775808<=d/\d<=9223372036854775807)/\(-9223372036854775808<=e/\e<=9223372036854775807)):IW ⟨n,b,c,d,e⟩:=⟨B8 h.1,B8 h.2.1,B8 h.2.2.1,B8 h.2.2.2.1,B8 h.2.2.2.2⟩
theorem LR (h:1<=x/\x<=40) {M N:MV} {an anF:List UInt8} {a:List Int} {l:List ByteArray} (t:Rs l (Hz x) M an a N anF):Rs ((QR x).map (λI=>(⟨(cE I).toArray⟩:ByteArray))++l) [] M an a N anF:=by
 obtain ⟨b,c,d,e⟩:=Oo x h;have f:(-9223372036854775808:Int)<=x/\(x:Int)<=9223372036854775807:=aa
 refine .cons (jT [] M an b c (Ib ⟨aa,aa,aa,aa,f⟩) d e (A6 _)) ?_;refine .cons (jT (I:=⟨22,2,0,0,0⟩) (w:=275) _ M an ab (A0 ab) (Ib ba) ab ab (A0 ab)) ?_;refine .cons (jT (I:=⟨35,2,2,1,0⟩) (w:=1114419) _ M an ab (A0 ab) (Ib ba) ab ab (A0 ab)) ?_;refine .cons (jT (I:=⟨22,1,1,0,(-1)⟩) (w:=4293951635) _ M an ab (A0 ab) (Ib ba) ab ab (A0 ab)) ?_;refine .cons (jT (I:=⟨6,0,1,0,(-8)⟩) (w:=4261453027) _ M an ab (A0 ab) (Ib ba) ab ab (A0 ab)) ?_;refine .cons (jT (I:=⟨1,3,0,0,268435456⟩) (w:=268435895) _ M an ab (A0 ab) (Ib ba) ab ab (A0 ab)) ?_;refine .cons (jT (I:=⟨18,0,3,2,0⟩) (w:=2195491) _ M an ab (A0 ab) (Ib ba) ab ab (A0 ab)) ?_;refine .cons (jT (I:=⟨2,4,0,0,0⟩) (w:=535) _ M an ab (A0 ab) (Ib ba) ab ab (A0 ab)) ?_;refine .cons (jT (I:=⟨22,4,4,0,16⟩) (w:=16908819) _ M an ab (A0 ab) (Ib ba) ab ab (A0 ab)) ?_;refine .cons (jT (I:=⟨87,0,4,0,773⟩) (w:=810684531) _ M an ab (A0 ab) (Ib ba) ab ab (A0 ab)) ?_;refine .cons (jT (I:=⟨93,0,0,0,0⟩) (w:=115) _ M an ab (A0 ab) (Ib ba) ab ab (A0 ab)) ?_;refine .cons (jT (I:=⟨22,5,0,0,7⟩) (w:=7340691) _ M an ab (A0 ab) (Ib ba) ab ab (A0 ab)) ?_;exact t
theorem Sf (h:1<=x/\x<=40):DD (xG x):=by have u0:U 0:=⟨ba,ba⟩;exact B5 (by unfold sU;omega) (by unfold sV;omega) ⟨ba,ba⟩ u0 u0 u0 u0 u0 u0 u0 u0 u0 u0 (λy h=>hh)
theorem Sg (h:1<=x/\x<=40):DD (oM x):=by have u0:U 0:=⟨ba,ba⟩;have a:=vD x h.2;exact B5 (by unfold sU;omega) (by unfold sV;omega) ⟨ba,ba⟩ u0 ⟨aa,aa⟩ ⟨ba,ba⟩ ⟨ba,ba⟩ ⟨ba,ba⟩ ⟨ba,ba⟩ ⟨ba,ba⟩ ⟨ba,ba⟩ ⟨ba,ba⟩ ⟨aa,aa⟩ (λy h=>by rw [List.mem_singleton.1 h,Fy];omega)
theorem oh (k:Int):(sW m k).data.toList=m.data.toList++32::(⟨(H5 k).toArray⟩:ByteArray).data.toList:=by simp [sW]
theorem Ot (h:1<=x/\x<=40):∀ n ∈ Hz x,0<=n/\n<=18446744073709551615:=λn a=>by simp only [Hz,List.mem_cons,List.not_mem_nil,or_false] at a;omega
theorem QU (h:1<=x/\x<=40) (M:MV):Rs (LP x) [] M [] [] (oM x) (B6 x):=by
 have C:iW (xG x):=B4 _ _ _ _ _ _ _ _ _ _ _ _ _ _ ba;have D:iW (oM x):=B4 _ _ _ _ _ _ _ _ _ _ _ _ _ _ (show 1<=10 by decide);have X:=Sf x h;have l:=Sg x h;have ht:=vD x h.2;have hit:∀ m:Nat,m<10000000000->(H5 (m:Int)).length<=21:=λm Y=>Lib.itoa_length_le (m:Int) aa aa;have c:∀ m:Nat,m<10000000000->(H3 m).length<=21:=λm Y=>by rw [Lib.decDigits_length];have:=Lib.nDigits_le20 m aa;omega
 obtain ⟨Z,q2⟩:=Oq x h;have i1:=hit (3*x+9) aa;have i2:=c (je x) aa;have i3:=c (je x%256) aa;have i4:=c 11 aa;have i5:=c 2147483688 aa;obtain ⟨T,⟨v,w⟩,n,y⟩:=On x h (oM x) rfl;have z:(oM x).x.getD 2 0=((je x:Nat):Int):=rfl;have B:(oM x).x.getD 5 0=((7:Nat):Int):=rfl;have k:(oM x).x.length=32:=rfl;have V:(oM x).d.ys=[IntKind.u8.wrap (je x)]:=rfl;have U:sT (oM x)=[((je x%256:Nat):Int)]:=by unfold sT;rw [T,JZ8 rfl,V,Fy]
 have G:=l.mw.cs;have F:Ln kQ (Hz x) M [] [] (xG x) (D1.data.toList++[10]):=by have:=Ln.start (Hz x) M [] (Ot x h) (show 12<=1000 by decide) (show 0<=800000 by decide);rw [H0 x h] at this;exact this
 have u:=λa b=>Ln.run (sW kRun ((3*x+9:Nat):Int)) ⟨(H5 ((3*x+9:Nat):Int)).toArray⟩ ((3*x+9:Nat):Int) [] (xG x) a (by show (H5 ((3*x+9:Nat):Int)).toArray.size<=1000;simpa using q2) (oh _ _) (by simpa using Z) rfl aa aa C X (by rw [B7 x h];dsimp only;omega) b;rw [B7 x h] at u;dsimp only at u;have O:=λa b=>Ln.reg (sW kReg ((2:Nat):Int)) ⟨(H5 ((2:Nat):Int)).toArray⟩ 2 [] (oM x) a (A0 ab) (oh _ _) ab rfl (.inl rfl) k (je x) aa z b;have P:=λa b=>Ln.out [] (oM x) a D l (je x%256) aa U b;have Q:=λa b=>Ln.csr (sW kCsr 834) ⟨(H5 834).toArray⟩ 834 [] (oM x) a (A0 ab) (oh _ _) ab rfl ba ba l 11 ba G v w b;have R:=λa b=>Ln.csr (sW kCsr 833) ⟨(H5 833).toArray⟩ 833 [] (oM x) a (A0 ab) (oh _ _) ab rfl ba ba l 2147483688 ba G n y b;have S:=λa b=>Ln.reg (sW kReg ((5:Nat):Int)) ⟨(H5 ((5:Nat):Int)).toArray⟩ 5 [] (oM x) a (A0 ab) (oh _ _) ab rfl (.inr rfl) k 7 ba B b;have E:D1.data.toList.length=2:=rfl;obtain ⟨o,d⟩:∃ A,A=D1.data.toList++[10]:=⟨_,rfl⟩;obtain ⟨p,e⟩:∃ A,A=o++H5 ((3*x+9:Nat):Int)++[10]:=⟨_,rfl⟩;obtain ⟨q,f⟩:∃ A,A=p++H3 (je x)++[10]:=⟨_,rfl⟩;obtain ⟨r,g⟩:∃ A,A=q++H3 (je x%256)++[10]:=⟨_,rfl⟩;obtain ⟨s,i⟩:∃ A,A=r++H3 11++[10]:=⟨_,rfl⟩;obtain ⟨t,j⟩:∃ A,A=s++H3 2147483688++[10]:=⟨_,rfl⟩;have W:B6 x=t++H3 7++[10]:=by rw [j,i,g,f,e,d];rfl
 have z1:o.length=3:=by rw [d,F0,E];rfl
 have z2:p.length<=25:=by rw [e,F0,F0,z1];exact vb
 have z3:q.length<=50:=by rw [f,F0,F0];exact vb
 have z4:r.length<=75:=by rw [g,F0,F0];exact vb
 have z5:s.length<=100:=by rw [i,F0,F0];exact vb
 have z6:t.length<=125:=by rw [j,F0,F0];exact vb
 have H:=u o aa;rw [<- e] at H;have I:=O p aa;rw [<- f] at I;have J:=P q aa;rw [<- g] at J;have K:=Q r aa;rw [<- i] at K;have L:=R s aa;rw [<- j] at L;have N:=S t aa;rw [<- W] at N;rw [<- d] at F;exact LR x h (.cons F (.cons H (.cons I (.cons J (.cons K (.cons L (.cons N (.nil _ _ _))))))))
def sF (n:Nat):List (List UInt8):=(QR n).map cE++[kQ.data.toList,kRun.data.toList++32::H5 ((3*n+9:Nat):Int),kReg.data.toList++32::H5 ((2:Nat):Int),wF.data.toList,kCsr.data.toList++32::H5 834,kCsr.data.toList++32::H5 833,kReg.data.toList++32::H5 ((5:Nat):Int)]
theorem H4:(sF x).map (λn=>(⟨n.toArray⟩:ByteArray))=LP x:=rfl
def Fz:List (List UInt8)->List UInt8
 | []=>[]
 | l::t=>gP l t
theorem Ou (h:1<=x/\x<=40):(sF x).all (λl=>!l.contains 10)/\(Fz (sF x)).length<=19000:=by
 obtain rfl|rfl|rfl|rfl|rfl|rfl|rfl|rfl|rfl|rfl|rfl|rfl|rfl|rfl|rfl|rfl|rfl|rfl|rfl|rfl|rfl|rfl|rfl|rfl|rfl|rfl|rfl|rfl|rfl|rfl|rfl|rfl|rfl|rfl|rfl|rfl|rfl|rfl|rfl|rfl:x=1\/x=2\/x=3\/x=4\/x=5\/x=6\/x=7\/x=8\/x=9\/x=10\/x=11\/x=12\/x=13\/x=14\/x=15\/x=16\/x=17\/x=18\/x=19\/x=20\/x=21\/x=22\/x=23\/x=24\/x=25\/x=26\/x=27\/x=28\/x=29\/x=30\/x=31\/x=32\/x=33\/x=34\/x=35\/x=36\/x=37\/x=38\/x=39\/x=40:=aa
 all_goals exact ⟨ab,A0 ab⟩
theorem LS:H8 (b++[10]) [10]=b:=by
 have h:I4 (b++[10]) [10]:=by simp [I4]
 rw [H8,JZ8 h];simp
theorem H6 (j:BareDoes) (n:Nat) (h:1<=n/\n<=40) (s:ByteArray) (f:s.data.toList=Fz (sF n)++[10]) (w:L5) (g:w.ShapedOpen prog) (o:lY w) (m:Tp w):CB 8 #[.string s] w (.string ⟨(B6 n).toArray⟩):=by
 obtain ⟨k,c⟩:=Ou n h;have b:∀ x ∈ sF n,(10:UInt8) ∉ x:=λx q=>by have:=List.all_eq_true.1 k x q;simpa using this
 obtain ⟨l,t,e⟩:∃ l t,sF n=l::t:=⟨_,_,rfl⟩;have d:=H4 n;rw [e] at f c b d;obtain ⟨u,i⟩:=vC t l b;have r:s.data.toList.length=s.size:=bh
 have a:t.length+1=(LP n).length:=by rw [<- d];simp
 have p:(LP n).length=19:=rfl;refine Hy j s ⟨(gP l t).toArray⟩ (LP n) w ?_ g o m ?_ ?_ ?_ ?_ aa (QU n h _) ?_;·rw [<- r,f,F0];have:(gP l t).length<=19000:=c;exact vb
 ·rw [f];show (⟨(H8 (gP l t++[10]) [10]).toArray⟩:ByteArray)=_;rw [LS]
 ·have:(gP l t).length<=19000:=c;show (gP l t).toArray.size<=20000;simp only [G3];omega
 ·rw [i,u,d]
 ·rw [i,a]
 ·rw [B6,F0];exact vb
def rE:List UInt8->List UInt8->List (List UInt8)
 | _,[]=>[]
 | pre,c::r=>if c=10 then pre::rE [] r else rE (pre++[c]) r
def txV (l:List UInt8):Value:=.string ⟨l.toArray⟩
theorem Ow {c:UInt8}:(do pure (.value (<- Instr.index 9 (.string ⟨(A++c::r).toArray⟩) (.i (A.length:Nat)))):Sem Next).run prog s=.ok (.value (.int .u8 (c.toNat:Int))) s:=by
 have:=run_index_string (P:=prog) (w:=s) 9 ⟨(A++c::r).toArray⟩ .i64 (A.length:Nat) underlying9;have b:((A.length:Nat):Int)<((⟨(A++c::r).toArray⟩:ByteArray).size:Int):=by
  have:(⟨(A++c::r).toArray⟩:ByteArray).size=(A++c::r).length:=by simp [I5]
  rw [this,F0,F3];omega
 rw [dif_pos ⟨aa,b⟩] at this;have a:(⟨(A++c::r).toArray⟩:ByteArray)[((A.length:Nat):Int).toNat]' aa=c:=by show (A++c::r).toArray[A.length]' bh=c;simp
 rw [a] at this;simp only [L4,this,K0,K4]
theorem Si:(do pure (.value (<- Instr.buildSlice 26 0 #[])):Sem Next).run prog s=.ok (.value (.slice (some ⟨s.heap.size,0,none⟩) 0 0)) (s.alloc (.cells #[] 9)):=by obtain ⟨c,b,e⟩:=Option.map_eq_some_iff.1 oe;have a:∀ f:Nat->Value,Array.map f (Array.range 0)=#[]:=λf=>Array.eq_empty_of_size_eq_zero bh;simp [Instr.buildSlice,L6 underlying26,sizeOf,typeInfo,b,Instr.fill,newRow,a]
theorem Ox (h:Nat) (e:x<=h) (f:h<=m.size) (W:L5):(Instr.slice 9 (.string m) (some (.i (x:Nat))) (some (.i (h:Nat))) none).run prog W=.ok (.string (m.extract x h)) W:=by
 have a:((x:Nat):Int)<=((h:Nat):Int):=aa
 have b:((h:Nat):Int)<=(m.size:Int):=aa
 have c:(0:Int)<=((x:Nat):Int):=aa
 have d:(0:Int)<=((h:Nat):Int):=aa
 simp [Instr.slice,L6 underlying9,Instr.sliceBounds,run_sliceBound, *]
theorem LT {pre:List UInt8}:(do pure (.value (<- Instr.sliceAt 9 (.string ⟨(A++pre++r).toArray⟩) (some (.i (A.length:Nat))) (some (.i ((A++pre).length:Nat))) none)):Sem Next).run prog s=.ok (.value (txV pre)) s:=by
 have d:(⟨(A++pre++r).toArray⟩:ByteArray).size=A.length+pre.length+r.length:=by simp [I5];omega
 have b:(⟨(A++pre++r).toArray⟩:ByteArray).extract A.length (A++pre).length=⟨pre.toArray⟩:=by rw [nj];simp
 have a:=Ox ⟨(A++pre++r).toArray⟩ A.length (A++pre).length (by rw [F0];omega) (by rw [d,F0];omega) s;rw [b] at a;have c:=run_sliceAt_string (P:=prog) (w:=s) 9 (.string ⟨(A++pre++r).toArray⟩) (some (.i (A.length:Nat))) (some (.i ((A++pre).length:Nat))) none underlying9;simp only [L4,c,a,K0,K4];rfl
structure Lh (w:L5) (all:List UInt8) (j:Nat) (A pre r:List UInt8) (D:List (List UInt8)) (a:Option Addr) (c:Nat) (W:L5):Prop where
 ej:j=r.length
 eq:A++pre++r=all
 el:D++rE pre r=rE [] all
 b:Bw w W
 o:W.ownsRow w.heap.size 9 1 (.slice a D.length c) D.length (D.map txV)
 dl:D.length<=A.length
theorem zE (hn:b.length<=100000) (w:L5):Calls prog 7 #[.string ⟨b.toArray⟩] w λe M=>∃ a c,e=.returned (.slice a (rE [] b).length c)/\M.ownsRow w.heap.size 9 1 (.slice a (rE [] b).length c) (rE [] b).length ((rE [] b).map txV)/\Bw w M:=by
 refine bE (args:=[.string ⟨b.toArray⟩]) (λ_=>True) func7 ?_;refine eU (R:=[]) trivial {} 20 6 (Si w) ?_;have G:=(K1 w.heap.size w).alloc (A5 _) (.cells #[] 9 (0,0));have L:(w.alloc (.cells #[] 9 (0,0))).ownsRow w.heap.size 9 1 (.slice (some ⟨w.heap.size,0,none⟩) 0 0) 0 []:=⟨rfl,.inr ⟨w.heap.size,0,#[],rfl,A5 _,heap_alloc_new _ _,A5 _,ct,rfl,rfl⟩⟩;generalize w.alloc (.cells #[] 9 (0,0))=V at G L ⊢;refine aO (R:=[]) trivial {} 30 ?_;refine kf (λy:List UInt8 × List UInt8 × List UInt8 × List (List UInt8) × Option Addr × Nat=>[(0,.string ⟨b.toArray⟩,0),(3,.slice y.2.2.2.2.1 y.2.2.2.1.length y.2.2.2.2.2,0),(4,.i (y.1.length:Nat),0),(5,.i ((y.1++y.2.1).length:Nat),0)]) (λj y W=>Lh w b j y.1 y.2.1 y.2.2.1 y.2.2.2.1 y.2.2.2.2.1 y.2.2.2.2.2 W) b.length ([],[],b,[],some ⟨w.heap.size,0,none⟩,0) ab ab ⟨rfl,rfl,rfl,G,L,A5 _⟩ ?_;rintro j ⟨A,pre,r,D,a,c⟩ W ⟨t,eq,s,all,o,H⟩ R J;dsimp only at t eq s all o H ⊢;cases r with
 | nil =>have C:(⟨b.toArray⟩:ByteArray).size=b.length:=(by simp [I5]);rw [H2] at eq;have d:decide ((((A++pre).length:Nat):Int)<((⟨b.toArray⟩:ByteArray).size:Int))=false:=(by rw [JZ7,C,eq];omega);have S:rE [] b=D:=(by rw [<- s];simp [rE]);refine dD (R:=[]) trivial {eq:=[(10,aD d)]} 60 (v:=.slice a D.length c) ?_;rw [S];exact ⟨a,c,rfl,o,all⟩
 | cons f i =>
   subst eq;have C:(⟨(A++pre++f::i).toArray⟩:ByteArray).size=(A++pre).length+(i.length+1):=(by simp [I5];omega);have d:decide ((((A++pre).length:Nat):Int)<((⟨(A++pre++f::i).toArray⟩:ByteArray).size:Int)):=(by rw [JZ6,C];omega);have m:(A++pre).length<=100000:=(by rw [F0] at hn;omega);have p:IntKind.i64.wrap ((((A++pre).length:Nat):Int)+1)=(((A++pre).length+1:Nat):Int):=eg;have K:=λl:L5=>Ow (A:=A++pre) (r:=i) (c:=f) l;cases g:((f.toNat:Int)==10) with
   | false =>have B:f≠10:=(by rintro rfl;exact absurd g ba);have u:((A++pre).length+1:Nat)=(A++(pre++[f])).length:=bb;rw [u] at p;refine eE (R:=[]) trivial {eq:=[(10,aD d),(16,aD g),(12,ed .i64 p)],ov:=[(15,⟨_,.int .u8 (f.toNat:Int),0,λl _=>K l⟩)]} 80 λk z=>J k W i.length (A,pre++[f],i,D,a,c) (by rw [t];simp) (z.less ab) ⟨rfl,bh,?_,all,o,H⟩;rw [<- s,rE,JZ9 B]
   | true =>
     have x:f=10:=(by have h:=eq_of_beq g;have X:(10:UInt8).toNat=10:=rfl;exact UInt8.toNat_inj.1 aa);have u:((A++pre).length+1:Nat)=(A++pre++[f]).length:=bb;rw [u] at p;have q:=p;rw [<- H2 (A++pre++[f])] at q;refine eU (R:=[]) trivial {eq:=[(10,aD d),(16,aD g)],ov:=[(15,⟨_,.int .u8 (f.toNat:Int),0,λl _=>K l⟩),(21,⟨_,txV pre,0,λl _=>LT (A:=A) (pre:=pre) (r:=f::i) l⟩)]} 80 22 (vt W ⟨pre.toArray⟩) ?_;obtain ⟨Y,F,n,E,U,_⟩:=tw underlying26 oe rfl ba o all.size (txV pre) rfl (by rw [F0] at m;omega);obtain ⟨N,Q,rfl⟩:=kl E;have O:Bw w (W.alloc (.cells #[txV pre] 9 (0,0))):=all.alloc all.size _;have P:Bw w F:=Below.grown O U (by have:=all.size;rw [World.size_alloc];omega) λk e=>(o.lt k e).1;have I:D.length+1=(D++[pre]).length:=bh;have T:D.map txV++[txV pre]=(D++[pre]).map txV:=bh;rw [T,I] at E;rw [I] at n;refine eH 23 (od n) ?_;refine eE (R:=[]) trivial {eq:=[(25,ed .i64 p),(12,ed .i64 q)]} 80 λk z=>J k F i.length (A++pre++[f],[],i,D++[pre],N,Q) (by rw [t];simp) (z.less ab) ⟨rfl,bh,?_,P,E,?_⟩;·rw [<- s,rE,JZ8 x];simp
     ·simp;omega
def xH (m:Nat):UInt8:=UInt8.ofNat (48+m%10)
def zF (m:Nat) (s:List UInt8):List UInt8:=if m=0/\s≠[] then s else H3 m++s
theorem B9 (h:b=[]\/0<x):zF x b=zF (x/10) (xH x::b):=by
 have e:zF x b=H3 x++b:=by
  unfold zF;rw [JZ9];rintro ⟨c,s⟩;rcases h with h|h;·exact s h
  ·omega
 rw [e];unfold zF;by_cases a:x<10;·rw [JZ8 ⟨aa,bh⟩,Lib.decDigits_one a,xH,Nat.mod_eq_of_lt a];rfl
 ·rw [JZ9 aa,H3,dif_neg a];rw [List.append_assoc];rfl
theorem Oy {m:Nat} {s:List UInt8} (a:m=0) (b:s≠[]):zF m s=s:=by unfold zF;rw [JZ8 ⟨a,b⟩]
def xI {S:L5->Prop} (x y:Operand) (a b:ByteArray) (h:a.size+b.size<=1000000):Ov prog S :=
 ⟨do pure (.value (<- (do eqGuard .add 9 x y (.string a) (.string b);binOp .add 9 (.string a) (.string b)))),.string (a++b),0,λW _=>by
  have c:¬ (((a.size+b.size:Nat):Int)>IntKind.i64.max):=by
   have:IntKind.i64.max=9223372036854775807:=rfl
   rw [this]
   omega
  simp [eqGuard,binOp,Op.stringOp]
  omega⟩
theorem Ca (x:UInt8):(do pure (.value (<- convert 22 9 (.slice (some ⟨s.heap.size,0,none⟩) 1 1))):Sem Next).run prog (s.alloc (.cells #[.int .u8 (x.toNat:Int)] 5))=.ok (.value (.string ⟨#[x]⟩)) (s.alloc (.cells #[.int .u8 (x.toNat:Int)] 5)):=by have:=run_convert_bytes_back (P:=prog) (s.alloc (.cells #[.int .u8 (x.toNat:Int)] 5)) 22 9 5 ⟨s.heap.size,0,none⟩ 1 [x] underlying22 underlying5 underlying9 (λj a=>gF s _ _ j _ (by simp at a;subst a;rfl));simp only [F3,H1] at this;simp only [L4,this,K0,K4]
theorem px (hn:x<100000) (w:L5):CB 6 #[.i x] w (.string (dn x)):=by
 refine bE (args:=[.i x]) (λ_=>True) func6 ?_;refine aO (R:=[]) trivial {} 20 ?_;refine kf (λy:Nat × List UInt8=>[(0,.i (y.1:Nat),0),(3,.string ⟨y.2.toArray⟩,0)]) (λj y W=>Bw w W/\zF y.1 y.2=H3 x/\j=y.1+(if y.2=[] then 1 else 0)/\y.1<=x/\y.2.length<=100+x-y.1) (x+1) (x,[]) ab ab ⟨K1 _ _,by simp [zF],rfl,A5 _,A6 _⟩ ?_;rintro j ⟨m,s⟩ W ⟨b,e,p,E,D⟩ R r;dsimp only at e p E D ⊢;have u:Int.tmod (m:Int) 10=((m%10:Nat):Int):=by rw [Int.tmod_eq_emod_of_nonneg aa];omega
 have n:IntKind.i64.wrap (48+((m%10:Nat):Int))=((48+m%10:Nat):Int):=by rw [IntKind.wrap_i64];omega
 have z:IntKind.u8.wrap ((48+m%10:Nat):Int)=((xH m).toNat:Int):=by rw [IntKind.wrap_u8,xH,UInt8.toNat_ofNat'];omega
 have A:IntKind.i64.wrap (Int.tdiv (m:Int) 10)=((m/10:Nat):Int):=by
  have:Int.tdiv (m:Int) 10=((m/10:Nat):Int):=by rw [Int.tdiv_eq_ediv_of_nonneg aa];omega
  rw [this,IntKind.wrap_i64];omega
 by_cases d:s=[]
 ·have k:((⟨s.toArray⟩:ByteArray).toList==(⟨#[]⟩:ByteArray).toList):=(by subst d;exact beq_self_eq_true _);refine eU (R:=[]) trivial {eq:=[(5,aD k),(11,ed .i64 u),(12,ed .i64 n),(13,ed .u8 z)]} 80 14 (K9 W ((xH m).toNat:Int)) ?_;have f:=(K1 W.heap.size W).alloc (A5 _) (.cells #[.int .u8 ((xH m).toNat:Int)] 5 (0,0));have i:=Ca W (xH m);have g:=ae b f;generalize W.alloc (.cells #[.int .u8 ((xH m).toNat:Int)] 5 (0,0))=l at f i g ⊢;refine eE (R:=[]) trivial {eq:=[(19,ed .i64 A)],ov:=[(15,⟨_,.string ⟨#[xH m]⟩,0,λB h=>by subst h;exact i⟩),(17,xI (.tmp 15) (.tmp 16) ⟨#[xH m]⟩ ⟨s.toArray⟩ (by show 1+s.toArray.size<=1000000;simp only [G3];omega))]} 80 λa q=>r a l (m/10) (m/10,xH m::s) ?_ (q.less ab) ⟨g,?_,?_,?_,?_⟩;·rw [JZ8 d] at p;omega
  ·rw [<- B9 m s (.inl d)];exact e
  ·rw [JZ9 bh];rfl
  ·show m/10<=x;omega
  ·show (xH m::s).length<=_;rw [F3];rw [d];simp only [H1];omega
 ·have k:((⟨s.toArray⟩:ByteArray).toList==(⟨#[]⟩:ByteArray).toList)=false:=by
   rw [Go.ByteArray.toList_eq,Go.ByteArray.toList_eq];cases s with
   | nil=>exact absurd rfl d
   | cons c t=>rfl
  rw [JZ9 d] at p;by_cases C:m=0;·have o:decide ((0:Int)<(m:Int))=false:=i6;refine dD (R:=[]) trivial {eq:=[(5,aD k),(8,aD o)]} 80 (v:=.string ⟨s.toArray⟩) ⟨?_,b⟩;rw [Oy C d] at e;rw [e];rfl
  ·have o:decide ((0:Int)<(m:Int)):=ib;refine eU (R:=[]) trivial {eq:=[(5,aD k),(8,aD o),(11,ed .i64 u),(12,ed .i64 n),(13,ed .u8 z)]} 80 14 (K9 W ((xH m).toNat:Int)) ?_;have f:=(K1 W.heap.size W).alloc (A5 _) (.cells #[.int .u8 ((xH m).toNat:Int)] 5 (0,0));have i:=Ca W (xH m);have g:=ae b f;generalize W.alloc (.cells #[.int .u8 ((xH m).toNat:Int)] 5 (0,0))=l at f i g ⊢;refine eE (R:=[]) trivial {eq:=[(19,ed .i64 A)],ov:=[(15,⟨_,.string ⟨#[xH m]⟩,0,λB h=>by subst h;exact i⟩),(17,xI (.tmp 15) (.tmp 16) ⟨#[xH m]⟩ ⟨s.toArray⟩ (by show 1+s.toArray.size<=1000000;simp only [G3];omega))]} 80 λa q=>r a l (m/10) (m/10,xH m::s) ?_ (q.less ab) ⟨g,?_,?_,?_,?_⟩;·omega
   ·rw [<- B9 m s (.inr aa)];exact e
   ·rw [JZ9 bh];rfl
   ·show m/10<=x;omega
   ·show (xH m::s).length<=_;rw [F3];omega
set_option maxRecDepth 100000
theorem Oz (h:1<=x/\x<=40):rE [] (B6 x)=[D1.data.toList,H3 (3*x+9),H3 (je x),H3 (je x%256),H3 11,H3 2147483688,H3 7]:=by
 obtain rfl|rfl|rfl|rfl|rfl|rfl|rfl|rfl|rfl|rfl|rfl|rfl|rfl|rfl|rfl|rfl|rfl|rfl|rfl|rfl|rfl|rfl|rfl|rfl|rfl|rfl|rfl|rfl|rfl|rfl|rfl|rfl|rfl|rfl|rfl|rfl|rfl|rfl|rfl|rfl:x=1\/x=2\/x=3\/x=4\/x=5\/x=6\/x=7\/x=8\/x=9\/x=10\/x=11\/x=12\/x=13\/x=14\/x=15\/x=16\/x=17\/x=18\/x=19\/x=20\/x=21\/x=22\/x=23\/x=24\/x=25\/x=26\/x=27\/x=28\/x=29\/x=30\/x=31\/x=32\/x=33\/x=34\/x=35\/x=36\/x=37\/x=38\/x=39\/x=40:=aa
 all_goals kernel_rfl
def FA:List UInt8:=[97,100,100,105,32,120,49,32,120,48,32]
def LX:List UInt8:=[10,97,100,100,105,32,120,50,32,120,48,32,48,10,97,100,100,32,120,50,32,120,50,32,120,49,10,97,100,100,105,32,120,49,32,120,49,32,45,49,10,98,110,101,32,120,49,32,120,48,32,45,56,10,108,117,105,32,120,51,32,50,54,56,52,51,53,52,53,54,10,115,98,32,120,51,32,120,50,32,48,10,97,117,105,112,99,32,120,52,32,48,10,97,100,100,105,32,120,52,32,120,52,32,49,54,10,99,115,114,114,119,32,120,48,32,120,52,32,55,55,51,10,101,99,97,108,108,10,97,100,100,105,32,120,53,32,120,48,32,55,10,46,115,116,97,114,116,10,46,114,117,110,32]
def Sp:List UInt8:=[10,46,114,101,103,32,50,10,46,111,117,116,10,46,99,115,114,32,56,51,52,10,46,99,115,114,32,56,51,51,10,46,114,101,103,32,53,10]
theorem LU (h:1<=x/\x<=40):FA++H3 x++LX++H3 (3*x+9)++Sp=Fz (sF x)++[10]:=by
 obtain rfl|rfl|rfl|rfl|rfl|rfl|rfl|rfl|rfl|rfl|rfl|rfl|rfl|rfl|rfl|rfl|rfl|rfl|rfl|rfl|rfl|rfl|rfl|rfl|rfl|rfl|rfl|rfl|rfl|rfl|rfl|rfl|rfl|rfl|rfl|rfl|rfl|rfl|rfl|rfl:x=1\/x=2\/x=3\/x=4\/x=5\/x=6\/x=7\/x=8\/x=9\/x=10\/x=11\/x=12\/x=13\/x=14\/x=15\/x=16\/x=17\/x=18\/x=19\/x=20\/x=21\/x=22\/x=23\/x=24\/x=25\/x=26\/x=27\/x=28\/x=29\/x=30\/x=31\/x=32\/x=33\/x=34\/x=35\/x=36\/x=37\/x=38\/x=39\/x=40:=aa
 all_goals kernel_rfl
