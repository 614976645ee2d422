/- Own lemmas. -/
import Derived.Test.YtlidafnochnddaaGreatDoorK27
set_option maxHeartbeats 6400000
namespace Go.Proofs.YtlidafnochnddaaGreatDoor
open Go.RowKit Tryz
open IntKind renaming wrap_i64->A0
open Lib renaming decDigits->A5
open List renaming length_cons->F3,length_nil->G3
open Nat renaming le_of_ble_eq_true->A6,zero_add->F0
set_option linter.unusedVariables false
set_option maxRecDepth 100000
theorem LV (n:Nat) (h:1≤n∧n≤40):(B6 n).length≤100000:=by
 have d:=vD n h.2
 have a:∀ m:Nat,m<10000000000→(A5 m).length≤21:=fun m c=>by rw [Lib.decDigits_length];have:=Lib.nDigits_le20 m (by omega);omega
 have e:=Lib.itoa_length_le ((3*n+9:Nat):Int) (by omega) (by omega)
 have f:=a (je n) (by omega)
 have g:=a (je n % 256) (by omega)
 have i:=a 11 (by omega)
 have j:=a 2147483688 (by omega)
 have k:=a 7 (by omega)
 have b:D1.data.toList.length=2:=rfl
 simp only [B6,List.length_append,b,F3,G3]
 omega
theorem OA:∀ n,n≤40→n*(n+1)=2*je n:=by decide
theorem OB (U:BareDoes) (a:Option Addr) (n cap:Nat) (zs:List Int) (w:World) (hz:zs.length=n) (E:Sl .u8 w a zs) (I:∀ y ∈ zs,(Lit.int .u8 y).wf) (F:∀ W,Bw w W→W.ShapedOpen prog) (Y:lY w) (X:Tp w) :
 CB 3 #[.slice a n cap] w (.bool true):=by
 refine bE (args:=[.slice a n cap]) (fun _=>True) func3 ?_
 refine aE (R:=[]) trivial {} 40 (Nt a n cap w) ?_
 rintro e s ⟨rfl,G⟩
 subst G
 cases Z:decide (4096<n) with
 | true=>exact ⟨_,0,rfl,dD (R:=[]) trivial {} 40 ⟨rfl,Below.refl _ _⟩⟩
 | false =>
   have hn:=of_decide_eq_false Z
   refine ⟨_,0,rfl,?_⟩
   refine aE (R:=[]) trivial {} 40 (JS a n cap zs 40 s hz (by omega) E I (by decide) (by decide)) ?_
   rintro e K ⟨x,rfl,hx,H⟩
   subst H
   obtain ⟨k,rfl⟩:∃ k:Nat,x=(k:Int):=⟨x.toNat,by omega⟩
   obtain ⟨m,em⟩:∃ m,m=k+1:=⟨_,rfl⟩
   have l:1≤m∧m≤40:=by omega
   have w1:IntKind.i64.wrap (1+(k:Int))=(m:Int):=by rw [A0];omega
   refine ⟨_,0,rfl,?_⟩
   refine aE (R:=[]) trivial {eq:=[(11,ed .i64 w1)]} 40 (px m (by omega) K) ?_
   rintro e i ⟨rfl,z⟩
   refine ⟨_,0,rfl,?_⟩
   have Q:IntKind.i64.wrap (3*(m:Int))=((3*m:Nat):Int):=by rw [A0];omega
   have T:IntKind.i64.wrap (((3*m:Nat):Int)+9)=((3*m+9:Nat):Int):=by rw [A0];omega
   obtain ⟨cA,eA⟩:∃ c:ByteArray,c=⟨FA.toArray⟩:=⟨_,rfl⟩
   have z1:=mj m (by omega)
   have z2:=mj (3*m+9) (by omega)
   have sA:(⟨FA.toArray⟩:ByteArray).size≤1000:=A6 (by kernel_rfl)
   have sB:(⟨LX.toArray⟩:ByteArray).size≤1000:=A6 (by kernel_rfl)
   have sC:(⟨Sp.toArray⟩:ByteArray).size≤1000:=A6 (by kernel_rfl)
   have q1:(⟨FA.toArray⟩ ++ dn m:ByteArray).size=(⟨FA.toArray⟩:ByteArray).size+(dn m).size:=by simp
   have q2:(⟨FA.toArray⟩ ++ dn m ++ ⟨LX.toArray⟩:ByteArray).size=(⟨FA.toArray⟩:ByteArray).size+(dn m).size+(⟨LX.toArray⟩:ByteArray).size:=by simp
   have q3:(⟨FA.toArray⟩ ++ dn m ++ ⟨LX.toArray⟩ ++ dn (3*m+9):ByteArray).size=(⟨FA.toArray⟩:ByteArray).size+(dn m).size+(⟨LX.toArray⟩:ByteArray).size+(dn (3*m+9)).size:=by simp
   refine aE (R:=[]) trivial {eq:=[(17,ed .i64 Q),(18,ed .i64 T)],ov:=[(14,xI (.tmp 0) (.tmp 0) ⟨FA.toArray⟩ (dn m) (by omega)),(15,xI (.tmp 0) (.tmp 0) (⟨FA.toArray⟩ ++ dn m) ⟨LX.toArray⟩ (by omega))]} 60 (px (3*m+9) (by omega) i) ?_
   rintro e S ⟨rfl,u⟩
   refine ⟨_,0,rfl,?_⟩
   have E:(⟨FA.toArray⟩ ++ dn m ++ ⟨LX.toArray⟩ ++ dn (3*m+9) ++ ⟨Sp.toArray⟩:ByteArray).data.toList=Fz (sF m) ++ [10]:=by
    rw [← LU m l]
    simp [dn,ByteArray.data_append]
   have B:=ae z u
   refine aE (R:=[]) trivial {ov:=[(20,xI (.tmp 0) (.tmp 0) (⟨FA.toArray⟩ ++ dn m ++ ⟨LX.toArray⟩) (dn (3*m+9)) (by omega)),(21,xI (.tmp 0) (.tmp 0) (⟨FA.toArray⟩ ++ dn m ++ ⟨LX.toArray⟩ ++ dn (3*m+9)) ⟨Sp.toArray⟩ (by omega))]} 60 (H6 U m l _ E S (F S B) (Y.below B) (X.below B)) ?_
   rintro e w5 ⟨rfl,P⟩
   refine ⟨_,0,rfl,?_⟩
   refine aE (R:=[]) trivial {} 60 (zE (B6 m) (LV m l) w5) ?_
   rintro e q ⟨la,lc,rfl,p,V⟩
   rw [Oz m l] at p ⊢
   refine ⟨_,0,rfl,?_⟩
   have A:Bw i q:=((u.trans (P.mono u.size)).trans (V.mono (Nat.le_trans u.size P.size)))
   have r:Bw K q:=z.trans (A.mono z.size)
   obtain ⟨d,g,ev,hbk⟩:=iS p (Nat.zero_lt_succ _)
   simp only [F3,G3,F0,Nat.reduceAdd] at p ev ⊢
   rw [ev] at p ⊢
   have bZ:=Ig p
   have f:∀ (j:Nat) v,j<7→([D1.data.toList,A5 (3*m+9),A5 (je m),A5 (je m % 256),A5 11,A5 2147483688,A5 7].map txV)[j]?=some v→∀ W,Bs q [] W→W.cell? ⟨d,0+j,none⟩=some v:=fun j v D e W h=>by
    rw [h.2.cell (by exact bZ),F0,p.cellAt j D,e]
   have t1:je m≤820:=vD m l.2
   have t2:m*(m+1)=2*je m:=OA m l.2
   have L:IntKind.i64.wrap ((m:Int)+1)=((m+1:Nat):Int):=by rw [A0];omega
   have M:IntKind.i64.wrap ((m:Int)*((m+1:Nat):Int))=((2*je m:Nat):Int):=by rw [← Int.natCast_mul,t2,A0];omega
   have N:IntKind.i64.wrap (Int.tdiv ((2*je m:Nat):Int) 2)=(je m:Int):=by
    rw [Int.tdiv_eq_ediv_of_nonneg (by omega),A0]
    omega
   have O:Int.tmod (je m:Int) 256=((je m % 256:Nat):Int):=by rw [Int.tmod_eq_emod_of_nonneg (by omega)];omega
   have C:∀ j:Nat,j<100000→∀ W,Bw q W→CB 6 #[.i j] W (.string (dn j)):=fun j D W _=>px j D W
   have J:∀ x:Nat,((dn x).toList==(dn x).toList):=fun x=>by simp
   refine aO (R:=[]) trivial {eq:=[(27,ed .i64 L),(28,ed .i64 M),(29,ed .i64 N)]} 60 ?_
   refine bO (Bs q []) ?_
   exact bg (t:=2) (v:=.bool true) Bs.eng {
    eq:=[(44,ed .i64 Q),(45,ed .i64 T),(62,ed .i64 O),(47,aD (J (3*m+9))),(55,aD (J (je m))),(64,aD (J (je m % 256)))],
    ov:=[(35,pA (a:=some ⟨d,0,none⟩) (b:=d) (o:=0) 7 g .i64 0 rfl (by omega) underlying26 (by kernel_rfl)),(36,lw ⟨d,0+0,none⟩ _ underlying9 rfl (f 0 _ (by omega) rfl)),
     (41,pA (a:=some ⟨d,0,none⟩) (b:=d) (o:=0) 7 g .i64 1 rfl (by omega) underlying26 (by kernel_rfl)),(42,lw ⟨d,0+1,none⟩ _ underlying9 rfl (f 1 _ (by omega) rfl)),
     (51,pA (a:=some ⟨d,0,none⟩) (b:=d) (o:=0) 7 g .i64 2 rfl (by omega) underlying26 (by kernel_rfl)),(52,lw ⟨d,0+2,none⟩ _ underlying9 rfl (f 2 _ (by omega) rfl)),
     (59,pA (a:=some ⟨d,0,none⟩) (b:=d) (o:=0) 7 g .i64 3 rfl (by omega) underlying26 (by kernel_rfl)),(60,lw ⟨d,0+3,none⟩ _ underlying9 rfl (f 3 _ (by omega) rfl)),
     (68,pA (a:=some ⟨d,0,none⟩) (b:=d) (o:=0) 7 g .i64 4 rfl (by omega) underlying26 (by kernel_rfl)),(69,lw ⟨d,0+4,none⟩ _ underlying9 rfl (f 4 _ (by omega) rfl)),
     (74,pA (a:=some ⟨d,0,none⟩) (b:=d) (o:=0) 7 g .i64 5 rfl (by omega) underlying26 (by kernel_rfl)),(75,lw ⟨d,0+5,none⟩ _ underlying9 rfl (f 5 _ (by omega) rfl)),
     (80,pA (a:=some ⟨d,0,none⟩) (b:=d) (o:=0) 7 g .i64 6 rfl (by omega) underlying26 (by kernel_rfl)),(81,lw ⟨d,0+6,none⟩ _ underlying9 rfl (f 6 _ (by omega) rfl))],
    cv:=[(46,fu (C (3*m+9) (by omega))),(54,fu (C (je m) (by omega))),(63,fu (C (je m % 256) (by omega)))]} 200 (Bs.start _ _) (fun W' h=>⟨rfl,r.trans (h.2.mono r.size)⟩)
theorem H7 {P:Program} {w:World} (h:w.ShapedOpen P):∀ W,Bw w W→W.ShapedOpen P:=fun W a =>
 h.keptBut (a.frame fun _=>False) fun _ k=>k.elim
theorem fnTop.walk (c:Option Addr) (b a:Nat) (m:List Int) (w:World) (k:D6 .u8 w c b a m) (i:lY w) (h:Tp w) (hS:w.ShapedOpen prog) :
 CB 3 #[.slice c b a] w (.bool true):=by
 obtain ⟨l,d,f,g,_⟩:=k.sl
 exact OB fnExactEncode.bareDoes c b a l w d f g (H7 hS) i h
