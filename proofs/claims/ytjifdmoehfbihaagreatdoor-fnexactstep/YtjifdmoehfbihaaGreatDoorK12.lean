/- Own lemmas. -/
import Derived.Test.YtjifdmoehfbihaaGreatDoorAut
import Derived.Test.YtjifdmoehfbihaaGreatDoorK09
import Derived.Test.YtjifdmoehfbihaaGreatDoorK11
set_option maxRecDepth 100000
set_option maxHeartbeats 1600000
namespace Go.Proofs.YtjifdmoehfbihaaGreatDoor
open Go.RowKit Tryz
open IntKind renaming u64->Uz
set_option linter.unusedVariables false
structure Fd where
 addr:Int
 code:Int
 marked:Bool
 at_:Int
 entry:Int
def Fd.cells (f:Fd):Array Value:=#[.u f.addr,.i f.code,.bool f.marked,.u f.at_,.u f.entry]
def dI (k:Int):Int:=if k=1 then 12 else if k=2 then 13 else 15
def dg (k:Int):Int:=if k=1 then 1 else if k=2 then 5 else 7
def bH (k:Int):Fd:=⟨0,dI k,false,0,0⟩
def fi (k:Int):Fd:=⟨0,dg k,false,0,0⟩
def bq (T va:Int) (lv:Nat):Int:=Uz.wrap (T+Uz.wrap (8*bits .and .u64 (va/2^(12+9*lv)) 511))
def eY (zs:List Int) (x:Int):Int:=le zs (x-2147483648).toNat 8
def ol (e:Int):Bool:=(bits .and .u64 e 1==0)||((ap e 1==0)&&(ap e 2==1))||(e/18014398509481984 != 0)
def dJ (e:Int):Int:=bits .and .u64 (e/1024) 17592186044415
def lw (e:Int):Bool:=(ap e 1==0)&&(ap e 3==0)
def iK (e:Int) (lv:Nat):Bool:=((lv:Int)==0)||(bits .and .u64 (e/16) 1==1)||(bits .and .u64 (e/64) 3 != 0)
def FD (m:Nat):Int:=Uz.wrap (Uz.wrap (2^m)-1)
def ly (e:Int) (lv:Nat):Bool:=bits .and .u64 (dJ e) (FD (9*lv)) != 0
def fX (l:List Int) (kind e:Int):Bool :=
 ((kind==1)&&(ap e 3==0))||((kind==2)&&(ap e 1==0)&&((ap e 3==0)||(ap (l.getD 0 0) 19==0)))||((kind==3)&&(ap e 2==0))
def fY (l:List Int) (p kind e:Int):Bool :=
 ((p==0)&&(ap e 4==0))||((p==1)&&(ap e 4==1)&&((kind==1)||(ap (l.getD 0 0) 18==0)))
def fT (e va:Int) (lv:Nat):Int:=bits .or .u64 (bits .andNot .u64 (Uz.wrap (dJ e*4096)) (FD (12+9*lv))) (bits .and .u64 va (FD (12+9*lv)))
def cg (e kind:Int):Int:=if (kind==3)=true then bits .or .u64 (bits .or .u64 e 64) 128 else bits .or .u64 e 64
def cL (l:List Int) (p va kind e x:Int) (lv:Nat):Fd :=
 if ly e lv=true then bH kind else if fX l kind e=true then bH kind else if fY l p kind e=true then bH kind
 else if (cg e kind != e)=true then (if ay l 1 x (aM x 8) 3 4 0=true then ⟨fT e va lv,0,true,x,cg e kind⟩ else fi kind) else ⟨fT e va lv,0,false,0,0⟩
def bA (zs:List Int) (n:Nat) (l:List Int) (p va kind:Int):Nat->Int->Fd
 | 0,T=>if fQ n (bq T va 0) 8=true then (if ay l 1 (bq T va 0) (aM (bq T va 0) 8) 2 4 0=true then
  (if ol (eY zs (bq T va 0))=true then bH kind else if lw (eY zs (bq T va 0))=true then bH kind else cL l p va kind (eY zs (bq T va 0)) (bq T va 0) 0) else fi kind) else fi kind
 | lv+1,T=>if fQ n (bq T va (lv+1)) 8=true then (if ay l 1 (bq T va (lv+1)) (aM (bq T va (lv+1)) 8) 2 4 0=true then
  (if ol (eY zs (bq T va (lv+1)))=true then bH kind else if lw (eY zs (bq T va (lv+1)))=true then (if iK (eY zs (bq T va (lv+1))) (lv+1)=true then bH kind else bA zs n l p va kind lv (Uz.wrap (dJ (eY zs (bq T va (lv+1)))*4096))) else cL l p va kind (eY zs (bq T va (lv+1))) (bq T va (lv+1)) (lv+1)) else fi kind) else fi kind
def j8 (l:List Int):Int:=Uz.wrap (bits .and .u64 (l.getD 15 0) 17592186044415*4096)
def bO (zs:List Int) (n:Nat) (l:List Int) (p va kind:Int):Fd :=
 if ((p==3)||(l.getD 15 0/1152921504606846976==0))=true then ⟨va,0,false,0,0⟩ else if (aq 39 va != va)=true then bH kind else bA zs n l p va kind 2 (j8 l)
theorem fZ (zs:List Int) (n:Nat) (l:List Int) (p va kind:Int) (lv:Nat) (T:Int):bA zs n l p va kind lv T = (if fQ n (bq T va lv) 8=true then (if ay l 1 (bq T va lv) (aM (bq T va lv) 8) 2 4 0=true then (if ol (eY zs (bq T va lv))=true then bH kind else if lw (eY zs (bq T va lv))=true then (if iK (eY zs (bq T va lv)) lv=true then bH kind else bA zs n l p va kind (lv-1) (Uz.wrap (dJ (eY zs (bq T va lv))*4096))) else cL l p va kind (eY zs (bq T va lv)) (bq T va lv) lv) else fi kind) else fi kind):=by
 cases lv with
 | zero =>rw [bA];have:iK (eY zs (bq T va 0)) 0=true:=rfl;rw [this,if_pos rfl]
 | succ lv=>rw [bA];rfl
def dq (w:World) (base g cap:Nat) (l:List Int):Prop:=w.ownsRow base 22 1 (.slice (some ⟨g,0,none⟩) 22 cap) 22 (l.map (Value.int .u64))
theorem dq.len {w:World} {base g cap:Nat} {l:List Int} (h:dq w base g cap l):l.length=22:=by have:=h.1;simpa using this
theorem dq.cell {w:World} {base g cap:Nat} {l:List Int} (h:dq w base g cap l) (j:Nat) (a:j<22):w.cell? ⟨g,j,none⟩=some (.u (l.getD j 0)):=by have b:=h.len;have e:=World.ownsRow.cellAt h j a;rw [e];simp [List.getD,List.getElem?_eq_getElem (show j<l.length by omega)]
theorem dq.froz {w:World} {base g cap:Nat} {l:List Int} (h:dq w base g cap l) (j:Nat):w.frozen? ⟨g,j,none⟩=false:=World.ownsRow.frozenAt h j
theorem dq.put {w:World} {base g cap:Nat} {l:List Int} (h:dq w base g cap l) (j:Nat) (v:Int):dq (w.setCell ⟨g,j,none⟩ (.u v)) base g cap (l.set j v)/\w.grownBy (w.setCell ⟨g,j,none⟩ (.u v)) (some g):=by have e:=World.ownsRow.stored h j (.u v);rw [iH] at e;exact e
theorem dq.below {w w':World} {base g cap:Nat} {l:List Int} (h:dq w base g cap l) (hb:Bw w w'):dq w' base g cap l:=dF h hb
theorem dc {w w':World} (hb:Bw w w') (row:Option Nat):w.grownBy w' row:=⟨hb.os,hb.tape,hb.output,hb.size,λk a _=>hb.block k a⟩
theorem zq (base g cap:Nat) (l:List Int) (x:Int) (w:World) (h:dq w base g cap l):Calls prog 133 #[.slice (some ⟨g,0,none⟩) 22 cap,.i 769,.u x] w λe b=>e=.returned (.tuple #[])/\dq b base g cap (bJ l 769 x)/\w.grownBy b (some g):=by go_enter func133,ntmps133;go_wp2_with fail;refine bodyPost_ret (results_none results133 _ _ _) rfl ?_;exact ⟨rfl,h,oI _ _⟩
theorem xD (base g cap:Nat) (l:List Int) (x:Int) (w:World) (h:dq w base g cap l):Calls prog 133 #[.slice (some ⟨g,0,none⟩) 22 cap,.i 3860,.u x] w λe b=>e=.returned (.tuple #[])/\dq b base g cap (bJ l 3860 x)/\w.grownBy b (some g):=by go_enter func133,ntmps133;go_wp2_with fail;refine bodyPost_ret (results_none results133 _ _ _) rfl ?_;exact ⟨rfl,h,oI _ _⟩
theorem zt (base g cap:Nat) (l:List Int) (x:Int) (w:World) (h:dq w base g cap l):Calls prog 133 #[.slice (some ⟨g,0,none⟩) 22 cap,.i 256,.u x] w λe b=>e=.returned (.tuple #[])/\dq b base g cap (bJ l 256 x)/\w.grownBy b (some g):=by have F:Hid (bJ l 256 x=l.set 0 (bits .or .u64 (bits .andNot .u64 (l.getD 0 0) 786722) (bits .and .u64 x 786722))):=(rfl:bJ l 256 x=_);have H:Hid (dq w base g cap l):=h;have c:=h.cell 0 al;have f:=h.froz 0;clear h;go_enter func133,ntmps133;go_wp2_with fail;refine bodyPost_ret (results_none results133 _ _ _) rfl ?_;exact ⟨rfl,by rw [F.out];exact (H.out.put 0 _).1,(H.out.put 0 _).2⟩
theorem zu (base g cap:Nat) (l:List Int) (x:Int) (w:World) (h:dq w base g cap l):Calls prog 133 #[.slice (some ⟨g,0,none⟩) 22 cap,.i 324,.u x] w λe b=>e=.returned (.tuple #[])/\dq b base g cap (bJ l 324 x)/\w.grownBy b (some g):=by have F:Hid (bJ l 324 x=l.set 9 (bits .or .u64 (bits .andNot .u64 (l.getD 9 0) (bits .and .u64 (l.getD 2 0) 2)) (bits .and .u64 x (bits .and .u64 (l.getD 2 0) 2)))):=(rfl:bJ l 324 x=_);have H:Hid (dq w base g cap l):=h;have c:=h.cell 9 al;have d:=h.cell 2 al;have f:=h.froz 9;clear h;go_enter func133,ntmps133;go_wp2_with fail;refine bodyPost_ret (results_none results133 _ _ _) rfl ?_;exact ⟨rfl,by rw [F.out];exact (H.out.put 9 _).1,(H.out.put 9 _).2⟩
theorem zv (base g cap:Nat) (l:List Int) (x:Int) (w:World) (h:dq w base g cap l):Calls prog 133 #[.slice (some ⟨g,0,none⟩) 22 cap,.i 260,.u x] w λe d=>e=.returned (.tuple #[])/\dq d base g cap (bJ l 260 x)/\w.grownBy d (some g):=by
 have F:Hid (bJ l 260 x=l.set 3 (aX 3 (bits .or .u64 (bits .andNot .u64 (l.getD 3 0) (l.getD 2 0)) (bits .and .u64 x (l.getD 2 0))))):=(rfl:bJ l 260 x=_);have H:Hid (dq w base g cap l):=h;have c:=h.cell 3 al;have j:=h.cell 2 al;have f:=h.froz 3;clear h;generalize l.getD 3 0=p at *;generalize l.getD 2 0=o at *;go_enter func133,ntmps133;go_wp2_with fail;go_region_with (go_at_call 172;refine (fq _ _ _).mono ?_;rintro e m ⟨rfl,b⟩;subst b);all_goals go_wp2_with fail
 all_goals refine bodyPost_ret (results_none results133 _ _ _) rfl ?_
 all_goals exact ⟨rfl,by rw [F.out];exact ((H.out.put 3 _).1).below ((Below.refl _ _).drew),bF (H.out.put 3 _).2 ⟨rfl,rfl,rfl,Nat.le_refl _,λ_ _ _=>rfl⟩⟩
def fA (n:Int):Bool:=!(n==769)&&!(n==3860)&&!(n==256)&&!(n==260)&&!(n==324)
theorem xE {n:Int} (h:fA n=true) (l:List Int) (x:Int):bJ l n x=fx l (cE n) x:=by simp [fA] at h;unfold bJ;rw [if_neg al,if_neg al,if_neg al,if_neg al]
theorem Ck (base g cap:Nat) (l:List Int) (n x:Int) (m:cE n=9) (hn:fA n=true) (w:World) (h:dq w base g cap l):Calls prog 133 #[.slice (some ⟨g,0,none⟩) 22 cap,.i n,.u x] w λe d=>e=.returned (.tuple #[])/\dq d base g cap (fx l 9 x)/\w.grownBy d (some g):=by
 simp only [fA,Bool.and_eq_true,Bool.not_eq_true'] at hn;obtain ⟨⟨⟨⟨r,s⟩,t⟩,u⟩,z⟩:=hn;have H:Hid (dq w base g cap l):=h;clear h;have F:Hid (fx l 9 x=l.set 9 (bits .or .u64 (bits .andNot .u64 (l.getD 9 0) 546) (bits .and .u64 x 546))):=(rfl:fx l 9 x=_);have q:Hid (∀ w,CB 134 #[.i n] w (.i 9)):=by rw [<- m];exact df n
 clear m;go_enter func133,ntmps133;go_wp2_with fail;refine (q.out _).mono ?_;rintro e o ⟨rfl,j⟩;have p:Hid (Bw w o):=j;have b:Hid (dq o base g cap l):=H.out.below j;clear j;have c:=b.out.cell 9 al;have f:=b.out.froz 9;generalize l.getD 9 0=y at *;go_wp2_with fail;refine bodyPost_end (results_none results133 _ _ _) rfl ?_;exact ⟨rfl,by rw [F.out];exact (b.out.put 9 _).1,bF (dc p.out _) (b.out.put 9 _).2⟩
theorem zw (base g cap:Nat) (l:List Int) (n x:Int) (t:cE n=15) (hn:fA n=true) (w:World) (h:dq w base g cap l):Calls prog 133 #[.slice (some ⟨g,0,none⟩) 22 cap,.i n,.u x] w λe p=>e=.returned (.tuple #[])/\dq p base g cap (fx l 15 x)/\w.grownBy p (some g):=by
 simp only [fA,Bool.and_eq_true,Bool.not_eq_true'] at hn;obtain ⟨⟨⟨⟨z,A⟩,B⟩,C⟩,D⟩:=hn;have H:Hid (dq w base g cap l):=h;clear h;have m:fx l 15 x=if ((x/1152921504606846976==0)||(x/1152921504606846976==8))=true then l.set 15 x else l:=rfl
 obtain ⟨y,u⟩:∃ y,x/1152921504606846976=y:=⟨_,rfl⟩;rw [u] at m;have q:Hid (∀ w,CB 134 #[.i n] w (.i 15)):=by rw [<- t];exact df n
 clear t;cases r:(y==0) with
 | true =>have F:Hid (fx l 15 x=l.set 15 x):=(by show _=_;rw [m,r];rfl);clear m;go_enter func133,ntmps133;go_wp2_with fail;refine (q.out _).mono ?_;rintro e j ⟨rfl,d⟩;have o:Hid (Bw w j):=d;have b:Hid (dq j base g cap l):=H.out.below d;clear d;have c:=b.out.cell 15 al;have f:=b.out.froz 15;go_wp2_with fail;refine bodyPost_end (results_none results133 _ _ _) rfl ?_;exact ⟨rfl,by rw [F.out];exact (b.out.put 15 _).1,bF (dc o.out _) (b.out.put 15 _).2⟩
 | false =>
   cases s:(y==8) with
   | true =>have F:Hid (fx l 15 x=l.set 15 x):=(by show _=_;rw [m,r,s];rfl);clear m;go_enter func133,ntmps133;go_wp2_with fail;refine (q.out _).mono ?_;rintro e j ⟨rfl,d⟩;have o:Hid (Bw w j):=d;have b:Hid (dq j base g cap l):=H.out.below d;clear d;have c:=b.out.cell 15 al;have f:=b.out.froz 15;go_wp2_with fail;refine bodyPost_end (results_none results133 _ _ _) rfl ?_;exact ⟨rfl,by rw [F.out];exact (b.out.put 15 _).1,bF (dc o.out _) (b.out.put 15 _).2⟩
   | false =>have F:Hid (fx l 15 x=l):=(by show _=_;rw [m,r,s];rfl);clear m;go_enter func133,ntmps133;go_wp2_with fail;refine (q.out _).mono ?_;rintro e j ⟨rfl,d⟩;have o:Hid (Bw w j):=d;have b:Hid (dq j base g cap l):=H.out.below d;clear d;go_wp2_with fail;refine bodyPost_end (results_none results133 _ _ _) rfl ?_;exact ⟨rfl,ww,dc o.out _⟩
theorem zy (base g cap:Nat) (l:List Int) (n x:Int) (L:cE n=16) (hn:fA n=true) (w:World) (h:dq w base g cap l):Calls prog 133 #[.slice (some ⟨g,0,none⟩) 22 cap,.i n,.u x] w λe m=>e=.returned (.tuple #[])/\dq m base g cap (fx l 16 x)/\w.grownBy m (some g):=by
 simp only [fA,Bool.and_eq_true,Bool.not_eq_true'] at hn;obtain ⟨⟨⟨⟨X,Y⟩,Z⟩,n4⟩,n5⟩:=hn;have H:Hid (dq w base g cap l):=h;clear h;have F:Hid (fx l 16 x=l.set 16 (dN l (aX 16 x) 4)):=(rfl:fx l 16 x=_);have N:Hid (∀ w,CB 134 #[.i n] w (.i 16)):=by rw [<- L];exact df n
 clear L;go_enter func133,ntmps133;go_wp2_with fail;refine (N.out _).mono ?_;rintro e G ⟨rfl,r⟩;have M:Hid (Bw w G):=r;have j:Hid (dq G base g cap l):=H.out.below r;clear r;have c:=j.out.cell 16 al;have f:=j.out.froz 16;have J:Hid (Sl .u64 G (some ⟨g,0,none⟩) l):=lf j.out;have O:Hid (l.length=22):=j.out.len;go_wp2_with fail;refine (fq 16 x _).mono ?_;rintro e S ⟨rfl,B⟩;subst B;obtain ⟨z,D⟩:∃ z,z=aX 16 x:=⟨_,rfl⟩;rw [<- D];rw [<- D] at F;clear D;go_wp2_with fail;go_loopw [9,10] (λy i wr=>∃ k:Nat,k<=4/\i=.i k/\y=.u (dN l z k)/\wr=S)
  (λ_ i _=>4-(intOf i).toNat)
 case atStart=>exact ⟨0,al,rfl,rfl,rfl⟩
 case round =>
  obtain ⟨k,V,rfl,rfl,rfl⟩:=hrel;by_cases t:k<4
  ·have b:dN l z (k+1)=if (de l k/128==1)=true then bits .or .u64 (bits .andNot .u64 (dN l z k) (Uz.wrap (255*2^(8*k)))) (bits .and .u64 (l.getD 16 0) (Uz.wrap (255*2^(8*k)))) else dN l z k:=rfl
   have o:Hid (∀ w,Sl .u64 w (some ⟨g,0,none⟩) l->CE 180 #[.slice (some ⟨g,0,none⟩) 22 cap,.i k] w (.u (de l k))):=λw R=>kv _ cap l k t w O.out R;have U:decide ((k:Int)<4)=true:=a7;have W:wrap64 (8*(k:Int))=((8*k:Nat):Int):=la;have P:Uz.wrap ((8*k:Nat):Int)=((8*k:Nat):Int):=bv;have Q:8*k<64:=al;obtain ⟨y,C⟩:∃ y,y=dN l z k:=⟨_,rfl⟩;obtain ⟨u,A⟩:∃ u,u=dN l z (k+1):=⟨_,rfl⟩;rw [<- A,<- C] at b;rw [<- C];have I:Hid (u=dN l z (k+1)):=A;clear A C;generalize de l k=q at *;generalize l.getD 16 0=E at *;cases K:(q/128==1) with
   | true =>
     rw [if_pos K] at b;have p:Hid (u=bits .or .u64 (bits .andNot .u64 y (Uz.wrap (255*2^(8*k)))) (bits .and .u64 E (Uz.wrap (255*2^(8*k))))):=b;clear b;go_wp2_with fail;refine (o.out _ J.out).mono ?_;rintro e T ⟨rfl,d⟩;subst d;go_wp2_with fail;go_roundw;case rel=>exact ⟨k+1,al,by go_num,by rw [<- I.out,p.out],trivial⟩
     case measure=>simp [intOf];omega
   | false =>
     rw [if_neg (by rw [K];decide)] at b;have p:Hid (u=y):=b;clear b;go_wp2_with fail;refine (o.out _ J.out).mono ?_;rintro e T ⟨rfl,d⟩;subst d;go_wp2_with fail;go_roundw;case rel=>exact ⟨k+1,al,by go_num,by rw [<- I.out,p.out],trivial⟩
     case measure=>simp [intOf];omega
  ·have s:k=4:=al;subst s;generalize dN l z 4=y at *;go_wp2_with fail;refine bodyPost_end (results_none results133 _ _ _) rfl ?_;exact ⟨rfl,by rw [F.out];exact (j.out.put 16 _).1,bF (dc M.out _) (j.out.put 16 _).2⟩
theorem zz (base g cap:Nat) (l:List Int) (n x:Int) (u:cE n=17) (hn:fA n=true) (w:World) (h:dq w base g cap l):Calls prog 133 #[.slice (some ⟨g,0,none⟩) 22 cap,.i n,.u x] w λe m=>e=.returned (.tuple #[])/\dq m base g cap (fx l 17 x)/\w.grownBy m (some g):=by
 simp only [fA,Bool.and_eq_true,Bool.not_eq_true'] at hn;obtain ⟨⟨⟨⟨B,C⟩,D⟩,E⟩,G⟩:=hn;have H:Hid (dq w base g cap l):=h;clear h;have p:fx l 17 x=if eR l 0=true then l else l.set 17 (aX 17 x):=rfl
 have t:Hid (∀ w,CB 134 #[.i n] w (.i 17)):=by rw [<- u];exact df n
 clear u;have s:Hid (∀ w,Sl .u64 w (some ⟨g,0,none⟩) l->l.length=22->CE 184 #[.slice (some ⟨g,0,none⟩) 22 cap,.i 0] w (.bool (eR l 0))):=λw y z=>j6 _ cap l 0 al w z y;generalize eR l 0=lk at *;cases lk with
 | true =>have F:Hid (fx l 17 x=l):=p;clear p;go_enter func133,ntmps133;go_wp2_with fail;refine (t.out _).mono ?_;rintro e o ⟨rfl,d⟩;have q:Hid (Bw w o):=d;have b:Hid (dq o base g cap l):=H.out.below d;clear d;go_wp2_with fail;refine (s.out _ (lf b.out) b.out.len).mono ?_;rintro e A ⟨rfl,j⟩;subst j;go_wp2_with fail;refine bodyPost_end (results_none results133 _ _ _) rfl ?_;exact ⟨rfl,ww,dc q.out _⟩
 | false =>have F:Hid (fx l 17 x=l.set 17 (aX 17 x)):=p;clear p;go_enter func133,ntmps133;go_wp2_with fail;refine (t.out _).mono ?_;rintro e o ⟨rfl,d⟩;have q:Hid (Bw w o):=d;have b:Hid (dq o base g cap l):=H.out.below d;clear d;have c:=b.out.cell 17 al;have f:=b.out.froz 17;go_wp2_with fail;refine (s.out _ (lf b.out) b.out.len).mono ?_;rintro e A ⟨rfl,j⟩;subst j;go_wp2_with fail;refine (fq _ x _).mono ?_;rintro e I ⟨rfl,r⟩;subst r;go_wp2_with fail;refine bodyPost_end (results_none results133 _ _ _) rfl ?_;exact ⟨rfl,by rw [F.out];exact (b.out.put 17 _).1,bF (dc q.out _) (b.out.put 17 _).2⟩
theorem zA (base g cap:Nat) (l:List Int) (n x:Int) (u:cE n=18) (hn:fA n=true) (w:World) (h:dq w base g cap l):Calls prog 133 #[.slice (some ⟨g,0,none⟩) 22 cap,.i n,.u x] w λe m=>e=.returned (.tuple #[])/\dq m base g cap (fx l 18 x)/\w.grownBy m (some g):=by
 simp only [fA,Bool.and_eq_true,Bool.not_eq_true'] at hn;obtain ⟨⟨⟨⟨B,C⟩,D⟩,E⟩,G⟩:=hn;have H:Hid (dq w base g cap l):=h;clear h;have p:fx l 18 x=if eR l 1=true then l else l.set 18 (aX 18 x):=rfl
 have t:Hid (∀ w,CB 134 #[.i n] w (.i 18)):=by rw [<- u];exact df n
 clear u;have s:Hid (∀ w,Sl .u64 w (some ⟨g,0,none⟩) l->l.length=22->CE 184 #[.slice (some ⟨g,0,none⟩) 22 cap,.i 1] w (.bool (eR l 1))):=λw y z=>j6 _ cap l 1 al w z y;generalize eR l 1=lk at *;cases lk with
 | true =>have F:Hid (fx l 18 x=l):=p;clear p;go_enter func133,ntmps133;go_wp2_with fail;refine (t.out _).mono ?_;rintro e o ⟨rfl,d⟩;have q:Hid (Bw w o):=d;have b:Hid (dq o base g cap l):=H.out.below d;clear d;go_wp2_with fail;refine (s.out _ (lf b.out) b.out.len).mono ?_;rintro e A ⟨rfl,j⟩;subst j;go_wp2_with fail;refine bodyPost_end (results_none results133 _ _ _) rfl ?_;exact ⟨rfl,ww,dc q.out _⟩
 | false =>have F:Hid (fx l 18 x=l.set 18 (aX 18 x)):=p;clear p;go_enter func133,ntmps133;go_wp2_with fail;refine (t.out _).mono ?_;rintro e o ⟨rfl,d⟩;have q:Hid (Bw w o):=d;have b:Hid (dq o base g cap l):=H.out.below d;clear d;have c:=b.out.cell 18 al;have f:=b.out.froz 18;go_wp2_with fail;refine (s.out _ (lf b.out) b.out.len).mono ?_;rintro e A ⟨rfl,j⟩;subst j;go_wp2_with fail;refine (fq _ x _).mono ?_;rintro e I ⟨rfl,r⟩;subst r;go_wp2_with fail;refine bodyPost_end (results_none results133 _ _ _) rfl ?_;exact ⟨rfl,by rw [F.out];exact (b.out.put 18 _).1,bF (dc q.out _) (b.out.put 18 _).2⟩
theorem zB (base g cap:Nat) (l:List Int) (n x:Int) (u:cE n=19) (hn:fA n=true) (w:World) (h:dq w base g cap l):Calls prog 133 #[.slice (some ⟨g,0,none⟩) 22 cap,.i n,.u x] w λe m=>e=.returned (.tuple #[])/\dq m base g cap (fx l 19 x)/\w.grownBy m (some g):=by
 simp only [fA,Bool.and_eq_true,Bool.not_eq_true'] at hn;obtain ⟨⟨⟨⟨B,C⟩,D⟩,E⟩,G⟩:=hn;have H:Hid (dq w base g cap l):=h;clear h;have p:fx l 19 x=if eR l 2=true then l else l.set 19 (aX 19 x):=rfl
 have t:Hid (∀ w,CB 134 #[.i n] w (.i 19)):=by rw [<- u];exact df n
 clear u;have s:Hid (∀ w,Sl .u64 w (some ⟨g,0,none⟩) l->l.length=22->CE 184 #[.slice (some ⟨g,0,none⟩) 22 cap,.i 2] w (.bool (eR l 2))):=λw y z=>j6 _ cap l 2 al w z y;generalize eR l 2=lk at *;cases lk with
 | true =>have F:Hid (fx l 19 x=l):=p;clear p;go_enter func133,ntmps133;go_wp2_with fail;refine (t.out _).mono ?_;rintro e o ⟨rfl,d⟩;have q:Hid (Bw w o):=d;have b:Hid (dq o base g cap l):=H.out.below d;clear d;go_wp2_with fail;refine (s.out _ (lf b.out) b.out.len).mono ?_;rintro e A ⟨rfl,j⟩;subst j;go_wp2_with fail;refine bodyPost_end (results_none results133 _ _ _) rfl ?_;exact ⟨rfl,ww,dc q.out _⟩
 | false =>have F:Hid (fx l 19 x=l.set 19 (aX 19 x)):=p;clear p;go_enter func133,ntmps133;go_wp2_with fail;refine (t.out _).mono ?_;rintro e o ⟨rfl,d⟩;have q:Hid (Bw w o):=d;have b:Hid (dq o base g cap l):=H.out.below d;clear d;have c:=b.out.cell 19 al;have f:=b.out.froz 19;go_wp2_with fail;refine (s.out _ (lf b.out) b.out.len).mono ?_;rintro e A ⟨rfl,j⟩;subst j;go_wp2_with fail;refine (fq _ x _).mono ?_;rintro e I ⟨rfl,r⟩;subst r;go_wp2_with fail;refine bodyPost_end (results_none results133 _ _ _) rfl ?_;exact ⟨rfl,by rw [F.out];exact (b.out.put 19 _).1,bF (dc q.out _) (b.out.put 19 _).2⟩
theorem zC (base g cap:Nat) (l:List Int) (n x:Int) (u:cE n=20) (hn:fA n=true) (w:World) (h:dq w base g cap l):Calls prog 133 #[.slice (some ⟨g,0,none⟩) 22 cap,.i n,.u x] w λe m=>e=.returned (.tuple #[])/\dq m base g cap (fx l 20 x)/\w.grownBy m (some g):=by
 simp only [fA,Bool.and_eq_true,Bool.not_eq_true'] at hn;obtain ⟨⟨⟨⟨B,C⟩,D⟩,E⟩,G⟩:=hn;have H:Hid (dq w base g cap l):=h;clear h;have p:fx l 20 x=if eR l 3=true then l else l.set 20 (aX 20 x):=rfl
 have t:Hid (∀ w,CB 134 #[.i n] w (.i 20)):=by rw [<- u];exact df n
 clear u;have s:Hid (∀ w,Sl .u64 w (some ⟨g,0,none⟩) l->l.length=22->CE 184 #[.slice (some ⟨g,0,none⟩) 22 cap,.i 3] w (.bool (eR l 3))):=λw y z=>j6 _ cap l 3 al w z y;generalize eR l 3=lk at *;cases lk with
 | true =>have F:Hid (fx l 20 x=l):=p;clear p;go_enter func133,ntmps133;go_wp2_with fail;refine (t.out _).mono ?_;rintro e o ⟨rfl,d⟩;have q:Hid (Bw w o):=d;have b:Hid (dq o base g cap l):=H.out.below d;clear d;go_wp2_with fail;refine (s.out _ (lf b.out) b.out.len).mono ?_;rintro e A ⟨rfl,j⟩;subst j;go_wp2_with fail;refine bodyPost_end (results_none results133 _ _ _) rfl ?_;exact ⟨rfl,ww,dc q.out _⟩
 | false =>have F:Hid (fx l 20 x=l.set 20 (aX 20 x)):=p;clear p;go_enter func133,ntmps133;go_wp2_with fail;refine (t.out _).mono ?_;rintro e o ⟨rfl,d⟩;have q:Hid (Bw w o):=d;have b:Hid (dq o base g cap l):=H.out.below d;clear d;have c:=b.out.cell 20 al;have f:=b.out.froz 20;go_wp2_with fail;refine (s.out _ (lf b.out) b.out.len).mono ?_;rintro e A ⟨rfl,j⟩;subst j;go_wp2_with fail;refine (fq _ x _).mono ?_;rintro e I ⟨rfl,r⟩;subst r;go_wp2_with fail;refine bodyPost_end (results_none results133 _ _ _) rfl ?_;exact ⟨rfl,by rw [F.out];exact (b.out.put 20 _).1,bF (dc q.out _) (b.out.put 20 _).2⟩
theorem Cl (base g cap:Nat) (l:List Int) (n x:Int) (k:Nat) (B:k<22) (hk:¬ (k=9\/k=15\/k=16\/k=17\/k=18\/k=19\/k=20)) (o:cE n=(k:Int)) (hn:fA n=true) (w:World) (h:dq w base g cap l):Calls prog 133 #[.slice (some ⟨g,0,none⟩) 22 cap,.i n,.u x] w λe d=>e=.returned (.tuple #[])/\dq d base g cap (fx l (k:Int) x)/\w.grownBy d (some g):=by
 simp only [fA,Bool.and_eq_true,Bool.not_eq_true'] at hn;obtain ⟨⟨⟨⟨D,E⟩,G⟩,I⟩,J⟩:=hn;have H:Hid (dq w base g cap l):=h;clear h;have F:Hid (fx l (k:Int) x=l.set k (aX k x)):=by show _=_;unfold fx;rw [if_neg al,if_neg al,if_neg al,if_neg al];rfl
 have C:((k:Int)==9)=false:=by simp;omega
 have s:((k:Int)==15)=false:=by simp;omega
 have t:((k:Int)==16)=false:=by simp;omega
 have u:((k:Int)==17)=false:=by simp;omega
 have y:((k:Int)==18)=false:=by simp;omega
 have z:((k:Int)==19)=false:=by simp;omega
 have A:((k:Int)==20)=false:=by simp;omega
 have r:Hid (∀ w,CB 134 #[.i n] w (.i (k:Int))):=by rw [<- o];exact df n
 clear o;clear hk;go_enter func133,ntmps133;go_wp2_with fail;refine (r.out _).mono ?_;rintro e p ⟨rfl,j⟩;have q:Hid (Bw w p):=j;have b:Hid (dq p base g cap l):=H.out.below j;clear j;have c:=b.out.cell k B;have f:=b.out.froz k;go_wp2_with fail;refine (fq _ x _).mono ?_;rintro e K ⟨rfl,m⟩;subst m;go_wp2_with fail;refine bodyPost_end (results_none results133 _ _ _) rfl ?_;exact ⟨rfl,by rw [F.out];exact (b.out.put k _).1,bF (dc q.out _) (b.out.put k _).2⟩
theorem zD (base g cap:Nat) (l:List Int) (n x:Int) (hk:cS n=true) (w:World) (h:dq w base g cap l):Calls prog 133 #[.slice (some ⟨g,0,none⟩) 22 cap,.i n,.u x] w λe o=>e=.returned (.tuple #[])/\dq o base g cap (bJ l n x)/\w.grownBy o (some g):=by
 by_cases b:fA n=true
 ·rw [xE b];have r:=qd n;have q:0<=cE n:=(by simp [fA] at b;simp [cS] at hk;omega);obtain ⟨k,a⟩:∃ k:Nat,cE n=(k:Int):=⟨(cE n).toNat,al⟩;rw [a];by_cases e:k=9\/k=15\/k=16\/k=17\/k=18\/k=19\/k=20
  ·by_cases p:k=9;·subst p;exact Ck base g cap l n x a b w h
   ·by_cases c:k=15;·subst c;exact zw base g cap l n x a b w h
    ·by_cases d:k=16;·subst d;exact zy base g cap l n x a b w h
     ·by_cases f:k=17;·subst f;exact zz base g cap l n x a b w h
      ·by_cases i:k=18;·subst i;exact zA base g cap l n x a b w h
       ·by_cases j:k=19;·subst j;exact zB base g cap l n x a b w h
        ·have m:k=20:=al;subst m;exact zC base g cap l n x a b w h
  ·exact Cl base g cap l n x k al e a b w h
 ·have:n=769\/n=3860\/n=256\/n=260\/n=324:=by simp [fA] at b;omega
  rcases this with rfl|rfl|rfl|rfl|rfl;·exact zq base g cap l x w h
  ·exact xD base g cap l x w h
  ·exact zt base g cap l x w h
  ·exact zv base g cap l x w h
  ·exact zu base g cap l x w h
theorem DU {w:World} {base g cap:Nat} {l:List Int} (h:dq w base g cap l) (j:Nat) (b:j<22) (x:Int) (o:Oper) (ev:Operand->Value) (p v:Operand) (d:o.op=.store 22 p v) (q:ev p=.p g j) (hv:ev v=.u x):(execOp ev o).run prog w=.ok .skip (w.setCell ⟨g,j,none⟩ (.u x)):=by
 have c:=h.cell j b;have f:=h.froz j;have r:∀ m,(store ⟨g,j,none⟩ (.u x) m).run prog w=.ok () (w.setCell ⟨g,j,none⟩ (.u x)):=by intro m;rw [run_store_int];simp [stored,c,f]
 simp [execOp,d,q,hv,go_sem];rw [c];simp [f]
theorem oM {b:Array Oper} {rest:List Oper} {o:Oper} {a:Act} {w:World} {Q:Exit->Act->World->Prop} (e:o.guard=none) (p v:Operand) (i:o.op=.store 22 p v) (hd:o.dst=none) {base g cap:Nat} {l:List Int} (h:dq w base g cap l) (j:Nat) (f:j<22) (x:Int) (k:a.eval p=.p g j) (hv:a.eval v=.u x) (hk:∀ c,dq c base g cap (l.set j x)->w.grownBy c (some g)->wpList prog b Q rest a c):wpList prog b Q (o::rest) a w:=by refine wpList_plain e λK d=>?_;unfold Oper.wp;rw [DU h j f x o a.eval p v i k hv,Oper.upon_skip];rw [hd];exact d _ _ (hk _ (h.put j x).1 (h.put j x).2)
theorem bn (x:Int) (k n:Nat) (b:0<=x) (c:x<18446744073709551616) (hk:k<64) (hn:n<64) (w:World):Calls prog 66 #[.u x,.i k,.i n] w λe d=>e=.returned (.u (cI x k n))/\d=w.drew:=by
 have F:Hid (bits .and .u64 (x/2^k) (Uz.wrap (Uz.wrap (2^n)-1))=cI x k n):=gQ x k n b c hn;go_enter func66,ntmps66;go_wp2_with fail;go_region;all_goals go_wp2_with fail
 all_goals go_ret
 all_goals exact ⟨by rw [<- F.out];rfl,rfl⟩
theorem rX (f:Fm) (w:World):CE 236 #[.string f.str] w (.tuple #[.u f.mask,.i f.at]):=by
 cases f<;>simp only [Fm.str,Fm.mask,Fm.at];all_goals go_enter func236,ntmps236
 all_goals go_wp2_with fail
 all_goals go_ret2
 all_goals exact ⟨rfl,rfl⟩
theorem io (x:Int) (n:Nat) (g:1<=n) (j:n<=64) (w:World):CE 136 #[.u x,.i n] w (.u (aq n x)):=by
 have d:decide ((n:Int)<1)=false:=by simp;omega
 have f:decide ((64:Int)<(n:Int))=false:=by simp;omega
 obtain ⟨m,l,b⟩:∃ m:Nat,(64:Int)-(n:Int)=(m:Int)/\m=64-n:=⟨64-n,al,rfl⟩;have F:Hid (Uz.wrap (wrap64 (Uz.wrap (x*2^m))/2^m)=aq n x):=by show _=_;rw [b];rfl
 clear b;go_enter func136,ntmps136;go_wp2_with fail;go_ret;exact ⟨by rw [<- F.out];rfl,rfl⟩
theorem dL (x:Int) (n:Nat) (f:1<=n) (g:n<=64) (w:World):CE 127 #[.u x,.u n] w (.u (aq n x)):=by
 obtain ⟨m,j,b⟩:∃ m:Nat,(64:Int)-(n:Int)=(m:Int)/\m=64-n:=⟨64-n,al,rfl⟩;have F:Hid (Uz.wrap (wrap64 (Uz.wrap (x*2^m))/2^m)=aq n x):=by show _=_;rw [b];rfl
 clear b;have c:Uz.wrap (m:Int)=m:=by rw [IntKind.wrap_u64];omega
 go_enter func127,ntmps127;go_wp2_with fail;go_ret;exact ⟨by rw [<- F.out];rfl,rfl⟩
def iq (op:Int) (f:Fm):Int:=if op=98 then bits .or .u64 f.mask 3968 else if op=63\/op=74 then bits .or .u64 f.mask 32505856 else f.mask
def tA (f:Fm) (o z m:Int):Int:=bits .or .u64 (bits .or .u64 o (Uz.wrap (z*4096))) (Uz.wrap (m*2^f.at))
theorem tB (op:Int) (D:ByteArray) (f:Fm) (o z m:Int) (w:World):CB 203 #[.i op,.agg #[.string D,.string f.str,.u o,.u z,.u m]] w (.tuple #[.u (iq op f),.u (tA f o z m)]):=by
 have r:=rX f;obtain ⟨M,d⟩:∃ M,M=f.mask:=⟨_,rfl⟩;obtain ⟨t,l⟩:∃ t,t=f.at:=⟨_,rfl⟩;obtain ⟨s,p⟩:∃ s,s=f.str:=⟨_,rfl⟩;have u:Hid (tA f o z m=bits .or .u64 (bits .or .u64 o (Uz.wrap (z*4096))) (Uz.wrap (m*2^t))):=by show _=_;rw [tA,l]
 rw [<- p,<- d,<- l] at r;rw [<- p];have B:t<64:=by rw [l];cases f<;>decide
 by_cases b:op=98
 ·subst b;have g:Hid (iq 98 f=bits .or .u64 M 3968):=(by show _=_;rw [iq,if_pos rfl,d]);clear d l p;go_enter func203,ntmps203;go_wp2_with fail;refine (r _).mono ?_;rintro e A ⟨rfl,rfl⟩;go_wp2_with fail;go_region;all_goals go_wp2_with fail
  all_goals go_ret2
  all_goals exact ⟨by rw [g.out,u.out];rfl,(bal _ _).drew⟩
 ·have q:(op==98)=false:=i3;by_cases c:op=63
  ·subst c;have g:Hid (iq 63 f=bits .or .u64 M 32505856):=(by show _=_;rw [iq,if_neg a5,if_pos a5,d]);clear d l p b q;go_enter func203,ntmps203;go_wp2_with fail;refine (r _).mono ?_;rintro e A ⟨rfl,rfl⟩;go_wp2_with fail;go_region;all_goals go_wp2_with fail
   all_goals go_ret2
   all_goals exact ⟨by rw [g.out,u.out];rfl,(bal _ _).drew⟩
  ·have y:(op==63)=false:=tk;by_cases j:op=74
   ·subst j;have g:Hid (iq 74 f=bits .or .u64 M 32505856):=(by show _=_;rw [iq,if_neg a5,if_pos a5,d]);clear d l p b q c y;go_enter func203,ntmps203;go_wp2_with fail;refine (r _).mono ?_;rintro e A ⟨rfl,rfl⟩;go_wp2_with fail;go_region;all_goals go_wp2_with fail
    all_goals go_ret2
    all_goals exact ⟨by rw [g.out,u.out];rfl,(bal _ _).drew⟩
   ·have C:(op==74)=false:=(by simpa using j);have g:Hid (iq op f=M):=(by show _=_;rw [iq,if_neg b,if_neg al,d]);clear d l p b c j;go_enter func203,ntmps203;go_wp2_with fail;refine (r _).mono ?_;rintro e A ⟨rfl,rfl⟩;go_wp2_with fail;go_region;all_goals go_wp2_with fail
    all_goals go_ret2
    all_goals exact ⟨by rw [g.out,u.out];rfl,(bal _ _).drew⟩
theorem pn {B:Nat} {a w:World} (h:Below B a w) (n:Nat):Below B a (w.drewN n):=⟨h.os,h.tape,h.output,h.size,h.block⟩
theorem aT {P:Program} {f:FuncId} {args:Array Value} {w:World} {v:Value} (h:Calls P f args w λe a=>e=.returned v/\a=w):Calls P f args w λe a=>e=.returned v/\∃ m,a=w.drewN m :=
 h.mono λ_ _ h=>⟨h.1,0,h.2⟩
theorem mB {P:Program} {f:FuncId} {args:Array Value} {w:World} {v:Value} (h:Calls P f args w λe a=>e=.returned v/\a=w.drew):Calls P f args w λe a=>e=.returned v/\∃ m,a=w.drewN m :=
 h.mono λ_ _ h=>⟨h.1,1,h.2⟩
theorem lP {n:Nat} (h:(prog.funcs[n]?).map (λa=>(a.name == "runtime.NumGoroutine",a.body.isSome))=some (false,true)) (args:Array Value) (w:World):(callFunc n args).run prog w=.ok (.enter n args) w:=by
 cases b:prog.funcs[n]? with
 | none=>rw [b] at h;cases h
 | some a =>rw [b] at h;simp only [Option.map_some,Option.some.injEq,Prod.mk.injEq] at h;have d:a.name≠ "runtime.NumGoroutine":=(by simpa using h.1);obtain ⟨c,e⟩:=Option.isSome_iff_exists.mp h.2;simp [callFunc,b,d,e,mark]
theorem Ix {x:Int} (h:(Lit.int .i64 x).wf=true):-9223372036854775808<=x/\x<=9223372036854775807:=by have b:IntKind.i64.min=-9223372036854775808:=rfl;have a:IntKind.i64.max=9223372036854775807:=rfl;simp only [Lit.wf,Bool.and_eq_true,decide_eq_true_eq] at h;omega
theorem Iy (x:Int) (a:0<=x) (b:x<18446744073709551616) (w:World):Calls prog 66 #[.u x,.i 0,.i 6] w λe c=>e=.returned (.u (sh x))/\c=w.drew:=by
 have h:=bn x 0 6 a b al al w;have e:cI x 0 6=sh x:=by rw [<- Nj];simp [cI]
 rw [e] at h;exact h
theorem zE (x:Int) (c:0<=x) (d:x<18446744073709551616) (w:World):Calls prog 264 #[.u x] w λe b=>e=.returned (.u (x%32))/\b=w.drew:=by
 have h:∀ w,Calls prog 66 #[.u x,.i 0,.i 5] w λe b=>e=.returned (.u (cI x 0 5))/\b=w.drew:=λw=>bn x 0 5 c d al al w;have e:cI x 0 5=x%32:=by simp [cI]
 rw [e] at h;go_enter func264,ntmps264;go_wp2_with fail;refine (h _).mono ?_;exact a0f
theorem FF (x:Int) (b:0<=x) (w:World):CE 228 #[.u x,.i 4] w (.u (x%4294967296)):=by have F:Hid (Uz.wrap (x*2^32)/2^32=x%4294967296):=vG x 4 al al b;go_enter func228,ntmps228;go_wp2_with fail;go_ret;exact ⟨by rw [<- F.out];rfl,rfl⟩
theorem rn (x:Int) (b:0<=x) (w:World):CE 243 #[.u x] w (.u (x%4294967296)):=by go_enter func243,ntmps243;go_wp2_with fail;refine (FF x b _).mono ?_;rintro e d ⟨rfl,rfl⟩;exact a02
theorem oB (x:Int) (w:World):CE 242 #[.u x] w (.u (aq 32 x)):=by go_enter func242,ntmps242;go_wp2_with fail;refine (io x 32 al al _).mono ?_;rintro e d ⟨rfl,b⟩;subst b;exact a02
theorem vU (a b:Int) (w:World):CE 255 #[.u a,.u b] w (.u (Uz.wrap (a+b))):=by go_enter func255,ntmps255;exact a02
theorem qq (a b:Int) (w:World):CE 265 #[.u a,.u b] w (.u (Uz.wrap (a-b))):=by go_enter func265,ntmps265;exact a02
theorem vd (a b:Int) (w:World):CE 266 #[.u a,.u b] w (.u (Uz.wrap (a*b))):=by go_enter func266,ntmps266;exact a02
theorem vV (a b:Int) (w:World):CE 258 #[.u a,.u b] w (.u (bits .xor .u64 a b)):=by go_enter func258,ntmps258;exact a02
theorem zF (a b:Int) (w:World):CE 259 #[.u a,.u b] w (.u (bits .or .u64 a b)):=by go_enter func259,ntmps259;exact a02
theorem vX (a b:Int) (w:World):CE 260 #[.u a,.u b] w (.u (bits .and .u64 a b)):=by go_enter func260,ntmps260;exact a02
theorem xF (a b:Int) (w:World):CE 277 #[.u a,.u b] w (.u b):=by go_enter func277,ntmps277;exact a02
theorem ve (a b:Int) (c:0<=b) (d:b<18446744073709551616) (w:World):Calls prog 261 #[.u a,.u b] w λe g=>e=.returned (.u (Uz.wrap (a*2^sh b)))/\g=w.drew:=by have f:=DT b;go_enter func261,ntmps261;go_wp2_with fail;refine (Iy b c d _).mono ?_;exact a0g
theorem tC (a b:Int) (c:0<=b) (d:b<18446744073709551616) (w:World):Calls prog 262 #[.u a,.u b] w λe g=>e=.returned (.u (a/2^sh b))/\g=w.drew:=by have f:=DT b;go_enter func262,ntmps262;go_wp2_with fail;refine (Iy b c d _).mono ?_;exact a0g
theorem nD (a b:Int) (c:0<=b) (d:b<18446744073709551616) (w:World):Calls prog 263 #[.u a,.u b] w λe g=>e=.returned (.u (Uz.wrap (wrap64 a/2^sh b)))/\g=w.drew:=by have f:=DT b;go_enter func263,ntmps263;go_wp2_with fail;refine (Iy b c d _).mono ?_;exact a0g
theorem rp (a b:Int) (w:World):CE 274 #[.u a,.u b] w (.bool (a==b)):=by go_enter func274,ntmps274;exact a02
theorem jn (a b:Int) (w:World):CE 275 #[.u a,.u b] w (.bool (decide (wrap64 a<wrap64 b))):=by go_enter func275,ntmps275;exact a02
theorem kz (a b:Int) (w:World):CE 276 #[.u a,.u b] w (.bool (decide (a<b))):=by go_enter func276,ntmps276;exact a02
theorem vY (c:Bool) (w:World):CE 286 #[.bool c] w (.u (Ch c)):=by
 cases c;all_goals go_enter func286,ntmps286
 all_goals go_wp2_with fail
 all_goals go_ret
 all_goals exact ⟨rfl,rfl⟩
theorem Iz (c:Bool) (w:World):CE 104 #[.bool c] w (.u (Ch c)):=by
 cases c;all_goals go_enter func104,ntmps104
 all_goals go_wp2_with fail
 all_goals go_ret
 all_goals exact ⟨rfl,rfl⟩
theorem tD (a b:Int) (w:World):CE 256 #[.u a,.u b] w (.u (Ch (decide (wrap64 a<wrap64 b)))):=by go_enter func256,ntmps256;go_wp2_with fail;refine (jn a b _).mono ?_;rintro e d ⟨rfl,rfl⟩;go_wp2_with fail;refine (vY _ _).mono ?_;exact a0f
theorem xG (a b:Int) (w:World):CE 257 #[.u a,.u b] w (.u (Ch (decide (a<b)))):=by go_enter func257,ntmps257;go_wp2_with fail;refine (kz a b _).mono ?_;rintro e d ⟨rfl,rfl⟩;go_wp2_with fail;refine (vY _ _).mono ?_;exact a0f
theorem FG (a b:Int) (c:0<=a) (d:a<18446744073709551616) (f:0<=b) (g:b<18446744073709551616) (w:World):CE 287 #[.u a,.u b] w (.tuple #[.u (jX a b),.u (Uz.wrap (a*b))]):=by obtain ⟨D,C,B,A,t,u,v,l,m,o,p,q,r,s,y,z⟩:=tz a b c d f g;have m1:=ky a c d;have m2:=ky b f g;go_enter func287,ntmps287;go_wp2;go_ret2;exact a0h
theorem mC (a b:Int) (c:0<=a) (d:a<18446744073709551616) (f:0<=b) (g:b<18446744073709551616) (w:World):CE 269 #[.u a,.u b] w (.u (jX a b)):=by go_enter func269,ntmps269;go_wp2_with fail;refine (FG a b c d f g _).mono ?_;rintro e l ⟨rfl,rfl⟩;exact a02
theorem po (a b:Int) (c:0<=a) (d:a<18446744073709551616) (f:0<=b) (g:b<18446744073709551616) (w:World):CE 181 #[.u a,.u b] w (.u (jX a b)):=by
 obtain ⟨E,D,C,B,t,u,v,l,m,o,p,y,z,q,A,r⟩:=tz b a f g c d;have j:jX b a=jX a b:=by simp only [jX,Int.mul_comm]
 rw [Int.mul_comm] at l m o p;rw [Int.add_comm] at q;rw [j] at r;clear j;have m1:=ky a c d;have m2:=ky b f g;go_enter func181,ntmps181;exact a00
theorem iE (a b:Int) (c:0<=a) (f:a<18446744073709551616) (g:0<=b) (j:b<18446744073709551616) (w:World):CE 268 #[.u a,.u b] w (.u (fI a b)):=by
 by_cases h:wrap64 a<0;·have F:Hid (fI a b=Uz.wrap (jX a b-b)):=(by show _=_;unfold fI;rw [if_pos h]);have d:decide (wrap64 a<0)=true:=dn;clear h;go_enter func268,ntmps268;go_wp2_with fail;refine (mC a b c f g j _).mono ?_;exact a0i
 ·have F:Hid (fI a b=jX a b):=(by show _=_;unfold fI;rw [if_neg h]);have d:decide (wrap64 a<0)=false:=dn;clear h;go_enter func268,ntmps268;go_wp2_with fail;refine (mC a b c f g j _).mono ?_;exact a0i
theorem tE (a b:Int) (c:0<=a) (f:a<18446744073709551616) (g:0<=b) (j:b<18446744073709551616) (w:World):CE 267 #[.u a,.u b] w (.u (lu a b)):=by
 by_cases h:wrap64 b<0;·have F:Hid (lu a b=Uz.wrap (fI a b-a)):=(by show _=_;unfold lu;rw [if_pos h]);have d:decide (wrap64 b<0)=true:=dn;clear h;go_enter func267,ntmps267;go_wp2_with fail;refine (iE a b c f g j _).mono ?_;exact a0i
 ·have F:Hid (lu a b=fI a b):=(by show _=_;unfold lu;rw [if_neg h]);have d:decide (wrap64 b<0)=false:=dn;clear h;go_enter func267,ntmps267;go_wp2_with fail;refine (iE a b c f g j _).mono ?_;exact a0i
theorem oN (a b:Int) (c:0<=b) (f:b<18446744073709551616) (w:World):CE 270 #[.u a,.u b] w (.u (AF.div.v a b)):=by
 by_cases h:b=0;·have F:Hid (AF.div.v a b=18446744073709551615):=dm;have d:(b==0)=true:=dn;clear h;go_enter func270,ntmps270;exact a0a
 ·have F:Hid (AF.div.v a b=Uz.wrap (wrap64 ((wrap64 a).tdiv (wrap64 b)))):=dm;have d:(b==0)=false:=dn;have j:¬ wrap64 b=0:=(by rw [eH c f];exact h);clear h;go_enter func270,ntmps270;exact a0a
theorem tF (a b:Int) (c:0<=b) (f:b<18446744073709551616) (w:World):CE 272 #[.u a,.u b] w (.u (AF.rem.v a b)):=by
 by_cases h:b=0;·have F:Hid (AF.rem.v a b=a):=dm;have d:(b==0)=true:=dn;clear h;go_enter func272,ntmps272;exact a0a
 ·have F:Hid (AF.rem.v a b=Uz.wrap ((wrap64 a).tmod (wrap64 b))):=dm;have d:(b==0)=false:=dn;have j:¬ wrap64 b=0:=(by rw [eH c f];exact h);clear h;go_enter func272,ntmps272;exact a0a
theorem qr (a b:Int) (w:World):CE 271 #[.u a,.u b] w (.u (AF.divu.v a b)):=by
 by_cases h:b=0;·have F:Hid (AF.divu.v a b=18446744073709551615):=dm;have d:(b==0)=true:=dn;clear h;go_enter func271,ntmps271;exact a0a
 ·have F:Hid (AF.divu.v a b=Uz.wrap (a.tdiv b)):=dm;have d:(b==0)=false:=dn;go_enter func271,ntmps271;exact a0a
theorem xH (a b:Int) (w:World):CE 273 #[.u a,.u b] w (.u (AF.remu.v a b)):=by
 by_cases h:b=0;·have F:Hid (AF.remu.v a b=a):=dm;have d:(b==0)=true:=dn;clear h;go_enter func273,ntmps273;exact a0a
 ·have F:Hid (AF.remu.v a b=a.tmod b):=dm;have d:(b==0)=false:=dn;go_enter func273,ntmps273;exact a0a
end Go.Proofs.YtjifdmoehfbihaaGreatDoor
