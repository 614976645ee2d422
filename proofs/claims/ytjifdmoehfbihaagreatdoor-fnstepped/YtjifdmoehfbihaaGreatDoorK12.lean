/- Own lemmas. -/
import Derived.Test.YtjifdmoehfbihaaGreatDoorAut
import Derived.Test.YtjifdmoehfbihaaGreatDoorK10
import Derived.Test.YtjifdmoehfbihaaGreatDoorK11
set_option maxRecDepth 100000
set_option maxHeartbeats 1600000
namespace Go.Proofs.YtjifdmoehfbihaaGreatDoor
open Go.RowKit Tryz
open IntKind renaming u64->Uz
set_option linter.unusedVariables false
structure Fd where
 addr:Int
 code:Int
 marked:Bool
 at_:Int
 entry:Int
def Fd.cells (f:Fd):Array Value:=#[.u f.addr,.i f.code,.bool f.marked,.u f.at_,.u f.entry]
def dP (k:Int):Int:=if k=1 then 12 else if k=2 then 13 else 15
def dy (k:Int):Int:=if k=1 then 1 else if k=2 then 5 else 7
def bO (k:Int):Fd:=⟨0,dP k,false,0,0⟩
def fA (k:Int):Fd:=⟨0,dy k,false,0,0⟩
def bF (T va:Int) (lv:Nat):Int:=Uz.wrap (T+Uz.wrap (8*bits .and .u64 (va/2^(12+9*lv)) 511))
def fs (zs:List Int) (x:Int):Int:=le zs (x-2147483648).toNat 8
def oZ (e:Int):Bool:=(bits .and .u64 e 1==0)||((ak e 1==0)&&(ak e 2==1))||(e/18014398509481984 != 0)
def dQ (e:Int):Int:=bits .and .u64 (e/1024) 17592186044415
def l8 (e:Int):Bool:=(ak e 1==0)&&(ak e 3==0)
def iZ (e:Int) (lv:Nat):Bool:=((lv:Int)==0)||(bits .and .u64 (e/16) 1==1)||(bits .and .u64 (e/64) 3 != 0)
def Ij (m:Nat):Int:=Uz.wrap (Uz.wrap (2^m)-1)
def ma (e:Int) (lv:Nat):Bool:=bits .and .u64 (dQ e) (Ij (9*lv)) != 0
def gA (l:List Int) (kind e:Int):Bool :=
 ((kind==1)&&(ak e 3==0))||((kind==2)&&(ak e 1==0)&&((ak e 3==0)||(ak (l.getD 0 0) 19==0)))||((kind==3)&&(ak e 2==0))
def gB (l:List Int) (p kind e:Int):Bool :=
 ((p==0)&&(ak e 4==0))||((p==1)&&(ak e 4==1)&&((kind==1)||(ak (l.getD 0 0) 18==0)))
def gt (e va:Int) (lv:Nat):Int:=bits .or .u64 (bits .andNot .u64 (Uz.wrap (dQ e*4096)) (Ij (12+9*lv))) (bits .and .u64 va (Ij (12+9*lv)))
def cq (e kind:Int):Int:=if (kind==3)=true then bits .or .u64 (bits .or .u64 e 64) 128 else bits .or .u64 e 64
def db (l:List Int) (p va kind e x:Int) (lv:Nat):Fd :=
 if ma e lv=true then bO kind else if gA l kind e=true then bO kind else if gB l p kind e=true then bO kind
 else if (cq e kind != e)=true then (if aA l 1 x (aZ x 8) 3 4 0=true then ⟨gt e va lv,0,true,x,cq e kind⟩ else fA kind) else ⟨gt e va lv,0,false,0,0⟩
def bK (zs:List Int) (n:Nat) (l:List Int) (p va kind:Int):Nat->Int->Fd
 | 0,T=>if gn n (bF T va 0) 8=true then (if aA l 1 (bF T va 0) (aZ (bF T va 0) 8) 2 4 0=true then
  (if oZ (fs zs (bF T va 0))=true then bO kind else if l8 (fs zs (bF T va 0))=true then bO kind else db l p va kind (fs zs (bF T va 0)) (bF T va 0) 0) else fA kind) else fA kind
 | lv+1,T=>if gn n (bF T va (lv+1)) 8=true then (if aA l 1 (bF T va (lv+1)) (aZ (bF T va (lv+1)) 8) 2 4 0=true then
  (if oZ (fs zs (bF T va (lv+1)))=true then bO kind else if l8 (fs zs (bF T va (lv+1)))=true then (if iZ (fs zs (bF T va (lv+1))) (lv+1)=true then bO kind else bK zs n l p va kind lv (Uz.wrap (dQ (fs zs (bF T va (lv+1)))*4096))) else db l p va kind (fs zs (bF T va (lv+1))) (bF T va (lv+1)) (lv+1)) else fA kind) else fA kind
def kH (l:List Int):Int:=Uz.wrap (bits .and .u64 (l.getD 15 0) 17592186044415*4096)
def bW (zs:List Int) (n:Nat) (l:List Int) (p va kind:Int):Fd :=
 if ((p==3)||(l.getD 15 0/1152921504606846976==0))=true then ⟨va,0,false,0,0⟩ else if (ap 39 va != va)=true then bO kind else bK zs n l p va kind 2 (kH l)
theorem gC (zs:List Int) (n:Nat) (l:List Int) (p va kind:Int) (lv:Nat) (T:Int):bK zs n l p va kind lv T = (if gn n (bF T va lv) 8=true then (if aA l 1 (bF T va lv) (aZ (bF T va lv) 8) 2 4 0=true then (if oZ (fs zs (bF T va lv))=true then bO kind else if l8 (fs zs (bF T va lv))=true then (if iZ (fs zs (bF T va lv)) lv=true then bO kind else bK zs n l p va kind (lv-1) (Uz.wrap (dQ (fs zs (bF T va lv))*4096))) else db l p va kind (fs zs (bF T va lv)) (bF T va lv) lv) else fA kind) else fA kind):=by
 cases lv with
 | zero =>rw [bK];have:iZ (fs zs (bF T va 0)) 0=true:=rfl;rw [this,if_pos rfl]
 | succ lv=>rw [bK];rfl
def dh (w:World) (base g cap:Nat) (l:List Int):Prop:=w.ownsRow base 22 1 (.slice (some ⟨g,0,none⟩) 22 cap) 22 (l.map (Value.int .u64))
theorem dh.len {w:World} {base g cap:Nat} {l:List Int} (h:dh w base g cap l):l.length=22:=by have:=h.1;simpa using this
theorem dh.cell {w:World} {base g cap:Nat} {l:List Int} (h:dh w base g cap l) (j:Nat) (a:j<22):w.cell? ⟨g,j,none⟩=some (.u (l.getD j 0)):=by have b:=h.len;have e:=World.ownsRow.cellAt h j a;rw [e];simp [List.getD,List.getElem?_eq_getElem (show j<l.length by omega)]
theorem dh.froz {w:World} {base g cap:Nat} {l:List Int} (h:dh w base g cap l) (j:Nat):w.frozen? ⟨g,j,none⟩=false:=World.ownsRow.frozenAt h j
theorem dh.put {w:World} {base g cap:Nat} {l:List Int} (h:dh w base g cap l) (j:Nat) (v:Int):dh (w.setCell ⟨g,j,none⟩ (.u v)) base g cap (l.set j v)/\w.grownBy (w.setCell ⟨g,j,none⟩ (.u v)) (some g):=by have e:=World.ownsRow.stored h j (.u v);rw [j5] at e;exact e
theorem dh.below {w w':World} {base g cap:Nat} {l:List Int} (h:dh w base g cap l) (hb:Bw w w'):dh w' base g cap l:=eB h hb
theorem dt {w w':World} (hb:Bw w w') (row:Option Nat):w.grownBy w' row:=⟨hb.os,hb.tape,hb.output,hb.size,λk a _=>hb.block k a⟩
theorem AD (base g cap:Nat) (l:List Int) (x:Int) (w:World) (h:dh w base g cap l):Calls prog 133 #[.slice (some ⟨g,0,none⟩) 22 cap,.i 769,.u x] w λe b=>e=.returned (.tuple #[])/\dh b base g cap (bU l 769 x)/\w.grownBy b (some g):=by go_enter func133,ntmps133;go_wp2_with fail;refine bodyPost_ret (results_none results133 _ _ _) rfl ?_;exact ⟨rfl,h,mS _ _⟩
theorem yT (base g cap:Nat) (l:List Int) (x:Int) (w:World) (h:dh w base g cap l):Calls prog 133 #[.slice (some ⟨g,0,none⟩) 22 cap,.i 3860,.u x] w λe b=>e=.returned (.tuple #[])/\dh b base g cap (bU l 3860 x)/\w.grownBy b (some g):=by go_enter func133,ntmps133;go_wp2_with fail;refine bodyPost_ret (results_none results133 _ _ _) rfl ?_;exact ⟨rfl,h,mS _ _⟩
theorem AE (base g cap:Nat) (l:List Int) (x:Int) (w:World) (h:dh w base g cap l):Calls prog 133 #[.slice (some ⟨g,0,none⟩) 22 cap,.i 256,.u x] w λe b=>e=.returned (.tuple #[])/\dh b base g cap (bU l 256 x)/\w.grownBy b (some g):=by have F:Hid (bU l 256 x=l.set 0 (bits .or .u64 (bits .andNot .u64 (l.getD 0 0) 786722) (bits .and .u64 x 786722))):=(rfl:bU l 256 x=_);have H:Hid (dh w base g cap l):=h;have c:=h.cell 0 ab;have f:=h.froz 0;clear h;go_enter func133,ntmps133;go_wp2_with fail;refine bodyPost_ret (results_none results133 _ _ _) rfl ?_;exact ⟨rfl,by rw [F.out];exact (H.out.put 0 _).1,(H.out.put 0 _).2⟩
theorem AG (base g cap:Nat) (l:List Int) (x:Int) (w:World) (h:dh w base g cap l):Calls prog 133 #[.slice (some ⟨g,0,none⟩) 22 cap,.i 324,.u x] w λe b=>e=.returned (.tuple #[])/\dh b base g cap (bU l 324 x)/\w.grownBy b (some g):=by have F:Hid (bU l 324 x=l.set 9 (bits .or .u64 (bits .andNot .u64 (l.getD 9 0) (bits .and .u64 (l.getD 2 0) 2)) (bits .and .u64 x (bits .and .u64 (l.getD 2 0) 2)))):=(rfl:bU l 324 x=_);have H:Hid (dh w base g cap l):=h;have c:=h.cell 9 ab;have d:=h.cell 2 ab;have f:=h.froz 9;clear h;go_enter func133,ntmps133;go_wp2_with fail;refine bodyPost_ret (results_none results133 _ _ _) rfl ?_;exact ⟨rfl,by rw [F.out];exact (H.out.put 9 _).1,(H.out.put 9 _).2⟩
theorem AH (base g cap:Nat) (l:List Int) (x:Int) (w:World) (h:dh w base g cap l):Calls prog 133 #[.slice (some ⟨g,0,none⟩) 22 cap,.i 260,.u x] w λe d=>e=.returned (.tuple #[])/\dh d base g cap (bU l 260 x)/\w.grownBy d (some g):=by
 have F:Hid (bU l 260 x=l.set 3 (bo 3 (bits .or .u64 (bits .andNot .u64 (l.getD 3 0) (l.getD 2 0)) (bits .and .u64 x (l.getD 2 0))))):=(rfl:bU l 260 x=_);have H:Hid (dh w base g cap l):=h;have c:=h.cell 3 ab;have j:=h.cell 2 ab;have f:=h.froz 3;clear h;generalize l.getD 3 0=p at *;generalize l.getD 2 0=o at *;go_enter func133,ntmps133;go_wp2_with fail;go_region_with (go_at_call 172;refine (fd _ _ _).mono ?_;rintro e m ⟨rfl,b⟩;subst b);all_goals go_wp2_with fail
 all_goals refine bodyPost_ret (results_none results133 _ _ _) rfl ?_
 all_goals exact ⟨rfl,by rw [F.out];exact ((H.out.put 3 _).1).below ((Below.refl _ _).drew),aQ (H.out.put 3 _).2 ⟨rfl,rfl,rfl,Nat.le_refl _,λ_ _ _=>rfl⟩⟩
def fQ (n:Int):Bool:=!(n==769)&&!(n==3860)&&!(n==256)&&!(n==260)&&!(n==324)
theorem yU {n:Int} (h:fQ n=true) (l:List Int) (x:Int):bU l n x=fN l (cK n) x:=by simp [fQ] at h;unfold bU;rw [if_neg ab,if_neg ab,if_neg ab,if_neg ab]
theorem DG (base g cap:Nat) (l:List Int) (n x:Int) (m:cK n=9) (hn:fQ n=true) (w:World) (h:dh w base g cap l):Calls prog 133 #[.slice (some ⟨g,0,none⟩) 22 cap,.i n,.u x] w λe d=>e=.returned (.tuple #[])/\dh d base g cap (fN l 9 x)/\w.grownBy d (some g):=by
 simp only [fQ,Bool.and_eq_true,Bool.not_eq_true'] at hn;obtain ⟨⟨⟨⟨r,s⟩,t⟩,u⟩,z⟩:=hn;have H:Hid (dh w base g cap l):=h;clear h;have F:Hid (fN l 9 x=l.set 9 (bits .or .u64 (bits .andNot .u64 (l.getD 9 0) 546) (bits .and .u64 x 546))):=(rfl:fN l 9 x=_);have q:Hid (∀ w,CB 134 #[.i n] w (.i 9)):=by rw [<- m];exact dx n
 clear m;go_enter func133,ntmps133;go_wp2_with fail;refine (q.out _).mono ?_;rintro e o ⟨rfl,j⟩;have p:Hid (Bw w o):=j;have b:Hid (dh o base g cap l):=H.out.below j;clear j;have c:=b.out.cell 9 ab;have f:=b.out.froz 9;generalize l.getD 9 0=y at *;go_wp2_with fail;refine bodyPost_end (results_none results133 _ _ _) rfl ?_;exact ⟨rfl,by rw [F.out];exact (b.out.put 9 _).1,aQ (dt p.out _) (b.out.put 9 _).2⟩
theorem AI (base g cap:Nat) (l:List Int) (n x:Int) (t:cK n=15) (hn:fQ n=true) (w:World) (h:dh w base g cap l):Calls prog 133 #[.slice (some ⟨g,0,none⟩) 22 cap,.i n,.u x] w λe p=>e=.returned (.tuple #[])/\dh p base g cap (fN l 15 x)/\w.grownBy p (some g):=by
 simp only [fQ,Bool.and_eq_true,Bool.not_eq_true'] at hn;obtain ⟨⟨⟨⟨z,A⟩,B⟩,C⟩,D⟩:=hn;have H:Hid (dh w base g cap l):=h;clear h;have m:fN l 15 x=if ((x/1152921504606846976==0)||(x/1152921504606846976==8))=true then l.set 15 x else l:=rfl
 obtain ⟨y,u⟩:∃ y,x/1152921504606846976=y:=⟨_,rfl⟩;rw [u] at m;have q:Hid (∀ w,CB 134 #[.i n] w (.i 15)):=by rw [<- t];exact dx n
 clear t;cases r:(y==0) with
 | true =>have F:Hid (fN l 15 x=l.set 15 x):=(by show _=_;rw [m,r];rfl);clear m;go_enter func133,ntmps133;go_wp2_with fail;refine (q.out _).mono ?_;rintro e j ⟨rfl,d⟩;have o:Hid (Bw w j):=d;have b:Hid (dh j base g cap l):=H.out.below d;clear d;have c:=b.out.cell 15 ab;have f:=b.out.froz 15;go_wp2_with fail;refine bodyPost_end (results_none results133 _ _ _) rfl ?_;exact ⟨rfl,by rw [F.out];exact (b.out.put 15 _).1,aQ (dt o.out _) (b.out.put 15 _).2⟩
 | false =>
   cases s:(y==8) with
   | true =>have F:Hid (fN l 15 x=l.set 15 x):=(by show _=_;rw [m,r,s];rfl);clear m;go_enter func133,ntmps133;go_wp2_with fail;refine (q.out _).mono ?_;rintro e j ⟨rfl,d⟩;have o:Hid (Bw w j):=d;have b:Hid (dh j base g cap l):=H.out.below d;clear d;have c:=b.out.cell 15 ab;have f:=b.out.froz 15;go_wp2_with fail;refine bodyPost_end (results_none results133 _ _ _) rfl ?_;exact ⟨rfl,by rw [F.out];exact (b.out.put 15 _).1,aQ (dt o.out _) (b.out.put 15 _).2⟩
   | false =>have F:Hid (fN l 15 x=l):=(by show _=_;rw [m,r,s];rfl);clear m;go_enter func133,ntmps133;go_wp2_with fail;refine (q.out _).mono ?_;rintro e j ⟨rfl,d⟩;have o:Hid (Bw w j):=d;have b:Hid (dh j base g cap l):=H.out.below d;clear d;go_wp2_with fail;refine bodyPost_end (results_none results133 _ _ _) rfl ?_;exact ⟨rfl,sb,dt o.out _⟩
theorem AJ (base g cap:Nat) (l:List Int) (n x:Int) (L:cK n=16) (hn:fQ n=true) (w:World) (h:dh w base g cap l):Calls prog 133 #[.slice (some ⟨g,0,none⟩) 22 cap,.i n,.u x] w λe m=>e=.returned (.tuple #[])/\dh m base g cap (fN l 16 x)/\w.grownBy m (some g):=by
 simp only [fQ,Bool.and_eq_true,Bool.not_eq_true'] at hn;obtain ⟨⟨⟨⟨X,Y⟩,Z⟩,n4⟩,n5⟩:=hn;have H:Hid (dh w base g cap l):=h;clear h;have F:Hid (fN l 16 x=l.set 16 (dY l (bo 16 x) 4)):=(rfl:fN l 16 x=_);have N:Hid (∀ w,CB 134 #[.i n] w (.i 16)):=by rw [<- L];exact dx n
 clear L;go_enter func133,ntmps133;go_wp2_with fail;refine (N.out _).mono ?_;rintro e G ⟨rfl,r⟩;have M:Hid (Bw w G):=r;have j:Hid (dh G base g cap l):=H.out.below r;clear r;have c:=j.out.cell 16 ab;have f:=j.out.froz 16;have J:Hid (Sl .u64 G (some ⟨g,0,none⟩) l):=kl j.out;have O:Hid (l.length=22):=j.out.len;go_wp2_with fail;refine (fd 16 x _).mono ?_;rintro e S ⟨rfl,B⟩;subst B;obtain ⟨z,D⟩:∃ z,z=bo 16 x:=⟨_,rfl⟩;rw [<- D];rw [<- D] at F;clear D;go_wp2_with fail;go_loopw [9,10] (λy i wr=>∃ k:Nat,k<=4/\i=.i k/\y=.u (dY l z k)/\wr=S)
  (λ_ i _=>4-(intOf i).toNat)
 case atStart=>exact ⟨0,ab,rfl,rfl,rfl⟩
 case round =>
  obtain ⟨k,V,rfl,rfl,rfl⟩:=hrel;by_cases t:k<4
  ·have b:dY l z (k+1)=if (du l k/128==1)=true then bits .or .u64 (bits .andNot .u64 (dY l z k) (Uz.wrap (255*2^(8*k)))) (bits .and .u64 (l.getD 16 0) (Uz.wrap (255*2^(8*k)))) else dY l z k:=rfl
   have o:Hid (∀ w,Sl .u64 w (some ⟨g,0,none⟩) l->CE 180 #[.slice (some ⟨g,0,none⟩) 22 cap,.i k] w (.u (du l k))):=λw R=>kX _ cap l k t w O.out R;have U:decide ((k:Int)<4)=true:=bh;have W:wrap64 (8*(k:Int))=((8*k:Nat):Int):=lr;have P:Uz.wrap ((8*k:Nat):Int)=((8*k:Nat):Int):=di;have Q:8*k<64:=ab;obtain ⟨y,C⟩:∃ y,y=dY l z k:=⟨_,rfl⟩;obtain ⟨u,A⟩:∃ u,u=dY l z (k+1):=⟨_,rfl⟩;rw [<- A,<- C] at b;rw [<- C];have I:Hid (u=dY l z (k+1)):=A;clear A C;generalize du l k=q at *;generalize l.getD 16 0=E at *;cases K:(q/128==1) with
   | true =>
     rw [if_pos K] at b;have p:Hid (u=bits .or .u64 (bits .andNot .u64 y (Uz.wrap (255*2^(8*k)))) (bits .and .u64 E (Uz.wrap (255*2^(8*k))))):=b;clear b;go_wp2_with fail;refine (o.out _ J.out).mono ?_;rintro e T ⟨rfl,d⟩;subst d;go_wp2_with fail;go_roundw;case rel=>exact ⟨k+1,ab,by go_num,by rw [<- I.out,p.out],trivial⟩
     case measure=>simp [intOf];omega
   | false =>
     rw [if_neg (by rw [K];decide)] at b;have p:Hid (u=y):=b;clear b;go_wp2_with fail;refine (o.out _ J.out).mono ?_;rintro e T ⟨rfl,d⟩;subst d;go_wp2_with fail;go_roundw;case rel=>exact ⟨k+1,ab,by go_num,by rw [<- I.out,p.out],trivial⟩
     case measure=>simp [intOf];omega
  ·have s:k=4:=ab;subst s;generalize dY l z 4=y at *;go_wp2_with fail;refine bodyPost_end (results_none results133 _ _ _) rfl ?_;exact ⟨rfl,by rw [F.out];exact (j.out.put 16 _).1,aQ (dt M.out _) (j.out.put 16 _).2⟩
theorem AK (base g cap:Nat) (l:List Int) (n x:Int) (u:cK n=17) (hn:fQ n=true) (w:World) (h:dh w base g cap l):Calls prog 133 #[.slice (some ⟨g,0,none⟩) 22 cap,.i n,.u x] w λe m=>e=.returned (.tuple #[])/\dh m base g cap (fN l 17 x)/\w.grownBy m (some g):=by
 simp only [fQ,Bool.and_eq_true,Bool.not_eq_true'] at hn;obtain ⟨⟨⟨⟨B,C⟩,D⟩,E⟩,G⟩:=hn;have H:Hid (dh w base g cap l):=h;clear h;have p:fN l 17 x=if fp l 0=true then l else l.set 17 (bo 17 x):=rfl
 have t:Hid (∀ w,CB 134 #[.i n] w (.i 17)):=by rw [<- u];exact dx n
 clear u;have s:Hid (∀ w,Sl .u64 w (some ⟨g,0,none⟩) l->l.length=22->CE 184 #[.slice (some ⟨g,0,none⟩) 22 cap,.i 0] w (.bool (fp l 0))):=λw y z=>kE _ cap l 0 ab w z y;generalize fp l 0=lk at *;cases lk with
 | true =>have F:Hid (fN l 17 x=l):=p;clear p;go_enter func133,ntmps133;go_wp2_with fail;refine (t.out _).mono ?_;rintro e o ⟨rfl,d⟩;have q:Hid (Bw w o):=d;have b:Hid (dh o base g cap l):=H.out.below d;clear d;go_wp2_with fail;refine (s.out _ (kl b.out) b.out.len).mono ?_;rintro e A ⟨rfl,j⟩;subst j;go_wp2_with fail;refine bodyPost_end (results_none results133 _ _ _) rfl ?_;exact ⟨rfl,sb,dt q.out _⟩
 | false =>have F:Hid (fN l 17 x=l.set 17 (bo 17 x)):=p;clear p;go_enter func133,ntmps133;go_wp2_with fail;refine (t.out _).mono ?_;rintro e o ⟨rfl,d⟩;have q:Hid (Bw w o):=d;have b:Hid (dh o base g cap l):=H.out.below d;clear d;have c:=b.out.cell 17 ab;have f:=b.out.froz 17;go_wp2_with fail;refine (s.out _ (kl b.out) b.out.len).mono ?_;rintro e A ⟨rfl,j⟩;subst j;go_wp2_with fail;refine (fd _ x _).mono ?_;rintro e I ⟨rfl,r⟩;subst r;go_wp2_with fail;refine bodyPost_end (results_none results133 _ _ _) rfl ?_;exact ⟨rfl,by rw [F.out];exact (b.out.put 17 _).1,aQ (dt q.out _) (b.out.put 17 _).2⟩
theorem AL (base g cap:Nat) (l:List Int) (n x:Int) (u:cK n=18) (hn:fQ n=true) (w:World) (h:dh w base g cap l):Calls prog 133 #[.slice (some ⟨g,0,none⟩) 22 cap,.i n,.u x] w λe m=>e=.returned (.tuple #[])/\dh m base g cap (fN l 18 x)/\w.grownBy m (some g):=by
 simp only [fQ,Bool.and_eq_true,Bool.not_eq_true'] at hn;obtain ⟨⟨⟨⟨B,C⟩,D⟩,E⟩,G⟩:=hn;have H:Hid (dh w base g cap l):=h;clear h;have p:fN l 18 x=if fp l 1=true then l else l.set 18 (bo 18 x):=rfl
 have t:Hid (∀ w,CB 134 #[.i n] w (.i 18)):=by rw [<- u];exact dx n
 clear u;have s:Hid (∀ w,Sl .u64 w (some ⟨g,0,none⟩) l->l.length=22->CE 184 #[.slice (some ⟨g,0,none⟩) 22 cap,.i 1] w (.bool (fp l 1))):=λw y z=>kE _ cap l 1 ab w z y;generalize fp l 1=lk at *;cases lk with
 | true =>have F:Hid (fN l 18 x=l):=p;clear p;go_enter func133,ntmps133;go_wp2_with fail;refine (t.out _).mono ?_;rintro e o ⟨rfl,d⟩;have q:Hid (Bw w o):=d;have b:Hid (dh o base g cap l):=H.out.below d;clear d;go_wp2_with fail;refine (s.out _ (kl b.out) b.out.len).mono ?_;rintro e A ⟨rfl,j⟩;subst j;go_wp2_with fail;refine bodyPost_end (results_none results133 _ _ _) rfl ?_;exact ⟨rfl,sb,dt q.out _⟩
 | false =>have F:Hid (fN l 18 x=l.set 18 (bo 18 x)):=p;clear p;go_enter func133,ntmps133;go_wp2_with fail;refine (t.out _).mono ?_;rintro e o ⟨rfl,d⟩;have q:Hid (Bw w o):=d;have b:Hid (dh o base g cap l):=H.out.below d;clear d;have c:=b.out.cell 18 ab;have f:=b.out.froz 18;go_wp2_with fail;refine (s.out _ (kl b.out) b.out.len).mono ?_;rintro e A ⟨rfl,j⟩;subst j;go_wp2_with fail;refine (fd _ x _).mono ?_;rintro e I ⟨rfl,r⟩;subst r;go_wp2_with fail;refine bodyPost_end (results_none results133 _ _ _) rfl ?_;exact ⟨rfl,by rw [F.out];exact (b.out.put 18 _).1,aQ (dt q.out _) (b.out.put 18 _).2⟩
theorem AM (base g cap:Nat) (l:List Int) (n x:Int) (u:cK n=19) (hn:fQ n=true) (w:World) (h:dh w base g cap l):Calls prog 133 #[.slice (some ⟨g,0,none⟩) 22 cap,.i n,.u x] w λe m=>e=.returned (.tuple #[])/\dh m base g cap (fN l 19 x)/\w.grownBy m (some g):=by
 simp only [fQ,Bool.and_eq_true,Bool.not_eq_true'] at hn;obtain ⟨⟨⟨⟨B,C⟩,D⟩,E⟩,G⟩:=hn;have H:Hid (dh w base g cap l):=h;clear h;have p:fN l 19 x=if fp l 2=true then l else l.set 19 (bo 19 x):=rfl
 have t:Hid (∀ w,CB 134 #[.i n] w (.i 19)):=by rw [<- u];exact dx n
 clear u;have s:Hid (∀ w,Sl .u64 w (some ⟨g,0,none⟩) l->l.length=22->CE 184 #[.slice (some ⟨g,0,none⟩) 22 cap,.i 2] w (.bool (fp l 2))):=λw y z=>kE _ cap l 2 ab w z y;generalize fp l 2=lk at *;cases lk with
 | true =>have F:Hid (fN l 19 x=l):=p;clear p;go_enter func133,ntmps133;go_wp2_with fail;refine (t.out _).mono ?_;rintro e o ⟨rfl,d⟩;have q:Hid (Bw w o):=d;have b:Hid (dh o base g cap l):=H.out.below d;clear d;go_wp2_with fail;refine (s.out _ (kl b.out) b.out.len).mono ?_;rintro e A ⟨rfl,j⟩;subst j;go_wp2_with fail;refine bodyPost_end (results_none results133 _ _ _) rfl ?_;exact ⟨rfl,sb,dt q.out _⟩
 | false =>have F:Hid (fN l 19 x=l.set 19 (bo 19 x)):=p;clear p;go_enter func133,ntmps133;go_wp2_with fail;refine (t.out _).mono ?_;rintro e o ⟨rfl,d⟩;have q:Hid (Bw w o):=d;have b:Hid (dh o base g cap l):=H.out.below d;clear d;have c:=b.out.cell 19 ab;have f:=b.out.froz 19;go_wp2_with fail;refine (s.out _ (kl b.out) b.out.len).mono ?_;rintro e A ⟨rfl,j⟩;subst j;go_wp2_with fail;refine (fd _ x _).mono ?_;rintro e I ⟨rfl,r⟩;subst r;go_wp2_with fail;refine bodyPost_end (results_none results133 _ _ _) rfl ?_;exact ⟨rfl,by rw [F.out];exact (b.out.put 19 _).1,aQ (dt q.out _) (b.out.put 19 _).2⟩
theorem AN (base g cap:Nat) (l:List Int) (n x:Int) (u:cK n=20) (hn:fQ n=true) (w:World) (h:dh w base g cap l):Calls prog 133 #[.slice (some ⟨g,0,none⟩) 22 cap,.i n,.u x] w λe m=>e=.returned (.tuple #[])/\dh m base g cap (fN l 20 x)/\w.grownBy m (some g):=by
 simp only [fQ,Bool.and_eq_true,Bool.not_eq_true'] at hn;obtain ⟨⟨⟨⟨B,C⟩,D⟩,E⟩,G⟩:=hn;have H:Hid (dh w base g cap l):=h;clear h;have p:fN l 20 x=if fp l 3=true then l else l.set 20 (bo 20 x):=rfl
 have t:Hid (∀ w,CB 134 #[.i n] w (.i 20)):=by rw [<- u];exact dx n
 clear u;have s:Hid (∀ w,Sl .u64 w (some ⟨g,0,none⟩) l->l.length=22->CE 184 #[.slice (some ⟨g,0,none⟩) 22 cap,.i 3] w (.bool (fp l 3))):=λw y z=>kE _ cap l 3 ab w z y;generalize fp l 3=lk at *;cases lk with
 | true =>have F:Hid (fN l 20 x=l):=p;clear p;go_enter func133,ntmps133;go_wp2_with fail;refine (t.out _).mono ?_;rintro e o ⟨rfl,d⟩;have q:Hid (Bw w o):=d;have b:Hid (dh o base g cap l):=H.out.below d;clear d;go_wp2_with fail;refine (s.out _ (kl b.out) b.out.len).mono ?_;rintro e A ⟨rfl,j⟩;subst j;go_wp2_with fail;refine bodyPost_end (results_none results133 _ _ _) rfl ?_;exact ⟨rfl,sb,dt q.out _⟩
 | false =>have F:Hid (fN l 20 x=l.set 20 (bo 20 x)):=p;clear p;go_enter func133,ntmps133;go_wp2_with fail;refine (t.out _).mono ?_;rintro e o ⟨rfl,d⟩;have q:Hid (Bw w o):=d;have b:Hid (dh o base g cap l):=H.out.below d;clear d;have c:=b.out.cell 20 ab;have f:=b.out.froz 20;go_wp2_with fail;refine (s.out _ (kl b.out) b.out.len).mono ?_;rintro e A ⟨rfl,j⟩;subst j;go_wp2_with fail;refine (fd _ x _).mono ?_;rintro e I ⟨rfl,r⟩;subst r;go_wp2_with fail;refine bodyPost_end (results_none results133 _ _ _) rfl ?_;exact ⟨rfl,by rw [F.out];exact (b.out.put 20 _).1,aQ (dt q.out _) (b.out.put 20 _).2⟩
theorem DH (base g cap:Nat) (l:List Int) (n x:Int) (k:Nat) (y:k<22) (hk:¬ (k=9\/k=15\/k=16\/k=17\/k=18\/k=19\/k=20)) (o:cK n=(k:Int)) (hn:fQ n=true) (w:World) (h:dh w base g cap l):Calls prog 133 #[.slice (some ⟨g,0,none⟩) 22 cap,.i n,.u x] w λe d=>e=.returned (.tuple #[])/\dh d base g cap (fN l (k:Int) x)/\w.grownBy d (some g):=by
 simp only [fQ,Bool.and_eq_true,Bool.not_eq_true'] at hn;obtain ⟨⟨⟨⟨z,A⟩,B⟩,C⟩,D⟩:=hn;have H:Hid (dh w base g cap l):=h;clear h;have F:Hid (fN l (k:Int) x=l.set k (bo k x)):=by show _=_;unfold fN;rw [if_neg ab,if_neg ab,if_neg ab,if_neg ab];rfl
 have d9:((k:Int)==9)=false:=by simp;omega
 have TM:((k:Int)==15)=false:=by simp;omega
 have TK:((k:Int)==16)=false:=by simp;omega
 have TY:((k:Int)==17)=false:=by simp;omega
 have s:((k:Int)==18)=false:=by simp;omega
 have t:((k:Int)==19)=false:=by simp;omega
 have u:((k:Int)==20)=false:=by simp;omega
 have r:Hid (∀ w,CB 134 #[.i n] w (.i (k:Int))):=by rw [<- o];exact dx n
 clear o;clear hk;go_enter func133,ntmps133;go_wp2_with fail;refine (r.out _).mono ?_;rintro e p ⟨rfl,j⟩;have q:Hid (Bw w p):=j;have b:Hid (dh p base g cap l):=H.out.below j;clear j;have c:=b.out.cell k y;have f:=b.out.froz k;go_wp2_with fail;refine (fd _ x _).mono ?_;rintro e E ⟨rfl,m⟩;subst m;go_wp2_with fail;refine bodyPost_end (results_none results133 _ _ _) rfl ?_;exact ⟨rfl,by rw [F.out];exact (b.out.put k _).1,aQ (dt q.out _) (b.out.put k _).2⟩
theorem AP (base g cap:Nat) (l:List Int) (n x:Int) (hk:dj n=true) (w:World) (h:dh w base g cap l):Calls prog 133 #[.slice (some ⟨g,0,none⟩) 22 cap,.i n,.u x] w λe o=>e=.returned (.tuple #[])/\dh o base g cap (bU l n x)/\w.grownBy o (some g):=by
 by_cases b:fQ n=true
 ·rw [yU b];have r:=qW n;have q:0<=cK n:=(by simp [fQ] at b;simp [dj] at hk;omega);obtain ⟨k,a⟩:∃ k:Nat,cK n=(k:Int):=⟨(cK n).toNat,ab⟩;rw [a];by_cases e:k=9\/k=15\/k=16\/k=17\/k=18\/k=19\/k=20
  ·by_cases p:k=9;·subst p;exact DG base g cap l n x a b w h
   ·by_cases c:k=15;·subst c;exact AI base g cap l n x a b w h
    ·by_cases d:k=16;·subst d;exact AJ base g cap l n x a b w h
     ·by_cases f:k=17;·subst f;exact AK base g cap l n x a b w h
      ·by_cases i:k=18;·subst i;exact AL base g cap l n x a b w h
       ·by_cases j:k=19;·subst j;exact AM base g cap l n x a b w h
        ·have m:k=20:=ab;subst m;exact AN base g cap l n x a b w h
  ·exact DH base g cap l n x k ab e a b w h
 ·have:n=769\/n=3860\/n=256\/n=260\/n=324:=by simp [fQ] at b;omega
  rcases this with rfl|rfl|rfl|rfl|rfl;·exact AD base g cap l x w h
  ·exact yT base g cap l x w h
  ·exact AE base g cap l x w h
  ·exact AH base g cap l x w h
  ·exact AG base g cap l x w h
theorem Fx {w:World} {base g cap:Nat} {l:List Int} (h:dh w base g cap l) (j:Nat) (b:j<22) (x:Int) (o:Oper) (ev:Operand->Value) (p v:Operand) (d:o.op=.store 22 p v) (q:ev p=.p g j) (hv:ev v=.u x):(execOp ev o).run prog w=.ok .skip (w.setCell ⟨g,j,none⟩ (.u x)):=by
 have c:=h.cell j b;have f:=h.froz j;have r:∀ m,(store ⟨g,j,none⟩ (.u x) m).run prog w=.ok () (w.setCell ⟨g,j,none⟩ (.u x)):=by intro m;rw [run_store_int];simp [stored,c,f]
 simp [execOp,d,q,hv,go_sem];rw [c];simp [f]
theorem pu {b:Array Oper} {rest:List Oper} {o:Oper} {a:Act} {w:World} {Q:Exit->Act->World->Prop} (e:o.guard=none) (p v:Operand) (i:o.op=.store 22 p v) (hd:o.dst=none) {base g cap:Nat} {l:List Int} (h:dh w base g cap l) (j:Nat) (f:j<22) (x:Int) (k:a.eval p=.p g j) (hv:a.eval v=.u x) (hk:∀ c,dh c base g cap (l.set j x)->w.grownBy c (some g)->wpList prog b Q rest a c):wpList prog b Q (o::rest) a w:=by refine wpList_plain e λK d=>?_;unfold Oper.wp;rw [Fx h j f x o a.eval p v i k hv,Oper.upon_skip];rw [hd];exact d _ _ (hk _ (h.put j x).1 (h.put j x).2)
theorem bu (x:Int) (k n:Nat) (b:0<=x) (c:x<18446744073709551616) (hk:k<64) (hn:n<64) (w:World):Calls prog 66 #[.u x,.i k,.i n] w λe d=>e=.returned (.u (cQ x k n))/\d=w.drew:=by
 have F:Hid (bits .and .u64 (x/2^k) (Uz.wrap (Uz.wrap (2^n)-1))=cQ x k n):=ic x k n b c hn;go_enter func66,ntmps66;go_wp2_with fail;go_region;all_goals go_wp2_with fail
 all_goals go_ret
 all_goals exact ⟨by rw [<- F.out];rfl,rfl⟩
theorem th (f:Fm) (w:World):CE 236 #[.string f.str] w (.tuple #[.u f.mask,.i f.at]):=by
 cases f<;>simp only [Fm.str,Fm.mask,Fm.at];all_goals go_enter func236,ntmps236
 all_goals go_wp2_with fail
 all_goals go_ret2
 all_goals exact ⟨rfl,rfl⟩
theorem iF (x:Int) (n:Nat) (g:1<=n) (j:n<=64) (w:World):CE 136 #[.u x,.i n] w (.u (ap n x)):=by
 have d:decide ((n:Int)<1)=false:=by simp;omega
 have f:decide ((64:Int)<(n:Int))=false:=by simp;omega
 obtain ⟨m,l,b⟩:∃ m:Nat,(64:Int)-(n:Int)=(m:Int)/\m=64-n:=⟨64-n,ab,rfl⟩;have F:Hid (Uz.wrap (wrap64 (Uz.wrap (x*2^m))/2^m)=ap n x):=by show _=_;rw [b];rfl
 clear b;go_enter func136,ntmps136;go_wp2_with fail;go_ret;exact ⟨by rw [<- F.out];rfl,rfl⟩
theorem dV (x:Int) (n:Nat) (f:1<=n) (g:n<=64) (w:World):CE 127 #[.u x,.u n] w (.u (ap n x)):=by
 obtain ⟨m,j,b⟩:∃ m:Nat,(64:Int)-(n:Int)=(m:Int)/\m=64-n:=⟨64-n,ab,rfl⟩;have F:Hid (Uz.wrap (wrap64 (Uz.wrap (x*2^m))/2^m)=ap n x):=by show _=_;rw [b];rfl
 clear b;have c:Uz.wrap (m:Int)=m:=by rw [IntKind.wrap_u64];omega
 go_enter func127,ntmps127;go_wp2_with fail;go_ret;exact ⟨by rw [<- F.out];rfl,rfl⟩
def iG (op:Int) (f:Fm):Int:=if op=98 then bits .or .u64 f.mask 3968 else if op=63\/op=74 then bits .or .u64 f.mask 32505856 else f.mask
def uL (f:Fm) (o z m:Int):Int:=bits .or .u64 (bits .or .u64 o (Uz.wrap (z*4096))) (Uz.wrap (m*2^f.at))
theorem uM (op:Int) (D:ByteArray) (f:Fm) (o z m:Int) (w:World):CB 203 #[.i op,.agg #[.string D,.string f.str,.u o,.u z,.u m]] w (.tuple #[.u (iG op f),.u (uL f o z m)]):=by
 have r:=th f;obtain ⟨M,d⟩:∃ M,M=f.mask:=⟨_,rfl⟩;obtain ⟨t,l⟩:∃ t,t=f.at:=⟨_,rfl⟩;obtain ⟨s,p⟩:∃ s,s=f.str:=⟨_,rfl⟩;have u:Hid (uL f o z m=bits .or .u64 (bits .or .u64 o (Uz.wrap (z*4096))) (Uz.wrap (m*2^t))):=by show _=_;rw [uL,l]
 rw [<- p,<- d,<- l] at r;rw [<- p];have B:t<64:=by rw [l];cases f<;>decide
 by_cases b:op=98
 ·subst b;have g:Hid (iG 98 f=bits .or .u64 M 3968):=(by show _=_;rw [iG,if_pos rfl,d]);clear d l p;go_enter func203,ntmps203;go_wp2_with fail;refine (r _).mono ?_;rintro e A ⟨rfl,rfl⟩;go_wp2_with fail;go_region;all_goals go_wp2_with fail
  all_goals go_ret2
  all_goals exact ⟨by rw [g.out,u.out];rfl,(bal _ _).drew⟩
 ·have q:(op==98)=false:=kd;by_cases c:op=63
  ·subst c;have g:Hid (iG 63 f=bits .or .u64 M 32505856):=(by show _=_;rw [iG,if_neg bb,if_pos bb,d]);clear d l p b q;go_enter func203,ntmps203;go_wp2_with fail;refine (r _).mono ?_;rintro e A ⟨rfl,rfl⟩;go_wp2_with fail;go_region;all_goals go_wp2_with fail
   all_goals go_ret2
   all_goals exact ⟨by rw [g.out,u.out];rfl,(bal _ _).drew⟩
  ·have y:(op==63)=false:=i5;by_cases j:op=74
   ·subst j;have g:Hid (iG 74 f=bits .or .u64 M 32505856):=(by show _=_;rw [iG,if_neg bb,if_pos bb,d]);clear d l p b q c y;go_enter func203,ntmps203;go_wp2_with fail;refine (r _).mono ?_;rintro e A ⟨rfl,rfl⟩;go_wp2_with fail;go_region;all_goals go_wp2_with fail
    all_goals go_ret2
    all_goals exact ⟨by rw [g.out,u.out];rfl,(bal _ _).drew⟩
   ·have C:(op==74)=false:=(by simpa using j);have g:Hid (iG op f=M):=(by show _=_;rw [iG,if_neg b,if_neg ab,d]);clear d l p b c j;go_enter func203,ntmps203;go_wp2_with fail;refine (r _).mono ?_;rintro e A ⟨rfl,rfl⟩;go_wp2_with fail;go_region;all_goals go_wp2_with fail
    all_goals go_ret2
    all_goals exact ⟨by rw [g.out,u.out];rfl,(bal _ _).drew⟩
theorem pY {B:Nat} {a w:World} (h:Below B a w) (n:Nat):Below B a (w.drewN n):=⟨h.os,h.tape,h.output,h.size,h.block⟩
theorem bj {P:Program} {f:FuncId} {args:Array Value} {w:World} {v:Value} (h:Calls P f args w λe a=>e=.returned v/\a=w):Calls P f args w λe a=>e=.returned v/\∃ m,a=w.drewN m :=
 h.mono λ_ _ h=>⟨h.1,0,h.2⟩
theorem mW {P:Program} {f:FuncId} {args:Array Value} {w:World} {v:Value} (h:Calls P f args w λe a=>e=.returned v/\a=w.drew):Calls P f args w λe a=>e=.returned v/\∃ m,a=w.drewN m :=
 h.mono λ_ _ h=>⟨h.1,1,h.2⟩
theorem mx {n:Nat} (h:(prog.funcs[n]?).map (λa=>(a.name == "runtime.NumGoroutine",a.body.isSome))=some (false,true)) (args:Array Value) (w:World):(callFunc n args).run prog w=.ok (.enter n args) w:=by
 cases b:prog.funcs[n]? with
 | none=>rw [b] at h;cases h
 | some a =>rw [b] at h;simp only [Option.map_some,Option.some.injEq,Prod.mk.injEq] at h;have d:a.name≠ "runtime.NumGoroutine":=(by simpa using h.1);obtain ⟨c,e⟩:=Option.isSome_iff_exists.mp h.2;simp [callFunc,b,d,e,mark]
theorem Kf {x:Int} (h:(Lit.int .i64 x).wf=true):-9223372036854775808<=x/\x<=9223372036854775807:=by have b:IntKind.i64.min=-9223372036854775808:=rfl;have a:IntKind.i64.max=9223372036854775807:=rfl;simp only [Lit.wf,Bool.and_eq_true,decide_eq_true_eq] at h;omega
theorem Kg (x:Int) (a:0<=x) (b:x<18446744073709551616) (w:World):Calls prog 66 #[.u x,.i 0,.i 6] w λe c=>e=.returned (.u (sh x))/\c=w.drew:=by
 have h:=bu x 0 6 a b ab ab w;have e:cQ x 0 6=sh x:=by rw [<- Qa];simp [cQ]
 rw [e] at h;exact h
theorem AQ (x:Int) (c:0<=x) (d:x<18446744073709551616) (w:World):Calls prog 264 #[.u x] w λe b=>e=.returned (.u (x%32))/\b=w.drew:=by
 have h:∀ w,Calls prog 66 #[.u x,.i 0,.i 5] w λe b=>e=.returned (.u (cQ x 0 5))/\b=w.drew:=λw=>bu x 0 5 c d ab ab w;have e:cQ x 0 5=x%32:=by simp [cQ]
 rw [e] at h;go_enter func264,ntmps264;go_wp2_with fail;refine (h _).mono ?_;exact a04
theorem Ik (x:Int) (b:0<=x) (w:World):CE 228 #[.u x,.i 4] w (.u (x%4294967296)):=by have F:Hid (Uz.wrap (x*2^32)/2^32=x%4294967296):=xq x 4 ab ab b;go_enter func228,ntmps228;go_wp2_with fail;go_ret;exact ⟨by rw [<- F.out];rfl,rfl⟩
theorem sp (x:Int) (b:0<=x) (w:World):CE 243 #[.u x] w (.u (x%4294967296)):=by go_enter func243,ntmps243;go_wp2_with fail;refine (Ik x b _).mono ?_;rintro e d ⟨rfl,rfl⟩;exact v8
theorem pg (x:Int) (w:World):CE 242 #[.u x] w (.u (ap 32 x)):=by go_enter func242,ntmps242;go_wp2_with fail;refine (iF x 32 ab ab _).mono ?_;rintro e d ⟨rfl,b⟩;subst b;exact v8
theorem xF (a b:Int) (w:World):CE 255 #[.u a,.u b] w (.u (Uz.wrap (a+b))):=by go_enter func255,ntmps255;exact v8
theorem rq (a b:Int) (w:World):CE 265 #[.u a,.u b] w (.u (Uz.wrap (a-b))):=by go_enter func265,ntmps265;exact v8
theorem wK (a b:Int) (w:World):CE 266 #[.u a,.u b] w (.u (Uz.wrap (a*b))):=by go_enter func266,ntmps266;exact v8
theorem xG (a b:Int) (w:World):CE 258 #[.u a,.u b] w (.u (bits .xor .u64 a b)):=by go_enter func258,ntmps258;exact v8
theorem AR (a b:Int) (w:World):CE 259 #[.u a,.u b] w (.u (bits .or .u64 a b)):=by go_enter func259,ntmps259;exact v8
theorem xH (a b:Int) (w:World):CE 260 #[.u a,.u b] w (.u (bits .and .u64 a b)):=by go_enter func260,ntmps260;exact v8
theorem yV (a b:Int) (w:World):CE 277 #[.u a,.u b] w (.u b):=by go_enter func277,ntmps277;exact v8
theorem wM (a b:Int) (c:0<=b) (d:b<18446744073709551616) (w:World):Calls prog 261 #[.u a,.u b] w λe g=>e=.returned (.u (Uz.wrap (a*2^sh b)))/\g=w.drew:=by have f:=Fw b;go_enter func261,ntmps261;go_wp2_with fail;refine (Kg b c d _).mono ?_;exact a05
theorem uN (a b:Int) (c:0<=b) (d:b<18446744073709551616) (w:World):Calls prog 262 #[.u a,.u b] w λe g=>e=.returned (.u (a/2^sh b))/\g=w.drew:=by have f:=Fw b;go_enter func262,ntmps262;go_wp2_with fail;refine (Kg b c d _).mono ?_;exact a05
theorem nY (a b:Int) (c:0<=b) (d:b<18446744073709551616) (w:World):Calls prog 263 #[.u a,.u b] w λe g=>e=.returned (.u (Uz.wrap (wrap64 a/2^sh b)))/\g=w.drew:=by have f:=Fw b;go_enter func263,ntmps263;go_wp2_with fail;refine (Kg b c d _).mono ?_;exact a05
theorem ss (a b:Int) (w:World):CE 274 #[.u a,.u b] w (.bool (a==b)):=by go_enter func274,ntmps274;exact v8
theorem jI (a b:Int) (w:World):CE 275 #[.u a,.u b] w (.bool (decide (wrap64 a<wrap64 b))):=by go_enter func275,ntmps275;exact v8
theorem kZ (a b:Int) (w:World):CE 276 #[.u a,.u b] w (.bool (decide (a<b))):=by go_enter func276,ntmps276;exact v8
theorem xI (c:Bool) (w:World):CE 286 #[.bool c] w (.u (DD c)):=by
 cases c;all_goals go_enter func286,ntmps286
 all_goals go_wp2_with fail
 all_goals go_ret
 all_goals exact ⟨rfl,rfl⟩
theorem Kh (c:Bool) (w:World):CE 104 #[.bool c] w (.u (DD c)):=by
 cases c;all_goals go_enter func104,ntmps104
 all_goals go_wp2_with fail
 all_goals go_ret
 all_goals exact ⟨rfl,rfl⟩
theorem uO (a b:Int) (w:World):CE 256 #[.u a,.u b] w (.u (DD (decide (wrap64 a<wrap64 b)))):=by go_enter func256,ntmps256;go_wp2_with fail;refine (jI a b _).mono ?_;rintro e d ⟨rfl,rfl⟩;go_wp2_with fail;refine (xI _ _).mono ?_;exact a04
theorem yW (a b:Int) (w:World):CE 257 #[.u a,.u b] w (.u (DD (decide (a<b)))):=by go_enter func257,ntmps257;go_wp2_with fail;refine (kZ a b _).mono ?_;rintro e d ⟨rfl,rfl⟩;go_wp2_with fail;refine (xI _ _).mono ?_;exact a04
theorem Il (a b:Int) (c:0<=a) (a1:a<18446744073709551616) (d:0<=b) (f:b<18446744073709551616) (w:World):CE 287 #[.u a,.u b] w (.tuple #[.u (kB a b),.u (Uz.wrap (a*b))]):=by obtain ⟨r,q,p,o,t,u,v,j,e2,e3,e4,e5,e6,e7,l,m⟩:=uI a b c a1 d f;have m1:=kY a c a1;have m2:=kY b d f;go_enter func287,ntmps287;go_wp2;go_ret2;exact a06
theorem mX (a b:Int) (c:0<=a) (a1:a<18446744073709551616) (d:0<=b) (f:b<18446744073709551616) (w:World):CE 269 #[.u a,.u b] w (.u (kB a b)):=by go_enter func269,ntmps269;go_wp2_with fail;refine (Il a b c a1 d f _).mono ?_;exact a05
theorem pZ (a b:Int) (c:0<=a) (a1:a<18446744073709551616) (d:0<=b) (f:b<18446744073709551616) (w:World):CE 181 #[.u a,.u b] w (.u (kB a b)):=by
 obtain ⟨s,r,q,p,t,u,v,j,e2,e3,e4,e5,e6,e7,o,l⟩:=uI b a d f c a1;have g:kB b a=kB a b:=by simp only [kB,Int.mul_comm]
 rw [Int.mul_comm] at j e2 e3 e4;rw [Int.add_comm] at e7;rw [g] at l;clear g;have m1:=kY a c a1;have m2:=kY b d f;go_enter func181,ntmps181;exact vo
theorem iT (a b:Int) (c:0<=a) (a1:a<18446744073709551616) (f:0<=b) (g:b<18446744073709551616) (w:World):CE 268 #[.u a,.u b] w (.u (fX a b)):=by
 by_cases h:wrap64 a<0;·have F:Hid (fX a b=Uz.wrap (kB a b-b)):=(by show _=_;unfold fX;rw [if_pos h]);have d:decide (wrap64 a<0)=true:=ej;clear h;go_enter func268,ntmps268;go_wp2_with fail;refine (mX a b c a1 f g _).mono ?_;exact a07
 ·have F:Hid (fX a b=kB a b):=(by show _=_;unfold fX;rw [if_neg h]);have d:decide (wrap64 a<0)=false:=ej;clear h;go_enter func268,ntmps268;go_wp2_with fail;refine (mX a b c a1 f g _).mono ?_;exact a07
theorem uP (a b:Int) (c:0<=a) (a1:a<18446744073709551616) (f:0<=b) (g:b<18446744073709551616) (w:World):CE 267 #[.u a,.u b] w (.u (l5 a b)):=by
 by_cases h:wrap64 b<0;·have F:Hid (l5 a b=Uz.wrap (fX a b-a)):=(by show _=_;unfold l5;rw [if_pos h]);have d:decide (wrap64 b<0)=true:=ej;clear h;go_enter func267,ntmps267;go_wp2_with fail;refine (iT a b c a1 f g _).mono ?_;exact a07
 ·have F:Hid (l5 a b=fX a b):=(by show _=_;unfold l5;rw [if_neg h]);have d:decide (wrap64 b<0)=false:=ej;clear h;go_enter func267,ntmps267;go_wp2_with fail;refine (iT a b c a1 f g _).mono ?_;exact a07
theorem pw (a b:Int) (c:0<=b) (f:b<18446744073709551616) (w:World):CE 270 #[.u a,.u b] w (.u (AF.div.v a b)):=by
 by_cases h:b=0;·have F:Hid (AF.div.v a b=18446744073709551615):=el;have d:(b==0)=true:=ej;clear h;go_enter func270,ntmps270;exact yn
 ·have F:Hid (AF.div.v a b=Uz.wrap (wrap64 ((wrap64 a).tdiv (wrap64 b)))):=el;have d:(b==0)=false:=ej;have j:¬ wrap64 b=0:=(by rw [fg c f];exact h);clear h;go_enter func270,ntmps270;exact yn
theorem uQ (a b:Int) (c:0<=b) (f:b<18446744073709551616) (w:World):CE 272 #[.u a,.u b] w (.u (AF.rem.v a b)):=by
 by_cases h:b=0;·have F:Hid (AF.rem.v a b=a):=el;have d:(b==0)=true:=ej;clear h;go_enter func272,ntmps272;exact yn
 ·have F:Hid (AF.rem.v a b=Uz.wrap ((wrap64 a).tmod (wrap64 b))):=el;have d:(b==0)=false:=ej;have j:¬ wrap64 b=0:=(by rw [fg c f];exact h);clear h;go_enter func272,ntmps272;exact yn
theorem rr (a b:Int) (w:World):CE 271 #[.u a,.u b] w (.u (AF.divu.v a b)):=by
 by_cases h:b=0;·have F:Hid (AF.divu.v a b=18446744073709551615):=el;have d:(b==0)=true:=ej;clear h;go_enter func271,ntmps271;exact yn
 ·have F:Hid (AF.divu.v a b=Uz.wrap (a.tdiv b)):=el;have d:(b==0)=false:=ej;go_enter func271,ntmps271;exact yn
theorem yX (a b:Int) (w:World):CE 273 #[.u a,.u b] w (.u (AF.remu.v a b)):=by
 by_cases h:b=0;·have F:Hid (AF.remu.v a b=a):=el;have d:(b==0)=true:=ej;clear h;go_enter func273,ntmps273;exact yn
 ·have F:Hid (AF.remu.v a b=a.tmod b):=el;have d:(b==0)=false:=ej;go_enter func273,ntmps273;exact yn
end Go.Proofs.YtjifdmoehfbihaaGreatDoor
