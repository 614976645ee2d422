/- Own lemmas. -/
import Derived.Test.YtlidafnochnddaaGreatDoorAut
import Derived.Test.YtlidafnochnddaaGreatDoorK03
set_option maxRecDepth 100000
set_option maxHeartbeats 6400000
namespace Go.Proofs.YtlidafnochnddaaGreatDoor
open Go.RowKit Tryz
open IntKind renaming u64->Uz
open Bool renaming and_eq_false_iff->H8
open Go renaming results_tmp3->A0,bodyPost_ret->A5,bits->A6,World->F0,Value->F3,bodyPost->G3,heap_alloc_new->H1
open Go.RowKit renaming wrap64->I4
open IntKind renaming wrap_u64->H2
open Or renaming inr->H3,inl->H5
open Value renaming int->I5
set_option linter.unusedVariables false
variable {x:Nat} {w s:F3} {b:F0} {k:List Int} (f:Fm) (c:ByteArray) (y a:F0) (l:Int) (m r:Nat) (e:List Int) (n:jK)
def St (s:ByteArray) (b:Nat) (c mv:F3) (sign acc r:Int) (a:Act):Prop :=
 a.defers=[]/\a.tmps.size=58/\a.tmps.toList.take 11=[.string s,undef,.string ⟨#[]⟩,.slice none 0 0,.bool false,.p b 0,c,mv,.i sign,.i acc,.int .i32 r]
theorem Ir:∀ (n:Nat) (L:List F3),L.length=n->L=(List.range n).map (λk=>L.getD k undef):=by
 intro n L h;apply List.ext_getElem;·simp [h]
 ·intro i a b;simp [List.getD,List.getElem?_eq_getElem a]
theorem St.open {mv:ByteArray} {sign acc r:Int} {a:Act} (h:St mv x w s sign acc r a):∃ U:Nat->F3,a={tmps:=#[.string mv,undef,.string ⟨#[]⟩,.slice none 0 0,.bool false,.p x 0,w,s,.i sign,.i acc,.int .i32 r,U 11,U 12,U 13,U 14,U 15,U 16,U 17,U 18,U 19,U 20,U 21,U 22,U 23,U 24,U 25,U 26,U 27,U 28,U 29,U 30,U 31,U 32,U 33,U 34,U 35,U 36,U 37,U 38,U 39,U 40,U 41,U 42,U 43,U 44,U 45,U 46,U 47,U 48,U 49,U 50,U 51,U 52,U 53,U 54,U 55,U 56,U 57],defers:=[]}:=by
 obtain ⟨t,d⟩:=a;obtain ⟨c,e,f⟩:=h;simp only at c e f;subst c;have j:(t.toList.drop 11).length=47:=by simp [e]
 have g:=Ir 47 _ j;refine ⟨λk=>(t.toList.drop 11).getD (k-11) undef,?_⟩;congr 1;apply Array.toList_inj.1;rw [<- List.take_append_drop 11 t.toList,f];generalize t.toList.drop 11=M at g ⊢;rw [g];rfl
def RJ (s:ByteArray) (w:F0) (g:Nat) (f:jK) (l m:Nat) (a:Act) (wr:F0):Prop :=
 ∃ b d c i h sign e r,St s g i h sign e r a/\ii w g b d c i h wr /\
  ((l=0/\m=2*b.length+3/\c=[]/\d.length+b.length<=1048576/\∀ q,dh (.name b d) q->dh f q) \/
   (l=1/\m=0/\dh f (some (d,c))) \/
   (l=2/\m=2*b.length+1/\c.length+b.length+1<=1048577/\∀ q,dh (.ahead b d c) q->dh f q) \/
   (l=3/\m=2*b.length+(if r=-1 then 0 else 2)/\c.length+b.length+1+(if r=-1 then 0 else 1)<=1048577/\∀ q,dh (.num r b d c sign e) q->dh f q))
def qK (f:jK) (w:F0) (e:Ending) (w':F0):Prop :=
 ∃ a:RdRes,dh f a/\Bw w w'/\((a=none/\e=.returned (.tuple #[.string ⟨#[]⟩,.slice none 0 0,.bool false])) \/
  ∃ d b c,a=some (d,b)/\e=.returned (.tuple #[.string (runesBytes d),c,.bool true])/\w'.ownsRow w.heap.size 2 1 c b.length (b.map (I5 .i64)))
theorem ii.nums {wr:F0} {ns ms:List Int} (h:ii b x k ns ms w s wr):wr.ownsRow b.heap.size 2 1 s ms.length (ms.map (I5 .i64)):=by obtain ⟨f,c,at_,i,d,g⟩:=h;exact d.nu
theorem ii.name {wr:F0} {ns ms:List Int} (h:ii b x k ns ms w s wr):(convert 189 9 w).run prog wr=.ok (.string (runesBytes ns)) wr:=by
 obtain ⟨n,c,at_,q,d,o⟩:=h;rcases d.nm.2 with ⟨a,f⟩|⟨g,cap,i,a,p,_⟩;·have:ns=[]:=List.eq_nil_of_length_eq_zero f;rw [a,this];exact run_convert_runes_nil wr _ _ _ _ _ underlying189 underlying21 underlying9
 ·have e:=d.nm;rw [a] at e ⊢;have:=run_convert_runes (P:=prog) wr 189 9 21 ⟨g,0,none⟩ ns.length cap ns (Nat.le_refl _) underlying189 underlying21 underlying9 (λj m=>e.cells (g:=g) rfl j _ (by simp [List.getD,m]));rw [List.take_length] at this;exact this
theorem cC:2*e.tail.length+(if e.headD (-1)=-1 then 0 else 2)<=2*e.length/\e.tail.length+(if e.headD (-1)=-1 then 0 else 1)<=e.length/\e.tail.length<=e.length/\(e.headD (-1)≠-1->e.tail.length+1=e.length):=by
 cases e with
 | nil=>simp
 | cons a l =>
   simp only [List.tail_cons,List.headD_cons,List.length_cons];by_cases h:a=-1;·simp only [h,if_true];simp;omega
   ·simp only [h,if_false];refine ⟨aa,aa,aa,λ_=>trivial⟩
theorem zR (R0 s:Code) (hc:Tryz.f85.body=some (.seq R0 (.scope s))) (D:Nat) (wr:F0) (b ns ms:List Int) (C mv:F3) (sign acc r:Int) (U:Nat->F3) (K:Hid (ii y m b ns ms C mv wr)) (hm:D=2*b.length+(if r=-1 then 0 else 2)) (A:ms.length+b.length+1+(if r=-1 then 0 else 1)<=1048577) (Z:∀ q,dh (.num r b ns ms sign acc) q->dh n q): ∃ rest,findLabel s 3=some rest/\rest.wp prog (mz (λl' a' w'=>∃ m',m'<D/\RJ c y m n l' m' a' w') (G3 prog Tryz.f85 (qK n y))) {tmps:=#[.string c,undef,.string ⟨#[]⟩,.slice none 0 0,.bool false,.p m 0,C,mv,.i sign,.i acc,.int .i32 r,U 11,U 12,U 13,U 14,U 15,U 16,U 17,U 18,U 19,U 20,U 21,U 22,U 23,U 24,U 25,U 26,U 27,U 28,U 29,U 30,U 31,U 32,U 33,U 34,U 35,U 36,U 37,U 38,U 39,U 40,U 41,U 42,U 43,U 44,U 45,U 46,U 47,U 48,U 49,U 50,U 51,U 52,U 53,U 54,U 55,U 56,U 57],defers:=[]} wr:=by
 cases hc;have I:Hid (∀ q,dh (.num r b ns ms sign acc) q->dh n q):=Z;have L:=A;obtain ⟨u,G⟩:∃ u:jK,u=.num r b ns ms sign acc:=⟨_,rfl⟩;have S:Hid (ap u=bD r b ns ms sign acc):=by rw [G];exact (rfl:_=_)
 rw [<- G] at I;clear G Z A;refine ⟨_,rfl,?_⟩;by_cases B:48<=r/\r<=57;·have hd1:=B.1;have hd2:=B.2;have hw32:wrap32 (r-48)=r-48:=et;have d:¬ r=-1:=aa;rw [JZ9 d] at L;rw [JZ9 d] at hm;have j:Hid (ap u=.inl (.num (b.headD (-1)) b.tail ns ms sign (I4 (I4 (acc*10)+(r-48))))):=(by show _=_;rw [S.out,bD,JZ8 B]);clear B;go_wp2_with fail;refine (K.out.next).mono ?_;rintro e wrn ⟨rfl,V⟩;have M:=cC b;obtain ⟨w,F⟩:∃ w,w=b.headD (-1):=⟨_,rfl⟩;rw [<- F] at M ⊢;have J:Hid (w=b.headD (-1)):=F;clear F;rw [<- J.out] at j;clear J;go_wp2_with fail;go_step3;exact ⟨_,aa,b.tail,ns,ms,C,mv,sign,_,w,⟨rfl,rfl,rfl⟩,V.out,H3 (H3 (H3 ⟨rfl,rfl,l0,λq X=>I.out q (.go j.out X)⟩))⟩
 ·have z:(decide (48<=r)&&decide (r<=57))=false:=by
   rw [H8];by_cases E:48<=r;·right;exact ni
   ·left;exact decide_eq_false E
  have o:Hid (ap u=if r=32 then .inl (.ahead b ns (ms++[I4 (sign*acc)])) else if r=-1 then .inr (some (ns,ms++[I4 (sign*acc)])) else .inr none):=(by show _=_;rw [S.out,bD,JZ9 B]);clear S;obtain ⟨v,Y⟩:∃ v,v=I4 (sign*acc):=⟨_,rfl⟩;have hv':=Y.symm;rw [<- Y] at o;clear Y;have t:ms.length<=1048577:=aa;by_cases E:48<=r;·have h57:¬ r<=57:=λh=>B ⟨E,h⟩;clear B z;have f:¬ r=32:=aa;have d:¬ r=-1:=aa;have O:(r==32)=false:=cb;have P:(r != -1):=(by simpa using d);have j:Hid (ap u=.inr none):=o.out.trans ((JZ9 f).trans (JZ9 d));clear o f;go_wp2_with (at_builtin;refine aj rfl (.tmp 45) (.tmp 49) rfl v rfl rfl K.out t ?_;intro p H g);have l:Hid (ii y m b ns (ms++[v]) C p H):=g;clear g;refine A5 (A0 results85 _ _ _) rfl ⟨none,I.out _ (.stop j.out),l.out.bel,H5 ⟨rfl,rfl⟩⟩
  ·clear B z;by_cases f:r=32;·have O:(r==32):=cb;have j:Hid (ap u=.inl (.ahead b ns (ms++[v]))):=o.out.trans (JZ8 f);have d:¬ r=-1:=aa;rw [JZ9 d] at L;rw [JZ9 d] at hm;clear o f;go_wp2_with (at_builtin;refine aj rfl (.tmp 45) (.tmp 49) rfl v rfl rfl K.out t ?_;intro p H g);have l:Hid (ii y m b ns (ms++[v]) C p H):=g;clear g;go_step3;exact ⟨_,aa,b,ns,(ms++[v]),C,p,sign,acc,r,⟨rfl,rfl,rfl⟩,l.out,H3 (H3 (H5 ⟨rfl,rfl,bb,λq X=>I.out q (.go j.out X)⟩))⟩
   ·have O:(r==32)=false:=cb;by_cases d:r=-1;·have P:(r != -1)=false:=(by simpa using d);have j:Hid (ap u=.inr (some (ns,ms++[v]))):=o.out.trans ((JZ9 f).trans (JZ8 d));clear o f;go_wp2_with (at_builtin;refine aj rfl (.tmp 45) (.tmp 49) rfl v rfl rfl K.out t ?_;intro p H g);have l:Hid (ii y m b ns (ms++[v]) C p H):=g;clear g;have W:=l.out.name;obtain ⟨N,T⟩:∃ N,N=runesBytes ns:=⟨_,rfl⟩;rw [<- T] at W;have R:Hid (N=runesBytes ns):=T;clear T;go_step3;go_wp2_with fail;refine A5 (A0 results85 _ _ _) rfl ⟨some (ns,(ms++[v])),I.out _ (.stop j.out),l.out.bel,H3 ⟨ns,(ms++[v]),p,rfl,by rw [<- R.out];rfl,l.out.nums⟩⟩
    ·have P:(r != -1):=(by simpa using d);have j:Hid (ap u=.inr none):=o.out.trans ((JZ9 f).trans (JZ9 d));clear o f;go_wp2_with (at_builtin;refine aj rfl (.tmp 45) (.tmp 49) rfl v rfl rfl K.out t ?_;intro p H g);have l:Hid (ii y m b ns (ms++[v]) C p H):=g;clear g;refine A5 (A0 results85 _ _ _) rfl ⟨none,I.out _ (.stop j.out),l.out.bel,H5 ⟨rfl,rfl⟩⟩
theorem zS (w s:Code) (A:Tryz.f85.body=some (.seq w (.scope s))) (f:Nat) (wr:F0) (o ns ms:List Int) (t mv:F3) (sign acc r:Int) (U:Nat->F3) (j:Hid (ii y m o ns ms t mv wr)) (hm:f=0) (p:dh n (some (ns,ms))): ∃ rest,findLabel s 1=some rest/\rest.wp prog (mz (λB z C=>∃ q,q<f/\RJ c y m n B q z C) (G3 prog Tryz.f85 (qK n y))) {tmps:=#[.string c,undef,.string ⟨#[]⟩,.slice none 0 0,.bool false,.p m 0,t,mv,.i sign,.i acc,.int .i32 r,U 11,U 12,U 13,U 14,U 15,U 16,U 17,U 18,U 19,U 20,U 21,U 22,U 23,U 24,U 25,U 26,U 27,U 28,U 29,U 30,U 31,U 32,U 33,U 34,U 35,U 36,U 37,U 38,U 39,U 40,U 41,U 42,U 43,U 44,U 45,U 46,U 47,U 48,U 49,U 50,U 51,U 52,U 53,U 54,U 55,U 56,U 57],defers:=[]} wr:=by cases A;have u:Hid (dh n (some (ns,ms))):=p;clear p;refine ⟨_,rfl,?_⟩;have l:=j.out.name;obtain ⟨N,g⟩:∃ N,N=runesBytes ns:=⟨_,rfl⟩;rw [<- g] at l;have d:Hid (N=runesBytes ns):=g;clear g;go_wp2_with fail;refine A5 (A0 results85 _ _ _) rfl ⟨some (ns,ms),u.out,j.out.bel,H3 ⟨ns,ms,mv,rfl,by rw [<- d.out];rfl,j.out.nums⟩⟩
theorem zT (R0 s:Code) (hc:Tryz.f85.body=some (.seq R0 (.scope s))) (R:Nat) (wr:F0) (b ns ms:List Int) (H mv:F3) (sign acc r:Int) (U:Nat->F3) (hR:Hid (ii y m b ns ms H mv wr)) (hm:R=2*b.length+1) (hb:ms.length+b.length+1<=1048577) (hK:∀ q,dh (.ahead b ns ms) q->dh n q): ∃ rest,findLabel s 2=some rest/\rest.wp prog (mz (λl' a' w'=>∃ m',m'<R/\RJ c y m n l' m' a' w') (G3 prog Tryz.f85 (qK n y))) {tmps:=#[.string c,undef,.string ⟨#[]⟩,.slice none 0 0,.bool false,.p m 0,H,mv,.i sign,.i acc,.int .i32 r,U 11,U 12,U 13,U 14,U 15,U 16,U 17,U 18,U 19,U 20,U 21,U 22,U 23,U 24,U 25,U 26,U 27,U 28,U 29,U 30,U 31,U 32,U 33,U 34,U 35,U 36,U 37,U 38,U 39,U 40,U 41,U 42,U 43,U 44,U 45,U 46,U 47,U 48,U 49,U 50,U 51,U 52,U 53,U 54,U 55,U 56,U 57],defers:=[]} wr:=by
 cases hc;have Q:Hid (∀ q,dh (.ahead b ns ms) q->dh n q):=hK;obtain ⟨u,hst⟩:∃ u:jK,u=.ahead b ns ms:=⟨_,rfl⟩;have J:Hid (ap u=cq b ns ms):=by rw [hst];exact (rfl:_=_)
 rw [<- hst] at Q;have hb2:=hb;clear hst hK hb;refine ⟨_,rfl,?_⟩;go_wp2_with fail;refine (hR.out.next).mono ?_;rintro e wra ⟨rfl,S⟩;have X:=cC b;obtain ⟨x,hqx⟩:∃ x,x=b.headD (-1):=⟨_,rfl⟩;rw [<- hqx] at X ⊢;have V:Hid (x=b.headD (-1)):=hqx;clear hqx;by_cases A:x=120
 ·have t120:(x==120):=(by simpa using A);have d:Hid (ap u=bD (b.tail.headD (-1)) b.tail.tail ns ms 1 0):=(by show _=_;rw [J.out,cq,<- V.out,JZ8 A]);have hq0:=X.2.2.2 aa;clear J A;go_wp2_with fail;refine (S.out.next).mono ?_;rintro e wrb ⟨rfl,E⟩;have I:=cC b.tail;obtain ⟨z,T⟩:∃ z,z=b.tail.headD (-1):=⟨_,rfl⟩;rw [<- T] at I ⊢;have Z:Hid (z=b.tail.headD (-1)):=T;clear T;rw [<- Z.out] at d;have J:Hid (ap u=bD z b.tail.tail ns ms 1 0):=d;have L:ms.length+b.tail.tail.length+1+(if z=-1 then 0 else 1)<=1048577:=(by have:=I.2.1;omega);clear d Z V;go_wp2_with fail;go_step3;by_cases C:48<=z/\z<=57;·have hd1:=C.1;have hd2:=C.2;have hw32:wrap32 (z-48)=z-48:=et;have f:¬ z=-1:=aa;rw [JZ9 f] at L;have hqq:=I.2.2.2 f;have d:Hid (ap u=.inl (.num (b.tail.tail.headD (-1)) b.tail.tail.tail ns ms 1 (z-48))):=eh;clear C;go_wp2_with fail;refine (E.out.next).mono ?_;rintro e wrbn ⟨rfl,hRbn⟩;have M:=cC b.tail.tail;obtain ⟨w,F⟩:∃ w,w=b.tail.tail.headD (-1):=⟨_,rfl⟩;rw [<- F] at M ⊢;have K:Hid (w=b.tail.tail.headD (-1)):=F;clear F;rw [<- K.out] at d;clear K;go_wp2_with fail;go_step3;exact ⟨_,aa,b.tail.tail.tail,ns,ms,H,mv,1,_,w,⟨rfl,rfl,rfl⟩,hRbn.out,H3 (H3 (H3 ⟨rfl,rfl,l0,λq hq=>Q.out q (.go d.out hq)⟩))⟩
  ·have B:(decide (48<=z)&&decide (z<=57))=false:=by
    rw [H8];by_cases D:48<=z;·right;exact ni
    ·left;exact decide_eq_false D
   have p:Hid (ap u=if z=32 then .inl (.ahead b.tail.tail ns (ms++[0])) else if z=-1 then .inr (some (ns,ms++[0])) else .inr none):=g5;clear J;have t:ms.length<=1048577:=aa;by_cases D:48<=z;·have h57:¬ z<=57:=λh=>C ⟨D,h⟩;clear C B;have g:¬ z=32:=aa;have f:¬ z=-1:=aa;have O:(z==32)=false:=ck;have P:(z != -1):=cb;have d:Hid (ap u=.inr none):=p.out.trans ((JZ9 g).trans (JZ9 f));clear p g;go_wp2_with (at_builtin;refine aj rfl (.tmp 45) (.tmp 49) rfl 0 rfl rfl E.out t ?_;intro o G j);have l:Hid (ii y m b.tail.tail ns (ms++[0]) H o G):=j;clear j;refine A5 (A0 results85 _ _ _) rfl ⟨none,Q.out _ (.stop d.out),l.out.bel,H5 ⟨rfl,rfl⟩⟩
   ·clear C B;by_cases g:z=32;·have O:(z==32):=ck;have d:Hid (ap u=.inl (.ahead b.tail.tail ns (ms++[0]))):=p.out.trans (JZ8 g);have f:¬ z=-1:=aa;rw [JZ9 f] at L;have hqq:=I.2.2.2 f;clear p g;go_wp2_with (at_builtin;refine aj rfl (.tmp 45) (.tmp 49) rfl 0 rfl rfl E.out t ?_;intro o G j);have l:Hid (ii y m b.tail.tail ns (ms++[0]) H o G):=j;clear j;go_step3;exact ⟨_,aa,b.tail.tail,ns,(ms++[0]),H,o,1,0,z,⟨rfl,rfl,rfl⟩,l.out,H3 (H3 (H5 ⟨rfl,rfl,bb,λq hq=>Q.out q (.go d.out hq)⟩))⟩
    ·have O:(z==32)=false:=ck;by_cases f:z=-1;·have P:(z != -1)=false:=cb;have d:Hid (ap u=.inr (some (ns,ms++[0]))):=p.out.trans ((JZ9 g).trans (JZ8 f));clear p g;go_wp2_with (at_builtin;refine aj rfl (.tmp 45) (.tmp 49) rfl 0 rfl rfl E.out t ?_;intro o G j);have l:Hid (ii y m b.tail.tail ns (ms++[0]) H o G):=j;clear j;have hcv:=l.out.name;obtain ⟨N,hN⟩:∃ N,N=runesBytes ns:=⟨_,rfl⟩;rw [<- hN] at hcv;have Y:Hid (N=runesBytes ns):=hN;clear hN;go_step3;go_wp2_with fail;refine A5 (A0 results85 _ _ _) rfl ⟨some (ns,(ms++[0])),Q.out _ (.stop d.out),l.out.bel,H3 ⟨ns,(ms++[0]),o,rfl,by rw [<- Y.out];rfl,l.out.nums⟩⟩
     ·have P:(z != -1):=cb;have d:Hid (ap u=.inr none):=p.out.trans ((JZ9 g).trans (JZ9 f));clear p g;go_wp2_with (at_builtin;refine aj rfl (.tmp 45) (.tmp 49) rfl 0 rfl rfl E.out t ?_;intro o G j);have l:Hid (ii y m b.tail.tail ns (ms++[0]) H o G):=j;clear j;refine A5 (A0 results85 _ _ _) rfl ⟨none,Q.out _ (.stop d.out),l.out.bel,H5 ⟨rfl,rfl⟩⟩
 ·have t120:(x==120)=false:=(by simpa using A);by_cases W:x=45
  ·have t45:(x==45):=(by simpa using W);have d:Hid (ap u=bD (b.tail.headD (-1)) b.tail.tail ns ms (-1) 0):=(by show _=_;rw [J.out,cq,<- V.out,JZ9 A,JZ8 W]);have hq0:=X.2.2.2 aa;clear J A W;go_wp2_with fail;refine (S.out.next).mono ?_;rintro e wrb ⟨rfl,E⟩;have I:=cC b.tail;obtain ⟨z,T⟩:∃ z,z=b.tail.headD (-1):=⟨_,rfl⟩;rw [<- T] at I ⊢;have Z:Hid (z=b.tail.headD (-1)):=T;clear T;rw [<- Z.out] at d;have J:Hid (ap u=bD z b.tail.tail ns ms (-1) 0):=d;have L:ms.length+b.tail.tail.length+1+(if z=-1 then 0 else 1)<=1048577:=(by have:=I.2.1;omega);clear d Z V;go_wp2_with fail;go_step3;by_cases C:48<=z/\z<=57;·have hd1:=C.1;have hd2:=C.2;have hw32:wrap32 (z-48)=z-48:=et;have f:¬ z=-1:=aa;rw [JZ9 f] at L;have hqq:=I.2.2.2 f;have d:Hid (ap u=.inl (.num (b.tail.tail.headD (-1)) b.tail.tail.tail ns ms (-1) (z-48))):=eh;clear C;go_wp2_with fail;refine (E.out.next).mono ?_;rintro e wrbn ⟨rfl,hRbn⟩;have M:=cC b.tail.tail;obtain ⟨w,F⟩:∃ w,w=b.tail.tail.headD (-1):=⟨_,rfl⟩;rw [<- F] at M ⊢;have K:Hid (w=b.tail.tail.headD (-1)):=F;clear F;rw [<- K.out] at d;clear K;go_wp2_with fail;go_step3;exact ⟨_,aa,b.tail.tail.tail,ns,ms,H,mv,(-1),_,w,⟨rfl,rfl,rfl⟩,hRbn.out,H3 (H3 (H3 ⟨rfl,rfl,l0,λq hq=>Q.out q (.go d.out hq)⟩))⟩
   ·have B:(decide (48<=z)&&decide (z<=57))=false:=by
     rw [H8];by_cases D:48<=z;·right;exact ni
     ·left;exact decide_eq_false D
    have p:Hid (ap u=if z=32 then .inl (.ahead b.tail.tail ns (ms++[0])) else if z=-1 then .inr (some (ns,ms++[0])) else .inr none):=(by show _=_;rw [J.out,bD,JZ9 C,show I4 ((-1)*0)=0 from bw]);clear J;have t:ms.length<=1048577:=aa;by_cases D:48<=z;·have h57:¬ z<=57:=λh=>C ⟨D,h⟩;clear C B;have g:¬ z=32:=aa;have f:¬ z=-1:=aa;have O:(z==32)=false:=ck;have P:(z != -1):=cb;have d:Hid (ap u=.inr none):=p.out.trans ((JZ9 g).trans (JZ9 f));clear p g;go_wp2_with (at_builtin;refine aj rfl (.tmp 45) (.tmp 49) rfl 0 rfl rfl E.out t ?_;intro o G j);have l:Hid (ii y m b.tail.tail ns (ms++[0]) H o G):=j;clear j;refine A5 (A0 results85 _ _ _) rfl ⟨none,Q.out _ (.stop d.out),l.out.bel,H5 ⟨rfl,rfl⟩⟩
    ·clear C B;by_cases g:z=32;·have O:(z==32):=ck;have d:Hid (ap u=.inl (.ahead b.tail.tail ns (ms++[0]))):=p.out.trans (JZ8 g);have f:¬ z=-1:=aa;rw [JZ9 f] at L;have hqq:=I.2.2.2 f;clear p g;go_wp2_with (at_builtin;refine aj rfl (.tmp 45) (.tmp 49) rfl 0 rfl rfl E.out t ?_;intro o G j);have l:Hid (ii y m b.tail.tail ns (ms++[0]) H o G):=j;clear j;go_step3;exact ⟨_,aa,b.tail.tail,ns,(ms++[0]),H,o,(-1),0,z,⟨rfl,rfl,rfl⟩,l.out,H3 (H3 (H5 ⟨rfl,rfl,bb,λq hq=>Q.out q (.go d.out hq)⟩))⟩
     ·have O:(z==32)=false:=ck;by_cases f:z=-1;·have P:(z != -1)=false:=cb;have d:Hid (ap u=.inr (some (ns,ms++[0]))):=p.out.trans ((JZ9 g).trans (JZ8 f));clear p g;go_wp2_with (at_builtin;refine aj rfl (.tmp 45) (.tmp 49) rfl 0 rfl rfl E.out t ?_;intro o G j);have l:Hid (ii y m b.tail.tail ns (ms++[0]) H o G):=j;clear j;have hcv:=l.out.name;obtain ⟨N,hN⟩:∃ N,N=runesBytes ns:=⟨_,rfl⟩;rw [<- hN] at hcv;have Y:Hid (N=runesBytes ns):=hN;clear hN;go_step3;go_wp2_with fail;refine A5 (A0 results85 _ _ _) rfl ⟨some (ns,(ms++[0])),Q.out _ (.stop d.out),l.out.bel,H3 ⟨ns,(ms++[0]),o,rfl,by rw [<- Y.out];rfl,l.out.nums⟩⟩
      ·have P:(z != -1):=cb;have d:Hid (ap u=.inr none):=p.out.trans ((JZ9 g).trans (JZ9 f));clear p g;go_wp2_with (at_builtin;refine aj rfl (.tmp 45) (.tmp 49) rfl 0 rfl rfl E.out t ?_;intro o G j);have l:Hid (ii y m b.tail.tail ns (ms++[0]) H o G):=j;clear j;refine A5 (A0 results85 _ _ _) rfl ⟨none,Q.out _ (.stop d.out),l.out.bel,H5 ⟨rfl,rfl⟩⟩
  ·have t45:(x==45)=false:=(by simpa using W);have d:Hid (ap u=bD x b.tail ns ms 1 0):=(by show _=_;rw [J.out,cq,<- V.out,JZ9 A,JZ9 W]);clear J A W V;have J:Hid (ap u=bD x b.tail ns ms 1 0):=d;have L:ms.length+b.tail.length+1+(if x=-1 then 0 else 1)<=1048577:=(by have:=X.2.1;omega);clear d;go_wp2_with fail;go_step3;by_cases C:48<=x/\x<=57;·have hd1:=C.1;have hd2:=C.2;have hw32:wrap32 (x-48)=x-48:=et;have f:¬ x=-1:=aa;rw [JZ9 f] at L;have hqq:=X.2.2.2 f;have d:Hid (ap u=.inl (.num (b.tail.headD (-1)) b.tail.tail ns ms 1 (x-48))):=(by show _=_;rw [J.out,bD,JZ8 C];rw [show I4 (I4 (0*10)+(x-48))=x-48 from bw]);clear C;go_wp2_with fail;refine (S.out.next).mono ?_;rintro e wran ⟨rfl,hRan⟩;have M:=cC b.tail;obtain ⟨w,F⟩:∃ w,w=b.tail.headD (-1):=⟨_,rfl⟩;rw [<- F] at M ⊢;have K:Hid (w=b.tail.headD (-1)):=F;clear F;rw [<- K.out] at d;clear K;go_wp2_with fail;go_step3;exact ⟨_,aa,b.tail.tail,ns,ms,H,mv,1,_,w,⟨rfl,rfl,rfl⟩,hRan.out,H3 (H3 (H3 ⟨rfl,rfl,l0,λq hq=>Q.out q (.go d.out hq)⟩))⟩
   ·have B:(decide (48<=x)&&decide (x<=57))=false:=by
     rw [H8];by_cases D:48<=x;·right;exact ni
     ·left;exact decide_eq_false D
    have p:Hid (ap u=if x=32 then .inl (.ahead b.tail ns (ms++[0])) else if x=-1 then .inr (some (ns,ms++[0])) else .inr none):=g5;clear J;have t:ms.length<=1048577:=aa;by_cases D:48<=x;·have h57:¬ x<=57:=λh=>C ⟨D,h⟩;clear C B;have g:¬ x=32:=aa;have f:¬ x=-1:=aa;have O:(x==32)=false:=ck;have P:(x != -1):=cb;have d:Hid (ap u=.inr none):=p.out.trans ((JZ9 g).trans (JZ9 f));clear p g;go_wp2_with (at_builtin;refine aj rfl (.tmp 45) (.tmp 49) rfl 0 rfl rfl S.out t ?_;intro o G j);have l:Hid (ii y m b.tail ns (ms++[0]) H o G):=j;clear j;refine A5 (A0 results85 _ _ _) rfl ⟨none,Q.out _ (.stop d.out),l.out.bel,H5 ⟨rfl,rfl⟩⟩
    ·clear C B;by_cases g:x=32;·have O:(x==32):=ck;have d:Hid (ap u=.inl (.ahead b.tail ns (ms++[0]))):=p.out.trans (JZ8 g);have f:¬ x=-1:=aa;rw [JZ9 f] at L;have hqq:=X.2.2.2 f;clear p g;go_wp2_with (at_builtin;refine aj rfl (.tmp 45) (.tmp 49) rfl 0 rfl rfl S.out t ?_;intro o G j);have l:Hid (ii y m b.tail ns (ms++[0]) H o G):=j;clear j;go_step3;exact ⟨_,aa,b.tail,ns,(ms++[0]),H,o,1,0,x,⟨rfl,rfl,rfl⟩,l.out,H3 (H3 (H5 ⟨rfl,rfl,bb,λq hq=>Q.out q (.go d.out hq)⟩))⟩
     ·have O:(x==32)=false:=ck;by_cases f:x=-1;·have P:(x != -1)=false:=cb;have d:Hid (ap u=.inr (some (ns,ms++[0]))):=p.out.trans ((JZ9 g).trans (JZ8 f));clear p g;go_wp2_with (at_builtin;refine aj rfl (.tmp 45) (.tmp 49) rfl 0 rfl rfl S.out t ?_;intro o G j);have l:Hid (ii y m b.tail ns (ms++[0]) H o G):=j;clear j;have hcv:=l.out.name;obtain ⟨N,hN⟩:∃ N,N=runesBytes ns:=⟨_,rfl⟩;rw [<- hN] at hcv;have Y:Hid (N=runesBytes ns):=hN;clear hN;go_step3;go_wp2_with fail;refine A5 (A0 results85 _ _ _) rfl ⟨some (ns,(ms++[0])),Q.out _ (.stop d.out),l.out.bel,H3 ⟨ns,(ms++[0]),o,rfl,by rw [<- Y.out];rfl,l.out.nums⟩⟩
      ·have P:(x != -1):=cb;have d:Hid (ap u=.inr none):=p.out.trans ((JZ9 g).trans (JZ9 f));clear p g;go_wp2_with (at_builtin;refine aj rfl (.tmp 45) (.tmp 49) rfl 0 rfl rfl S.out t ?_;intro o G j);have l:Hid (ii y m b.tail ns (ms++[0]) H o G):=j;clear j;refine A5 (A0 results85 _ _ _) rfl ⟨none,Q.out _ (.stop d.out),l.out.bel,H5 ⟨rfl,rfl⟩⟩
theorem zU (R0 s:Code) (hc:Tryz.f85.body=some (.seq R0 (.scope s))) (T:Nat) (wr:F0) (b ns ms:List Int) (J mv:F3) (sign acc r:Int) (U:Nat->F3) (hR:Hid (ii y m b ns ms J mv wr)) (hm:T=2*b.length+3) (hms:ms=[]) (hb:ns.length+b.length<=1048576) (hK:∀ q,dh (.name b ns) q->dh n q): ∃ rest,findLabel s 0=some rest/\rest.wp prog (mz (λl' a' w'=>∃ m',m'<T/\RJ c y m n l' m' a' w') (G3 prog Tryz.f85 (qK n y))) {tmps:=#[.string c,undef,.string ⟨#[]⟩,.slice none 0 0,.bool false,.p m 0,J,mv,.i sign,.i acc,.int .i32 r,U 11,U 12,U 13,U 14,U 15,U 16,U 17,U 18,U 19,U 20,U 21,U 22,U 23,U 24,U 25,U 26,U 27,U 28,U 29,U 30,U 31,U 32,U 33,U 34,U 35,U 36,U 37,U 38,U 39,U 40,U 41,U 42,U 43,U 44,U 45,U 46,U 47,U 48,U 49,U 50,U 51,U 52,U 53,U 54,U 55,U 56,U 57],defers:=[]} wr:=by
 cases hc;have L:Hid (∀ q,dh (.name b ns) q->dh n q):=hK;obtain ⟨u,hst⟩:∃ u:jK,u=.name b ns:=⟨_,rfl⟩;have E:Hid (ap u=fh b ns):=by rw [hst];exact (rfl:_=_)
 rw [<- hst] at L;have Hms:Hid (ms=[]):=hms;clear hst hK hms;refine ⟨_,rfl,?_⟩;go_wp2_with fail;refine (hR.out.next).mono ?_;rintro e wr1 ⟨rfl,hR1⟩;have hlk:=cC b;obtain ⟨k,hqk⟩:∃ k,k=b.headD (-1):=⟨_,rfl⟩;rw [<- hqk] at hlk ⊢;have Y:Hid (k=b.headD (-1)):=hqk;clear hqk;by_cases P:k=-1;·have tk:(k == -1):=(by simpa using P);have d:Hid (ap u=.inr (some (ns,ms))):=(by show _=_;rw [E.out,fh,<- Y.out,JZ8 P,Hms.out]);clear E P Y;go_wp2_with fail;go_step3;exact ⟨_,aa,b.tail,ns,ms,J,mv,sign,acc,_,⟨rfl,rfl,rfl⟩,hR1.out,H3 (H5 ⟨rfl,rfl,L.out _ (.stop d.out)⟩)⟩
 ·have tk:(k == -1)=false:=(by simpa using P);have X:=hlk.2.2.2 P;by_cases hk2:k=32
  ·have tk2:(k != 32)=false:=(by simpa using hk2);have d:Hid (ap u=cq b.tail ns ms):=(by show _=_;rw [E.out,fh,<- Y.out,JZ9 P,JZ8 hk2,Hms.out]);have hml0:ms.length=0:=(by rw [Hms.out];rfl);clear E Y;have E:Hid (ap u=cq b.tail ns ms):=d;have hb2:ms.length+b.tail.length+1<=1048577:=aa;clear d hk2;go_wp2_with fail;go_step3;go_wp2_with fail;refine (hR1.out.next).mono ?_;rintro e wr1a ⟨rfl,H⟩;have hlx:=cC b.tail;obtain ⟨x,hqx⟩:∃ x,x=b.tail.headD (-1):=⟨_,rfl⟩;rw [<- hqx] at hlx ⊢;have Z:Hid (x=b.tail.headD (-1)):=hqx;clear hqx;by_cases B:x=120
   ·have t120:(x==120):=(by simpa using B);have d:Hid (ap u=bD (b.tail.tail.headD (-1)) b.tail.tail.tail ns ms 1 0):=(by show _=_;rw [E.out,cq,<- Z.out,JZ8 B]);have hq0:=hlx.2.2.2 aa;clear E B;go_wp2_with fail;refine (H.out.next).mono ?_;rintro e wr1b ⟨rfl,t⟩;have K:=cC b.tail.tail;obtain ⟨z,W⟩:∃ z,z=b.tail.tail.headD (-1):=⟨_,rfl⟩;rw [<- W] at K ⊢;have HQz:Hid (z=b.tail.tail.headD (-1)):=W;clear W;rw [<- HQz.out] at d;have E:Hid (ap u=bD z b.tail.tail.tail ns ms 1 0):=d;have O:ms.length+b.tail.tail.tail.length+1+(if z=-1 then 0 else 1)<=1048577:=(by have:=K.2.1;omega);clear d HQz Z;go_wp2_with fail;go_step3;by_cases D:48<=z/\z<=57;·have hd1:=D.1;have hd2:=D.2;have hw32:wrap32 (z-48)=z-48:=et;have f:¬ z=-1:=aa;rw [JZ9 f] at O;have hqq:=K.2.2.2 f;have d:Hid (ap u=.inl (.num (b.tail.tail.tail.headD (-1)) b.tail.tail.tail.tail ns ms 1 (z-48))):=cp;clear D;go_wp2_with fail;refine (t.out.next).mono ?_;rintro e wr1bn ⟨rfl,V⟩;have Q:=cC b.tail.tail.tail;obtain ⟨w,I⟩:∃ w,w=b.tail.tail.tail.headD (-1):=⟨_,rfl⟩;rw [<- I] at Q ⊢;have M:Hid (w=b.tail.tail.tail.headD (-1)):=I;clear I;rw [<- M.out] at d;clear M;go_wp2_with fail;go_step3;exact ⟨_,aa,b.tail.tail.tail.tail,ns,ms,J,mv,1,_,w,⟨rfl,rfl,rfl⟩,V.out,H3 (H3 (H3 ⟨rfl,rfl,by split at Q<;>split<;>omega,λq X=>L.out q (.go d.out X)⟩))⟩
    ·have C:(decide (48<=z)&&decide (z<=57))=false:=by
      rw [H8];by_cases G:48<=z;·right;exact ni
      ·left;exact decide_eq_false G
     have p:Hid (ap u=if z=32 then .inl (.ahead b.tail.tail.tail ns (ms++[0])) else if z=-1 then .inr (some (ns,ms++[0])) else .inr none):=dy;clear E;have A:ms.length<=1048577:=aa;by_cases G:48<=z;·have h57:¬ z<=57:=λh=>D ⟨G,h⟩;clear D C;have g:¬ z=32:=aa;have f:¬ z=-1:=aa;have R:(z==32)=false:=ck;have S:(z != -1):=cb;have d:Hid (ap u=.inr none):=p.out.trans ((JZ9 g).trans (JZ9 f));clear p g;go_wp2_with (at_builtin;refine aj rfl (.tmp 45) (.tmp 49) rfl 0 rfl rfl t.out A ?_;intro o F j);have l:Hid (ii y m b.tail.tail.tail ns (ms++[0]) J o F):=j;clear j;refine A5 (A0 results85 _ _ _) rfl ⟨none,L.out _ (.stop d.out),l.out.bel,H5 ⟨rfl,rfl⟩⟩
     ·clear D C;by_cases g:z=32;·have R:(z==32):=ck;have d:Hid (ap u=.inl (.ahead b.tail.tail.tail ns (ms++[0]))):=p.out.trans (JZ8 g);have f:¬ z=-1:=aa;rw [JZ9 f] at O;have hqq:=K.2.2.2 f;clear p g;go_wp2_with (at_builtin;refine aj rfl (.tmp 45) (.tmp 49) rfl 0 rfl rfl t.out A ?_;intro o F j);have l:Hid (ii y m b.tail.tail.tail ns (ms++[0]) J o F):=j;clear j;go_step3;exact ⟨_,aa,b.tail.tail.tail,ns,(ms++[0]),J,o,1,0,z,⟨rfl,rfl,rfl⟩,l.out,H3 (H3 (H5 ⟨rfl,rfl,bb,λq X=>L.out q (.go d.out X)⟩))⟩
      ·have R:(z==32)=false:=ck;by_cases f:z=-1;·have S:(z != -1)=false:=cb;have d:Hid (ap u=.inr (some (ns,ms++[0]))):=p.out.trans ((JZ9 g).trans (JZ8 f));clear p g;go_wp2_with (at_builtin;refine aj rfl (.tmp 45) (.tmp 49) rfl 0 rfl rfl t.out A ?_;intro o F j);have l:Hid (ii y m b.tail.tail.tail ns (ms++[0]) J o F):=j;clear j;have hcv:=l.out.name;obtain ⟨N,hN⟩:∃ N,N=runesBytes ns:=⟨_,rfl⟩;rw [<- hN] at hcv;have HNN:Hid (N=runesBytes ns):=hN;clear hN;go_step3;go_wp2_with fail;refine A5 (A0 results85 _ _ _) rfl ⟨some (ns,(ms++[0])),L.out _ (.stop d.out),l.out.bel,H3 ⟨ns,(ms++[0]),o,rfl,li,l.out.nums⟩⟩
       ·have S:(z != -1):=cb;have d:Hid (ap u=.inr none):=p.out.trans ((JZ9 g).trans (JZ9 f));clear p g;go_wp2_with (at_builtin;refine aj rfl (.tmp 45) (.tmp 49) rfl 0 rfl rfl t.out A ?_;intro o F j);have l:Hid (ii y m b.tail.tail.tail ns (ms++[0]) J o F):=j;clear j;refine A5 (A0 results85 _ _ _) rfl ⟨none,L.out _ (.stop d.out),l.out.bel,H5 ⟨rfl,rfl⟩⟩
   ·have t120:(x==120)=false:=(by simpa using B);by_cases h45:x=45
    ·have t45:(x==45):=(by simpa using h45);have d:Hid (ap u=bD (b.tail.tail.headD (-1)) b.tail.tail.tail ns ms (-1) 0):=(by show _=_;rw [E.out,cq,<- Z.out,JZ9 B,JZ8 h45]);have hq0:=hlx.2.2.2 aa;clear E B h45;go_wp2_with fail;refine (H.out.next).mono ?_;rintro e wr1b ⟨rfl,t⟩;have K:=cC b.tail.tail;obtain ⟨z,W⟩:∃ z,z=b.tail.tail.headD (-1):=⟨_,rfl⟩;rw [<- W] at K ⊢;have HQz:Hid (z=b.tail.tail.headD (-1)):=W;clear W;rw [<- HQz.out] at d;have E:Hid (ap u=bD z b.tail.tail.tail ns ms (-1) 0):=d;have O:ms.length+b.tail.tail.tail.length+1+(if z=-1 then 0 else 1)<=1048577:=(by have:=K.2.1;omega);clear d HQz Z;go_wp2_with fail;go_step3;by_cases D:48<=z/\z<=57;·have hd1:=D.1;have hd2:=D.2;have hw32:wrap32 (z-48)=z-48:=et;have f:¬ z=-1:=aa;rw [JZ9 f] at O;have hqq:=K.2.2.2 f;have d:Hid (ap u=.inl (.num (b.tail.tail.tail.headD (-1)) b.tail.tail.tail.tail ns ms (-1) (z-48))):=cp;clear D;go_wp2_with fail;refine (t.out.next).mono ?_;rintro e wr1bn ⟨rfl,V⟩;have Q:=cC b.tail.tail.tail;obtain ⟨w,I⟩:∃ w,w=b.tail.tail.tail.headD (-1):=⟨_,rfl⟩;rw [<- I] at Q ⊢;have M:Hid (w=b.tail.tail.tail.headD (-1)):=I;clear I;rw [<- M.out] at d;clear M;go_wp2_with fail;go_step3;exact ⟨_,aa,b.tail.tail.tail.tail,ns,ms,J,mv,(-1),_,w,⟨rfl,rfl,rfl⟩,V.out,H3 (H3 (H3 ⟨rfl,rfl,by split at Q<;>split<;>omega,λq X=>L.out q (.go d.out X)⟩))⟩
     ·have C:(decide (48<=z)&&decide (z<=57))=false:=by
       rw [H8];by_cases G:48<=z;·right;exact ni
       ·left;exact decide_eq_false G
      have p:Hid (ap u=if z=32 then .inl (.ahead b.tail.tail.tail ns (ms++[0])) else if z=-1 then .inr (some (ns,ms++[0])) else .inr none):=gc;clear E;have A:ms.length<=1048577:=aa;by_cases G:48<=z;·have h57:¬ z<=57:=λh=>D ⟨G,h⟩;clear D C;have g:¬ z=32:=aa;have f:¬ z=-1:=aa;have R:(z==32)=false:=ck;have S:(z != -1):=cb;have d:Hid (ap u=.inr none):=p.out.trans ((JZ9 g).trans (JZ9 f));clear p g;go_wp2_with (at_builtin;refine aj rfl (.tmp 45) (.tmp 49) rfl 0 rfl rfl t.out A ?_;intro o F j);have l:Hid (ii y m b.tail.tail.tail ns (ms++[0]) J o F):=j;clear j;refine A5 (A0 results85 _ _ _) rfl ⟨none,L.out _ (.stop d.out),l.out.bel,H5 ⟨rfl,rfl⟩⟩
      ·clear D C;by_cases g:z=32;·have R:(z==32):=ck;have d:Hid (ap u=.inl (.ahead b.tail.tail.tail ns (ms++[0]))):=p.out.trans (JZ8 g);have f:¬ z=-1:=aa;rw [JZ9 f] at O;have hqq:=K.2.2.2 f;clear p g;go_wp2_with (at_builtin;refine aj rfl (.tmp 45) (.tmp 49) rfl 0 rfl rfl t.out A ?_;intro o F j);have l:Hid (ii y m b.tail.tail.tail ns (ms++[0]) J o F):=j;clear j;go_step3;exact ⟨_,aa,b.tail.tail.tail,ns,(ms++[0]),J,o,(-1),0,z,⟨rfl,rfl,rfl⟩,l.out,H3 (H3 (H5 ⟨rfl,rfl,bb,λq X=>L.out q (.go d.out X)⟩))⟩
       ·have R:(z==32)=false:=ck;by_cases f:z=-1;·have S:(z != -1)=false:=cb;have d:Hid (ap u=.inr (some (ns,ms++[0]))):=p.out.trans ((JZ9 g).trans (JZ8 f));clear p g;go_wp2_with (at_builtin;refine aj rfl (.tmp 45) (.tmp 49) rfl 0 rfl rfl t.out A ?_;intro o F j);have l:Hid (ii y m b.tail.tail.tail ns (ms++[0]) J o F):=j;clear j;have hcv:=l.out.name;obtain ⟨N,hN⟩:∃ N,N=runesBytes ns:=⟨_,rfl⟩;rw [<- hN] at hcv;have HNN:Hid (N=runesBytes ns):=hN;clear hN;go_step3;go_wp2_with fail;refine A5 (A0 results85 _ _ _) rfl ⟨some (ns,(ms++[0])),L.out _ (.stop d.out),l.out.bel,H3 ⟨ns,(ms++[0]),o,rfl,li,l.out.nums⟩⟩
        ·have S:(z != -1):=cb;have d:Hid (ap u=.inr none):=p.out.trans ((JZ9 g).trans (JZ9 f));clear p g;go_wp2_with (at_builtin;refine aj rfl (.tmp 45) (.tmp 49) rfl 0 rfl rfl t.out A ?_;intro o F j);have l:Hid (ii y m b.tail.tail.tail ns (ms++[0]) J o F):=j;clear j;refine A5 (A0 results85 _ _ _) rfl ⟨none,L.out _ (.stop d.out),l.out.bel,H5 ⟨rfl,rfl⟩⟩
    ·have t45:(x==45)=false:=(by simpa using h45);have d:Hid (ap u=bD x b.tail.tail ns ms 1 0):=(by show _=_;rw [E.out,cq,<- Z.out,JZ9 B,JZ9 h45]);clear E B h45 Z;have E:Hid (ap u=bD x b.tail.tail ns ms 1 0):=d;have O:ms.length+b.tail.tail.length+1+(if x=-1 then 0 else 1)<=1048577:=(by have:=hlx.2.1;omega);clear d;go_wp2_with fail;go_step3;by_cases D:48<=x/\x<=57;·have hd1:=D.1;have hd2:=D.2;have hw32:wrap32 (x-48)=x-48:=et;have f:¬ x=-1:=aa;rw [JZ9 f] at O;have hqq:=hlx.2.2.2 f;have d:Hid (ap u=.inl (.num (b.tail.tail.headD (-1)) b.tail.tail.tail ns ms 1 (x-48))):=ek;clear D;go_wp2_with fail;refine (H.out.next).mono ?_;rintro e wr1an ⟨rfl,hR1an⟩;have Q:=cC b.tail.tail;obtain ⟨w,I⟩:∃ w,w=b.tail.tail.headD (-1):=⟨_,rfl⟩;rw [<- I] at Q ⊢;have M:Hid (w=b.tail.tail.headD (-1)):=I;clear I;rw [<- M.out] at d;clear M;go_wp2_with fail;go_step3;exact ⟨_,aa,b.tail.tail.tail,ns,ms,J,mv,1,_,w,⟨rfl,rfl,rfl⟩,hR1an.out,H3 (H3 (H3 ⟨rfl,rfl,by split at Q<;>split<;>omega,λq X=>L.out q (.go d.out X)⟩))⟩
     ·have C:(decide (48<=x)&&decide (x<=57))=false:=by
       rw [H8];by_cases G:48<=x;·right;exact ni
       ·left;exact decide_eq_false G
      have p:Hid (ap u=if x=32 then .inl (.ahead b.tail.tail ns (ms++[0])) else if x=-1 then .inr (some (ns,ms++[0])) else .inr none):=dy;clear E;have A:ms.length<=1048577:=aa;by_cases G:48<=x;·have h57:¬ x<=57:=λh=>D ⟨G,h⟩;clear D C;have g:¬ x=32:=aa;have f:¬ x=-1:=aa;have R:(x==32)=false:=ck;have S:(x != -1):=cb;have d:Hid (ap u=.inr none):=p.out.trans ((JZ9 g).trans (JZ9 f));clear p g;go_wp2_with (at_builtin;refine aj rfl (.tmp 45) (.tmp 49) rfl 0 rfl rfl H.out A ?_;intro o F j);have l:Hid (ii y m b.tail.tail ns (ms++[0]) J o F):=j;clear j;refine A5 (A0 results85 _ _ _) rfl ⟨none,L.out _ (.stop d.out),l.out.bel,H5 ⟨rfl,rfl⟩⟩
      ·clear D C;by_cases g:x=32;·have R:(x==32):=ck;have d:Hid (ap u=.inl (.ahead b.tail.tail ns (ms++[0]))):=p.out.trans (JZ8 g);have f:¬ x=-1:=aa;rw [JZ9 f] at O;have hqq:=hlx.2.2.2 f;clear p g;go_wp2_with (at_builtin;refine aj rfl (.tmp 45) (.tmp 49) rfl 0 rfl rfl H.out A ?_;intro o F j);have l:Hid (ii y m b.tail.tail ns (ms++[0]) J o F):=j;clear j;go_step3;exact ⟨_,aa,b.tail.tail,ns,(ms++[0]),J,o,1,0,x,⟨rfl,rfl,rfl⟩,l.out,H3 (H3 (H5 ⟨rfl,rfl,bb,λq X=>L.out q (.go d.out X)⟩))⟩
       ·have R:(x==32)=false:=ck;by_cases f:x=-1;·have S:(x != -1)=false:=cb;have d:Hid (ap u=.inr (some (ns,ms++[0]))):=p.out.trans ((JZ9 g).trans (JZ8 f));clear p g;go_wp2_with (at_builtin;refine aj rfl (.tmp 45) (.tmp 49) rfl 0 rfl rfl H.out A ?_;intro o F j);have l:Hid (ii y m b.tail.tail ns (ms++[0]) J o F):=j;clear j;have hcv:=l.out.name;obtain ⟨N,hN⟩:∃ N,N=runesBytes ns:=⟨_,rfl⟩;rw [<- hN] at hcv;have HNN:Hid (N=runesBytes ns):=hN;clear hN;go_step3;go_wp2_with fail;refine A5 (A0 results85 _ _ _) rfl ⟨some (ns,(ms++[0])),L.out _ (.stop d.out),l.out.bel,H3 ⟨ns,(ms++[0]),o,rfl,li,l.out.nums⟩⟩
        ·have S:(x != -1):=cb;have d:Hid (ap u=.inr none):=p.out.trans ((JZ9 g).trans (JZ9 f));clear p g;go_wp2_with (at_builtin;refine aj rfl (.tmp 45) (.tmp 49) rfl 0 rfl rfl H.out A ?_;intro o F j);have l:Hid (ii y m b.tail.tail ns (ms++[0]) J o F):=j;clear j;refine A5 (A0 results85 _ _ _) rfl ⟨none,L.out _ (.stop d.out),l.out.bel,H5 ⟨rfl,rfl⟩⟩
  ·have tk2:(k != 32):=(by simpa using hk2);have d:Hid (ap u=.inl (.name b.tail (ns++[k]))):=(by show _=_;rw [E.out,fh,<- Y.out,JZ9 P,JZ9 hk2]);clear E P hk2 Y;have hnl:ns.length<=1048576:=aa;go_wp2_with (at_builtin;refine pP rfl (.tmp 21) (.tmp 23) rfl k rfl rfl hR1.out hnl ?_;intro nv2 F j);have l:Hid (ii y m b.tail (ns++[k]) ms nv2 mv F):=j;clear j;go_step3;exact ⟨_,aa,b.tail,(ns++[k]),ms,nv2,mv,sign,acc,k,⟨rfl,rfl,rfl⟩,l.out,H5 ⟨rfl,rfl,Hms.out,bb,λq X=>L.out q (.go d.out X)⟩⟩
theorem vK (h:Nat) (g:jK) (i s:Code) (n:Tryz.f85.body=some (.seq i (.scope s))) (l m:Nat) (a:Act) (wr:F0) (u:RJ c y h g l m a wr): ∃ rest,findLabel s l=some rest/\rest.wp prog (mz (λA z B=>∃ w,w<m/\RJ c y h g A w z B) (G3 prog Tryz.f85 (qK g y))) a wr:=by
 obtain ⟨d,q,o,t,p,sign,b,r,hF,k,u⟩:=u;obtain ⟨U,rfl⟩:=hF.open;rcases u with ⟨rfl,f,x,v,e⟩|⟨rfl,f,e⟩|⟨rfl,f,v,e⟩|⟨rfl,f,j,e⟩;·exact zU c y h g i s n m wr d q o t p sign b r U k f x v e
 ·exact zS c y h g i s n m wr d q o t p sign b r U k f e
 ·exact zT c y h g i s n m wr d q o t p sign b r U k f v e
 ·exact zR c y h g i s n m wr d q o t p sign b r U k f j e
theorem Is (hb:Bw y a) (t:a.heap.size=y.heap.size+1) (i:∀ (k:Nat) (x:Int),e[k]?=some x->a.cell? ⟨y.heap.size,k,none⟩=some (.int .i32 x)) (cap:e.length<=1048576): ii y a.heap.size e [] [] (.slice (some ⟨a.heap.size+1,0,none⟩) 0 0) (.slice (some ⟨a.heap.size+2,0,none⟩) 0 0) (((a.alloc (.cells #[.slice (some ⟨y.heap.size,0,none⟩) e.length m,.i 0] 191 (0,0))).alloc (.cells #[] 21 (0,0))).alloc (.cells #[] 2 (0,0))):=by
 obtain ⟨rs,b⟩:∃ rs,rs=a.alloc (.cells #[.slice (some ⟨y.heap.size,0,none⟩) e.length m,.i 0] 191 (0,0)):=⟨_,rfl⟩;have r:rs.heap[a.heap.size]?=some (.cells #[.slice (some ⟨y.heap.size,0,none⟩) e.length m,.i 0] 191 (0,0)):=by rw [b];exact H1 _ _
 have w:rs.heap.size=a.heap.size+1:=by rw [b];simp
 have o:Bw a rs:=by rw [b];exact bal _ _
 rw [<- b];clear b;obtain ⟨w1,c⟩:∃ w1,w1=rs.alloc (.cells #[] 21 (0,0)):=⟨_,rfl⟩;have z:w1.heap.size=rs.heap.size+1:=by rw [c];simp
 have p:Bw rs w1:=by rw [c];exact bal _ _
 have u:w1.ownsRow y.heap.size 21 1 (.slice (some ⟨rs.heap.size,0,none⟩) 0 0) 0 (([]:List Int).map (I5 .i32)):=by rw [c];exact World.ownsRow_lit rs #[] 0 aa ct rfl
 rw [<- c];clear c;obtain ⟨j,d⟩:∃ j,j=w1.alloc (.cells #[] 2 (0,0)):=⟨_,rfl⟩;have A:j.heap.size=w1.heap.size+1:=by rw [d];simp
 have n:Bw w1 j:=by rw [d];exact bal _ _
 have v:j.ownsRow y.heap.size 2 1 (.slice (some ⟨w1.heap.size,0,none⟩) 0 0) 0 (([]:List Int).map (I5 .i64)):=by rw [d];exact World.ownsRow_lit w1 #[] 0 aa ct rfl
 rw [<- d];clear d;have g:=ae p n;have f:=ae o g;refine ⟨y.heap.size,m,0,e,⟨aC g r,λk x h=>(f.cell (by show y.heap.size<a.heap.size;omega)).trans (i k x h),?_,?_,ae hb f,aa,aa,aa,?_,?_,Nat.zero_le _,cap⟩,rfl⟩;·rw [<- w];exact aZ u n
 ·rw [show a.heap.size+2=w1.heap.size by omega];exact v
 ·intro k h;have l:a.heap.size+1=k:=Option.some.inj h;refine ⟨aa,aa,λq=>?_⟩;have s:a.heap.size+2=k:=Option.some.inj q;omega
 ·intro k h;have l:a.heap.size+2=k:=Option.some.inj h;exact ⟨aa,aa⟩
theorem xY (hs:c.size<=1048576) (w:F0):Calls prog 85 #[.string c] w (qK (.name (jL c) []) w):=by
 have hl:=Cs c;have M:=xX c;have L:=run_runes_of_string (P:=prog) w 9 189 21 c underlying9 underlying189 underlying21 (by rw [M];simp;omega);rw [M] at L;obtain ⟨b,hrem⟩:∃ b,b=jL c:=⟨_,rfl⟩;rw [<- hrem] at L hl ⊢;have hsz:(b.map (I5 .i32)).toArray.size=b.length:=bh
 rw [hsz] at L;obtain ⟨cap,hcap⟩:∃ cap,cap=grownCap w b.length 0 21:=⟨_,rfl⟩;rw [<- hcap] at L;obtain ⟨w1,hw1⟩:∃ w1,w1=w.drew.alloc (.cells ((b.map (I5 .i32)).toArray++Array.replicate (cap-b.length) (.int .i32 0)) 21):=⟨_,rfl⟩;rw [<- hw1] at L;have hb1:Bw w w1:=by rw [hw1];exact (ig (Below.refl w.heap.size w) 1).alloc (Nat.le_refl _) _
 have hs1:w1.heap.size=w.heap.size+1:=by rw [hw1];simp
 have hr1:w1.heap[w.heap.size]?=some (.cells ((b.map (I5 .i32)).toArray++Array.replicate (cap-b.length) (.int .i32 0)) 21 (0,0)):=by rw [hw1];exact H1 w.drew _
 have hrun:∀ (k:Nat) (x:Int),b[k]?=some x->w1.cell? ⟨w.heap.size,k,none⟩=some (.int .i32 x):=by
  intro k x hk;have hkl:k<b.length:=by
   by_cases h:k<b.length;·exact h
   ·rw [List.getElem?_eq_none aa] at hk;cases hk
  simp only [World.cell?,hr1];rw [Array.getElem?_append_left (by simpa using hkl)];simp [hk]
 have HR0:=Is w w1 cap b hb1 hs1 hrun aa;have hb:([]:List Int).length+b.length<=1048576:=by simp;omega
 clear M hsz hcap hw1 hb1 hr1 hrun hrem hl;obtain ⟨s,R0,hc⟩:∃ s R0,Tryz.f85.body=some (.seq R0 (.scope s)):=⟨_,_,rfl⟩;obtain ⟨s0,hs0⟩:∃ s0:jK,s0=.name b []:=⟨_,rfl⟩;rw [<- hs0];have HS0:Hid (s0=.name b []):=hs0;clear hs0;obtain ⟨G,hgr⟩:∃ G,G=w.heap.size+1:=⟨_,rfl⟩;rw [hs1,<- hgr] at HR0;have HGR:Hid (G=w.heap.size+1):=hgr;clear hgr;have HB:=vK c w G s0 R0 s hc;cases hc;have HBH:Hid _:=HB;have HRH:Hid _:=HR0;clear HB HR0;go_enter func85,ntmps85;go_wp2_with fail;refine sJ (RJ c w G s0) ?_ HBH.out;clear HBH;go_wp2_with fail;go_step3;rw [<- HGR.out];obtain ⟨K,hnv⟩:∃ K:F3,K=.slice (some ⟨G+1,0,none⟩) 0 0:=⟨_,rfl⟩;obtain ⟨mv,hmv⟩:∃ mv:F3,mv=.slice (some ⟨G+1+1,0,none⟩) 0 0:=⟨_,rfl⟩;have HRR:=HRH.out;rw [<- hnv,show G+2=G+1+1 from rfl,<- hmv] at HRR;rw [<- hnv,<- hmv];clear hnv hmv HRH L hs1;obtain ⟨wr,hwr⟩:∃ wr,wr=(((w1.alloc (.cells #[.slice (some ⟨w.heap.size,0,none⟩) b.length cap,.i 0] 191 (0,0))).alloc (.cells #[] 21 (0,0))).alloc (.cells #[] 2 (0,0))):=⟨_,rfl⟩;rw [<- hwr] at HRR ⊢;clear hwr;obtain ⟨l,hns⟩:∃ l:List Int,l=[]:=⟨_,rfl⟩;obtain ⟨o,hms⟩:∃ o:List Int,o=[]:=⟨_,rfl⟩;have hR:Hid (ii w G b l o K mv wr):=by rw [hns,hms];exact HRR
 have Hms:Hid (o=[]):=hms;rw [<- hns] at hb;obtain ⟨u,hst⟩:∃ u:jK,u=.name b l:=⟨_,rfl⟩;have Q:Hid (∀ q,dh u q->dh s0 q):=by intro q V;rw [hst,hns] at V;rw [HS0.out];exact V
 have E:Hid (ap u=fh b l):=by rw [hst];exact (rfl:_=_)
 clear hst hns hms HRR;go_wp2_with fail;refine (hR.out.next).mono ?_;rintro e wr1 ⟨rfl,hR1⟩;have hlk:=cC b;obtain ⟨k,hqk⟩:∃ k,k=b.headD (-1):=⟨_,rfl⟩;rw [<- hqk] at hlk ⊢;have HQk:Hid (k=b.headD (-1)):=hqk;clear hqk;by_cases T:k=-1;·have tk:(k == -1):=(by simpa using T);have d:Hid (ap u=.inr (some (l,o))):=(by show _=_;rw [E.out,fh,<- HQk.out,JZ8 T,Hms.out]);clear E T HQk;go_wp2_with fail;go_step3;exact ⟨_,b.tail,l,o,K,mv,0,0,_,⟨rfl,rfl,rfl⟩,hR1.out,H3 (H5 ⟨rfl,rfl,Q.out _ (.stop d.out)⟩)⟩
 ·have tk:(k == -1)=false:=(by simpa using T);have V:=hlk.2.2.2 T;by_cases hk2:k=32
  ·have tk2:(k != 32)=false:=(by simpa using hk2);have d:Hid (ap u=cq b.tail l o):=(by show _=_;rw [E.out,fh,<- HQk.out,JZ9 T,JZ8 hk2,Hms.out]);have hml0:o.length=0:=(by rw [Hms.out];rfl);clear E HQk;have E:Hid (ap u=cq b.tail l o):=d;have hb2:o.length+b.tail.length+1<=1048577:=aa;clear d hk2;go_wp2_with fail;go_step3;go_wp2_with fail;refine (hR1.out.next).mono ?_;rintro e wr1a ⟨rfl,I⟩;have hlx:=cC b.tail;obtain ⟨x,hqx⟩:∃ x,x=b.tail.headD (-1):=⟨_,rfl⟩;rw [<- hqx] at hlx ⊢;have HQx:Hid (x=b.tail.headD (-1)):=hqx;clear hqx;by_cases B:x=120
   ·have t120:(x==120):=(by simpa using B);have d:Hid (ap u=bD (b.tail.tail.headD (-1)) b.tail.tail.tail l o 1 0):=(by show _=_;rw [E.out,cq,<- HQx.out,JZ8 B]);have hq0:=hlx.2.2.2 aa;clear E B;go_wp2_with fail;refine (I.out.next).mono ?_;rintro e wr1b ⟨rfl,t⟩;have O:=cC b.tail.tail;obtain ⟨z,Z⟩:∃ z,z=b.tail.tail.headD (-1):=⟨_,rfl⟩;rw [<- Z] at O ⊢;have HQz:Hid (z=b.tail.tail.headD (-1)):=Z;clear Z;rw [<- HQz.out] at d;have E:Hid (ap u=bD z b.tail.tail.tail l o 1 0):=d;have S:o.length+b.tail.tail.tail.length+1+(if z=-1 then 0 else 1)<=1048577:=(by have:=O.2.1;omega);clear d HQz HQx;go_wp2_with fail;go_step3;by_cases D:48<=z/\z<=57;·have hd1:=D.1;have hd2:=D.2;have hw32:wrap32 (z-48)=z-48:=et;have f:¬ z=-1:=aa;rw [JZ9 f] at S;have hqq:=O.2.2.2 f;have d:Hid (ap u=.inl (.num (b.tail.tail.tail.headD (-1)) b.tail.tail.tail.tail l o 1 (z-48))):=cp;clear D;go_wp2_with fail;refine (t.out.next).mono ?_;rintro e wr1bn ⟨rfl,Y⟩;have U:=cC b.tail.tail.tail;obtain ⟨y,J⟩:∃ y,y=b.tail.tail.tail.headD (-1):=⟨_,rfl⟩;rw [<- J] at U ⊢;have R:Hid (y=b.tail.tail.tail.headD (-1)):=J;clear J;rw [<- R.out] at d;clear R;go_wp2_with fail;go_step3;exact ⟨_,b.tail.tail.tail.tail,l,o,K,mv,1,_,y,⟨rfl,rfl,rfl⟩,Y.out,H3 (H3 (H3 ⟨rfl,rfl,by split at U<;>split<;>omega,λq V=>Q.out q (.go d.out V)⟩))⟩
    ·have C:(decide (48<=z)&&decide (z<=57))=false:=by
      rw [H8];by_cases H:48<=z;·right;exact ni
      ·left;exact decide_eq_false H
     have r:Hid (ap u=if z=32 then .inl (.ahead b.tail.tail.tail l (o++[0])) else if z=-1 then .inr (some (l,o++[0])) else .inr none):=dy;clear E;have A:o.length<=1048577:=aa;by_cases H:48<=z;·have h57:¬ z<=57:=λh=>D ⟨H,h⟩;clear D C;have g:¬ z=32:=aa;have f:¬ z=-1:=aa;have W:(z==32)=false:=ck;have X:(z != -1):=cb;have d:Hid (ap u=.inr none):=r.out.trans ((JZ9 g).trans (JZ9 f));clear r g;go_wp2_with (at_builtin;refine aj rfl (.tmp 45) (.tmp 49) rfl 0 rfl rfl t.out A ?_;intro p F j);have m:Hid (ii w G b.tail.tail.tail l (o++[0]) K p F):=j;clear j;refine A5 (A0 results85 _ _ _) rfl ⟨none,Q.out _ (.stop d.out),m.out.bel,H5 ⟨rfl,rfl⟩⟩
     ·clear D C;by_cases g:z=32;·have W:(z==32):=ck;have d:Hid (ap u=.inl (.ahead b.tail.tail.tail l (o++[0]))):=r.out.trans (JZ8 g);have f:¬ z=-1:=aa;rw [JZ9 f] at S;have hqq:=O.2.2.2 f;clear r g;go_wp2_with (at_builtin;refine aj rfl (.tmp 45) (.tmp 49) rfl 0 rfl rfl t.out A ?_;intro p F j);have m:Hid (ii w G b.tail.tail.tail l (o++[0]) K p F):=j;clear j;go_step3;exact ⟨_,b.tail.tail.tail,l,(o++[0]),K,p,1,0,z,⟨rfl,rfl,rfl⟩,m.out,H3 (H3 (H5 ⟨rfl,rfl,bb,λq V=>Q.out q (.go d.out V)⟩))⟩
      ·have W:(z==32)=false:=ck;by_cases f:z=-1;·have X:(z != -1)=false:=cb;have d:Hid (ap u=.inr (some (l,o++[0]))):=r.out.trans ((JZ9 g).trans (JZ8 f));clear r g;go_wp2_with (at_builtin;refine aj rfl (.tmp 45) (.tmp 49) rfl 0 rfl rfl t.out A ?_;intro p F j);have m:Hid (ii w G b.tail.tail.tail l (o++[0]) K p F):=j;clear j;have hcv:=m.out.name;obtain ⟨N,hN⟩:∃ N,N=runesBytes l:=⟨_,rfl⟩;rw [<- hN] at hcv;have HNN:Hid (N=runesBytes l):=hN;clear hN;go_step3;go_wp2_with fail;refine A5 (A0 results85 _ _ _) rfl ⟨some (l,(o++[0])),Q.out _ (.stop d.out),m.out.bel,H3 ⟨l,(o++[0]),p,rfl,li,m.out.nums⟩⟩
       ·have X:(z != -1):=cb;have d:Hid (ap u=.inr none):=r.out.trans ((JZ9 g).trans (JZ9 f));clear r g;go_wp2_with (at_builtin;refine aj rfl (.tmp 45) (.tmp 49) rfl 0 rfl rfl t.out A ?_;intro p F j);have m:Hid (ii w G b.tail.tail.tail l (o++[0]) K p F):=j;clear j;refine A5 (A0 results85 _ _ _) rfl ⟨none,Q.out _ (.stop d.out),m.out.bel,H5 ⟨rfl,rfl⟩⟩
   ·have t120:(x==120)=false:=(by simpa using B);by_cases h45:x=45
    ·have t45:(x==45):=(by simpa using h45);have d:Hid (ap u=bD (b.tail.tail.headD (-1)) b.tail.tail.tail l o (-1) 0):=(by show _=_;rw [E.out,cq,<- HQx.out,JZ9 B,JZ8 h45]);have hq0:=hlx.2.2.2 aa;clear E B h45;go_wp2_with fail;refine (I.out.next).mono ?_;rintro e wr1b ⟨rfl,t⟩;have O:=cC b.tail.tail;obtain ⟨z,Z⟩:∃ z,z=b.tail.tail.headD (-1):=⟨_,rfl⟩;rw [<- Z] at O ⊢;have HQz:Hid (z=b.tail.tail.headD (-1)):=Z;clear Z;rw [<- HQz.out] at d;have E:Hid (ap u=bD z b.tail.tail.tail l o (-1) 0):=d;have S:o.length+b.tail.tail.tail.length+1+(if z=-1 then 0 else 1)<=1048577:=(by have:=O.2.1;omega);clear d HQz HQx;go_wp2_with fail;go_step3;by_cases D:48<=z/\z<=57;·have hd1:=D.1;have hd2:=D.2;have hw32:wrap32 (z-48)=z-48:=et;have f:¬ z=-1:=aa;rw [JZ9 f] at S;have hqq:=O.2.2.2 f;have d:Hid (ap u=.inl (.num (b.tail.tail.tail.headD (-1)) b.tail.tail.tail.tail l o (-1) (z-48))):=cp;clear D;go_wp2_with fail;refine (t.out.next).mono ?_;rintro e wr1bn ⟨rfl,Y⟩;have U:=cC b.tail.tail.tail;obtain ⟨y,J⟩:∃ y,y=b.tail.tail.tail.headD (-1):=⟨_,rfl⟩;rw [<- J] at U ⊢;have R:Hid (y=b.tail.tail.tail.headD (-1)):=J;clear J;rw [<- R.out] at d;clear R;go_wp2_with fail;go_step3;exact ⟨_,b.tail.tail.tail.tail,l,o,K,mv,(-1),_,y,⟨rfl,rfl,rfl⟩,Y.out,H3 (H3 (H3 ⟨rfl,rfl,by split at U<;>split<;>omega,λq V=>Q.out q (.go d.out V)⟩))⟩
     ·have C:(decide (48<=z)&&decide (z<=57))=false:=by
       rw [H8];by_cases H:48<=z;·right;exact ni
       ·left;exact decide_eq_false H
      have r:Hid (ap u=if z=32 then .inl (.ahead b.tail.tail.tail l (o++[0])) else if z=-1 then .inr (some (l,o++[0])) else .inr none):=gc;clear E;have A:o.length<=1048577:=aa;by_cases H:48<=z;·have h57:¬ z<=57:=λh=>D ⟨H,h⟩;clear D C;have g:¬ z=32:=aa;have f:¬ z=-1:=aa;have W:(z==32)=false:=ck;have X:(z != -1):=cb;have d:Hid (ap u=.inr none):=r.out.trans ((JZ9 g).trans (JZ9 f));clear r g;go_wp2_with (at_builtin;refine aj rfl (.tmp 45) (.tmp 49) rfl 0 rfl rfl t.out A ?_;intro p F j);have m:Hid (ii w G b.tail.tail.tail l (o++[0]) K p F):=j;clear j;refine A5 (A0 results85 _ _ _) rfl ⟨none,Q.out _ (.stop d.out),m.out.bel,H5 ⟨rfl,rfl⟩⟩
      ·clear D C;by_cases g:z=32;·have W:(z==32):=ck;have d:Hid (ap u=.inl (.ahead b.tail.tail.tail l (o++[0]))):=r.out.trans (JZ8 g);have f:¬ z=-1:=aa;rw [JZ9 f] at S;have hqq:=O.2.2.2 f;clear r g;go_wp2_with (at_builtin;refine aj rfl (.tmp 45) (.tmp 49) rfl 0 rfl rfl t.out A ?_;intro p F j);have m:Hid (ii w G b.tail.tail.tail l (o++[0]) K p F):=j;clear j;go_step3;exact ⟨_,b.tail.tail.tail,l,(o++[0]),K,p,(-1),0,z,⟨rfl,rfl,rfl⟩,m.out,H3 (H3 (H5 ⟨rfl,rfl,bb,λq V=>Q.out q (.go d.out V)⟩))⟩
       ·have W:(z==32)=false:=ck;by_cases f:z=-1;·have X:(z != -1)=false:=cb;have d:Hid (ap u=.inr (some (l,o++[0]))):=r.out.trans ((JZ9 g).trans (JZ8 f));clear r g;go_wp2_with (at_builtin;refine aj rfl (.tmp 45) (.tmp 49) rfl 0 rfl rfl t.out A ?_;intro p F j);have m:Hid (ii w G b.tail.tail.tail l (o++[0]) K p F):=j;clear j;have hcv:=m.out.name;obtain ⟨N,hN⟩:∃ N,N=runesBytes l:=⟨_,rfl⟩;rw [<- hN] at hcv;have HNN:Hid (N=runesBytes l):=hN;clear hN;go_step3;go_wp2_with fail;refine A5 (A0 results85 _ _ _) rfl ⟨some (l,(o++[0])),Q.out _ (.stop d.out),m.out.bel,H3 ⟨l,(o++[0]),p,rfl,li,m.out.nums⟩⟩
        ·have X:(z != -1):=cb;have d:Hid (ap u=.inr none):=r.out.trans ((JZ9 g).trans (JZ9 f));clear r g;go_wp2_with (at_builtin;refine aj rfl (.tmp 45) (.tmp 49) rfl 0 rfl rfl t.out A ?_;intro p F j);have m:Hid (ii w G b.tail.tail.tail l (o++[0]) K p F):=j;clear j;refine A5 (A0 results85 _ _ _) rfl ⟨none,Q.out _ (.stop d.out),m.out.bel,H5 ⟨rfl,rfl⟩⟩
    ·have t45:(x==45)=false:=(by simpa using h45);have d:Hid (ap u=bD x b.tail.tail l o 1 0):=(by show _=_;rw [E.out,cq,<- HQx.out,JZ9 B,JZ9 h45]);clear E B h45 HQx;have E:Hid (ap u=bD x b.tail.tail l o 1 0):=d;have S:o.length+b.tail.tail.length+1+(if x=-1 then 0 else 1)<=1048577:=(by have:=hlx.2.1;omega);clear d;go_wp2_with fail;go_step3;by_cases D:48<=x/\x<=57;·have hd1:=D.1;have hd2:=D.2;have hw32:wrap32 (x-48)=x-48:=et;have f:¬ x=-1:=aa;rw [JZ9 f] at S;have hqq:=hlx.2.2.2 f;have d:Hid (ap u=.inl (.num (b.tail.tail.headD (-1)) b.tail.tail.tail l o 1 (x-48))):=ek;clear D;go_wp2_with fail;refine (I.out.next).mono ?_;rintro e wr1an ⟨rfl,hR1an⟩;have U:=cC b.tail.tail;obtain ⟨y,J⟩:∃ y,y=b.tail.tail.headD (-1):=⟨_,rfl⟩;rw [<- J] at U ⊢;have R:Hid (y=b.tail.tail.headD (-1)):=J;clear J;rw [<- R.out] at d;clear R;go_wp2_with fail;go_step3;exact ⟨_,b.tail.tail.tail,l,o,K,mv,1,_,y,⟨rfl,rfl,rfl⟩,hR1an.out,H3 (H3 (H3 ⟨rfl,rfl,by split at U<;>split<;>omega,λq V=>Q.out q (.go d.out V)⟩))⟩
     ·have C:(decide (48<=x)&&decide (x<=57))=false:=by
       rw [H8];by_cases H:48<=x;·right;exact ni
       ·left;exact decide_eq_false H
      have r:Hid (ap u=if x=32 then .inl (.ahead b.tail.tail l (o++[0])) else if x=-1 then .inr (some (l,o++[0])) else .inr none):=dy;clear E;have A:o.length<=1048577:=aa;by_cases H:48<=x;·have h57:¬ x<=57:=λh=>D ⟨H,h⟩;clear D C;have g:¬ x=32:=aa;have f:¬ x=-1:=aa;have W:(x==32)=false:=ck;have X:(x != -1):=cb;have d:Hid (ap u=.inr none):=r.out.trans ((JZ9 g).trans (JZ9 f));clear r g;go_wp2_with (at_builtin;refine aj rfl (.tmp 45) (.tmp 49) rfl 0 rfl rfl I.out A ?_;intro p F j);have m:Hid (ii w G b.tail.tail l (o++[0]) K p F):=j;clear j;refine A5 (A0 results85 _ _ _) rfl ⟨none,Q.out _ (.stop d.out),m.out.bel,H5 ⟨rfl,rfl⟩⟩
      ·clear D C;by_cases g:x=32;·have W:(x==32):=ck;have d:Hid (ap u=.inl (.ahead b.tail.tail l (o++[0]))):=r.out.trans (JZ8 g);have f:¬ x=-1:=aa;rw [JZ9 f] at S;have hqq:=hlx.2.2.2 f;clear r g;go_wp2_with (at_builtin;refine aj rfl (.tmp 45) (.tmp 49) rfl 0 rfl rfl I.out A ?_;intro p F j);have m:Hid (ii w G b.tail.tail l (o++[0]) K p F):=j;clear j;go_step3;exact ⟨_,b.tail.tail,l,(o++[0]),K,p,1,0,x,⟨rfl,rfl,rfl⟩,m.out,H3 (H3 (H5 ⟨rfl,rfl,bb,λq V=>Q.out q (.go d.out V)⟩))⟩
       ·have W:(x==32)=false:=ck;by_cases f:x=-1;·have X:(x != -1)=false:=cb;have d:Hid (ap u=.inr (some (l,o++[0]))):=r.out.trans ((JZ9 g).trans (JZ8 f));clear r g;go_wp2_with (at_builtin;refine aj rfl (.tmp 45) (.tmp 49) rfl 0 rfl rfl I.out A ?_;intro p F j);have m:Hid (ii w G b.tail.tail l (o++[0]) K p F):=j;clear j;have hcv:=m.out.name;obtain ⟨N,hN⟩:∃ N,N=runesBytes l:=⟨_,rfl⟩;rw [<- hN] at hcv;have HNN:Hid (N=runesBytes l):=hN;clear hN;go_step3;go_wp2_with fail;refine A5 (A0 results85 _ _ _) rfl ⟨some (l,(o++[0])),Q.out _ (.stop d.out),m.out.bel,H3 ⟨l,(o++[0]),p,rfl,li,m.out.nums⟩⟩
        ·have X:(x != -1):=cb;have d:Hid (ap u=.inr none):=r.out.trans ((JZ9 g).trans (JZ9 f));clear r g;go_wp2_with (at_builtin;refine aj rfl (.tmp 45) (.tmp 49) rfl 0 rfl rfl I.out A ?_;intro p F j);have m:Hid (ii w G b.tail.tail l (o++[0]) K p F):=j;clear j;refine A5 (A0 results85 _ _ _) rfl ⟨none,Q.out _ (.stop d.out),m.out.bel,H5 ⟨rfl,rfl⟩⟩
  ·have tk2:(k != 32):=(by simpa using hk2);have d:Hid (ap u=.inl (.name b.tail (l++[k]))):=(by show _=_;rw [E.out,fh,<- HQk.out,JZ9 T,JZ9 hk2]);clear E T hk2 HQk;have hnl:l.length<=1048576:=aa;go_wp2_with (at_builtin;refine pP rfl (.tmp 21) (.tmp 23) rfl k rfl rfl hR1.out hnl ?_;intro nv2 F j);have m:Hid (ii w G b.tail (l++[k]) o nv2 mv F):=j;clear j;go_step3;exact ⟨_,b.tail,(l++[k]),o,nv2,mv,0,0,k,⟨rfl,rfl,rfl⟩,m.out,H5 ⟨rfl,rfl,Hms.out,bb,λq V=>Q.out q (.go d.out V)⟩⟩
def mA:List (Nat × Bool)->Nat
 | []=>0
 | (n,b)::l=>(if b then 2^n-1 else 0)+2^n*mA l
def qL:List (Nat × Bool)->Nat->Nat
 | [],_=>0
 | (n,b)::l,x=>(if b then x%2^n else 0)+2^n*qL l (x/2^n)
theorem It:∀ (l:List (Nat × Bool)) (x:Nat),x &&& mA l=qL l x:=by
 intro l;induction l with
 | nil=>intro x;simp [mA,qL]
 | cons p l e =>
   intro x;obtain ⟨n,b⟩:=p;have d:0<2^n:=Nat.two_pow_pos n;have a:mA ((n,b)::l)/2^n=mA l:=(by rw [mA,Nat.add_mul_div_left _ _ d,Nat.div_eq_of_lt,Nat.zero_add];cases b<;>simp<;>omega);have c:mA ((n,b)::l)%2^n=if b then 2^n-1 else 0:=by rw [mA,Nat.add_mul_mod_self_left,Nat.mod_eq_of_lt];cases b<;>simp<;>omega
   rw [FK x _ n,a,c,e,qL];cases b;·simp
   ·simp only [if_true];rw [Ij,Nat.mod_mod];omega
theorem rK (x:List (Nat × Bool)) (a:0<=l) (b:l<4294967296) (hm:m=mA x) (hb:m<18446744073709551616):A6 .and .u64 l (m:Int)=(qL x l.toNat:Nat):=by subst hm;rw [u64_and l _ a aa aa aa,Int.toNat_natCast,It]
theorem Q4 (a:0<=l) (b:l<4294967296):A6 .and .u64 l 127=l%128:=by have h:=rK l 127 [(7,true)] a b ba ba;rw [show ((127:Nat):Int)=127 from rfl] at h;rw [h];simp [qL];omega
theorem Mh (a:0<=l) (b:l<4294967296):A6 .and .u64 l 28799=l%128+l/4096%8*4096:=by have h:=rK l 28799 [(7,true),(5,false),(3,true)] a b ba ba;rw [show ((28799:Nat):Int)=28799 from rfl] at h;rw [h];simp [qL];omega
theorem Q5 (a:0<=l) (b:l<4294967296):A6 .and .u64 l 4261441663=l%128+l/4096%8*4096+l/33554432*33554432:=by have h:=rK l 4261441663 [(7,true),(5,false),(3,true),(10,false),(7,true)] a b ba ba;rw [show ((4261441663:Nat):Int)=4261441663 from rfl] at h;rw [h];simp [qL];omega
theorem Q6 (a:0<=l) (b:l<4294967296):A6 .and .u64 l 4261445631=l%32768+l/33554432*33554432:=by have h:=rK l 4261445631 [(15,true),(10,false),(7,true)] a b ba ba;rw [show ((4261445631:Nat):Int)=4261445631 from rfl] at h;rw [h];simp [qL];omega
theorem Su (a:0<=l) (b:l<4294967296):A6 .and .u64 l 4227887231=l%128+l/4096%8*4096+l/67108864*67108864:=by have h:=rK l 4227887231 [(7,true),(5,false),(3,true),(11,false),(6,true)] a b ba ba;rw [show ((4227887231:Nat):Int)=4227887231 from rfl] at h;rw [h];simp [qL];omega
theorem Sw (a:0<=l) (b:l<4294967296):A6 .and .u64 l 4160778367=l%128+l/4096%8*4096+l/134217728*134217728:=by have h:=rK l 4160778367 [(7,true),(5,false),(3,true),(12,false),(5,true)] a b ba ba;rw [show ((4160778367:Nat):Int)=4160778367 from rfl] at h;rw [h];simp [qL];omega
theorem Q7 (a:0<=l) (b:l<4294967296):A6 .and .u64 l 4193284223=l%128+l/4096%8*4096+l/1048576%32*1048576+l/134217728*134217728:=by have h:=rK l 4193284223 [(7,true),(5,false),(3,true),(5,false),(5,true),(2,false),(5,true)] a b ba ba;rw [show ((4193284223:Nat):Int)=4193284223 from rfl] at h;rw [h];simp [qL];omega
theorem Sx (a:0<=l) (b:l<4294967296):A6 .and .u64 l 4294967295=l:=by have h:=rK l 4294967295 [(32,true)] a b ba ba;rw [show ((4294967295:Nat):Int)=4294967295 from rfl] at h;rw [h];simp [qL];omega
def zV (k:Nat) (r:Row):Bool:=decide (0<=r.op/\r.op<128/\0<=r.more/\(k=97->r.fm=.r)/\(k=62\/k=73->r.fm=.a)) &&
 (match r.fm with
 | .r=>decide (r.more<128/\0<=r.f3/\r.f3<8)
 | .w=>decide (r.more<128/\0<=r.f3/\r.f3<8)
 | .h=>decide (r.more<64/\0<=r.f3/\r.f3<8)
 | .a=>decide (r.more<32/\0<=r.f3/\r.f3<8)
 | .x=>decide (r.more<4096/\r.f3=0)
 | .u=>decide (r.more=0/\r.f3=-1)
 | .j=>decide (r.more=0/\r.f3=-1)
 | _=>decide (r.more=0/\0<=r.f3/\r.f3<8))
theorem D8:∀ k,k<98->zV k (az k):=by
 have h:(List.range 98).all (λk=>zV k (az k)):=ab
 intro k a;exact List.all_eq_true.1 h k eo
theorem ce (z m:Int) (i:0<=l) (q:l<128) (j:0<=z) (k:z<8) (c:0<=m) (o:m<2^(32-f.at)) (n:f.at=0->m=0):d7 f l z m=l+z*4096+m*2^f.at:=by
 unfold d7;have e:Uz.wrap (z*4096)=z*2^12:=by rw [H2];omega
 have g:A6 .or .u64 l (z*2^12)=l+z*2^12:=pG l z 12 3 i aa j k aa aa;rw [e,g];by_cases d:f.at=0;·have p:=n d;subst p;have a:Uz.wrap (0*2^f.at)=0:=(by rw [Int.zero_mul];rfl);have h:A6 .or .u64 (l+z*2^12) 0=l+z*2^12:=(by have:=pG (l+z*2^12) 0 0 1 aa aa aa aa aa;rw [u64_or _ _ aa aa aa aa];simp;omega);rw [a,h];omega
 ·have b:f.at=20\/f.at=25\/f.at=26\/f.at=27:=(by cases f<;>simp [Fm.at] at d ⊢);rcases b with b|b|b|b<;>rw [b] at o ⊢;·have a:Uz.wrap (m*2^20)=m*2^20:=gx;rw [a,pG (l+z*2^12) m 20 12 aa aa c aa aa aa];omega
  ·have a:Uz.wrap (m*2^25)=m*2^25:=gx;rw [a,pG (l+z*2^12) m 25 7 aa aa c aa aa aa];omega
  ·have a:Uz.wrap (m*2^26)=m*2^26:=gx;rw [a,pG (l+z*2^12) m 26 6 aa aa c aa aa aa];omega
  ·have a:Uz.wrap (m*2^27)=m*2^27:=gx;rw [a,pG (l+z*2^12) m 27 5 aa aa c aa aa aa];omega
theorem Iu (r:Row) (C:zV m r) (x:Int) (d:0<=x) (g:x<4294967296): (A6 .and .u64 x (fV ((m:Int)+1) r.fm)==d7 r.fm r.op r.f3z r.more)=decide (fl m r.fm r.op r.f3 r.more x):=by
 obtain ⟨F,f,o,z,k⟩:=r
 simp only [zV,Bool.and_eq_true,JZ6] at C
 obtain ⟨⟨l,n,p,v,y⟩,t⟩:=C
 simp only [Row.f3z]
 rw [Bool.eq_iff_iff,beq_iff_eq,decide_eq_true_iff]
 have D:∀ f,fV 98 f=A6 .or .u64 (Fm.mask f) 3968:=λf=>by rw [fV,JZ8 rfl]
 cases f
 case r =>
  simp only [JZ6] at t
  rw [JZ9 aa,ce .r o z k l n aa aa p cd kx]
  by_cases A:m=97
  ·subst A
   have e:fV (((97:Nat):Int)+1) .r=4261445631:=ba
   rw [e,Q6 x d g]
   simp only [fl,Fm.at,forall_const]
   omega
  ·have e:fV ((m:Int)+1) .r=4261441663:=by
    have E:¬ (m=62\/m=73):=λh=>by cases y h
    rw [fV,JZ9 aa,JZ9 aa];rfl
   rw [e,Q5 x d g]
   simp only [fl,Fm.at]
   omega
 case a =>
  simp only [JZ6] at t
  have q:¬ m=97:=λh=>by cases v h
  rw [JZ9 aa,ce .a o z k l n aa aa p cd kx]
  by_cases A:m=62\/m=73
  ·have e:fV ((m:Int)+1) .a=4193284223:=by
    rw [fV,JZ9 aa,JZ8 aa];decide
   rw [e,Q7 x d g]
   simp only [fl,Fm.at]
   omega
  ·have e:fV ((m:Int)+1) .a=4160778367:=by
    rw [fV,JZ9 aa,JZ9 aa];rfl
   rw [e,Sw x d g]
   simp only [fl,Fm.at]
   omega
 all_goals (
  have q:¬ m=97:=λh=>by cases v h
  have B:¬ (m=62\/m=73):=λh=>by cases y h
  simp only [JZ6] at t
  rw [fV,JZ9 aa,JZ9 aa]
  simp only [Fm.mask])
 case h =>
  rw [JZ9 aa,ce .h o z k l n aa aa p cd kx,Su x d g]
  simp only [fl,Fm.at]
  omega
 case w =>
  rw [JZ9 aa,ce .w o z k l n aa aa p cd kx,Q5 x d g]
  simp only [fl,Fm.at]
  omega
 case x =>
  rw [JZ9 aa,ce .x o z k l n aa aa p cd kx,Sx x d g]
  simp only [fl,Fm.at]
  omega
 case u =>
  rw [JZ8 aa,ce .u o 0 k l n aa aa p cd (by intro _;omega),Q4 x d g]
  simp only [fl,Fm.at,and_true]
  omega
 case j =>
  rw [JZ8 aa,ce .j o 0 k l n aa aa p cd (by intro _;omega),Q4 x d g]
  simp only [fl,Fm.at,and_true]
  omega
 case i =>
  rw [JZ9 aa,ce .i o z k l n aa aa p cd (by intro _;omega),Mh x d g]
  simp only [fl,Fm.at,and_true]
  omega
 case s =>
  rw [JZ9 aa,ce .s o z k l n aa aa p cd (by intro _;omega),Mh x d g]
  simp only [fl,Fm.at,and_true]
  omega
 case b =>
  rw [JZ9 aa,ce .b o z k l n aa aa p cd (by intro _;omega),Mh x d g]
  simp only [fl,Fm.at,and_true]
  omega
 case c =>
  rw [JZ9 aa,ce .c o z k l n aa aa p cd (by intro _;omega),Mh x d g]
  simp only [fl,Fm.at,and_true]
  omega
theorem Pd:aG l m r=l/2^m%2^r:=rfl
theorem Mi (k:0<=l) (x:l<4294967296):pM l f.pcs=pF f l:=by
 have Z:∀ y:Int,0<=y->y<18446744073709551616->A6 .or .u64 0 (Uz.wrap y)=y:=by
  intro y d g
  have e:Uz.wrap y=y:=by rw [H2];omega
  rw [e,u64_or 0 y aa aa d g]
  simp;omega
 have W:∀ y:Int,0<=y->y<18446744073709551616->Uz.wrap y=y:=by
  intro y d g
  rw [H2];omega
 cases f<;>simp only [Fm.pcs,pM,List.foldl_cons,List.foldl_nil,pF,Pd]
 case i=>rw [Z _ aa aa];omega
 case h=>rw [Z _ aa aa];omega
 case w=>rw [Z _ aa aa];omega
 case u=>rw [Z _ aa aa];omega
 case a=>rw [Z _ aa aa];omega
 case c=>rw [Z _ aa aa];omega
 case s =>
  rw [Z _ aa aa,W _ aa aa,pG _ (l/2^7%2^5) 0 5 aa aa aa aa aa aa]
  omega
 case b =>
  rw [Z _ aa aa,W _ aa aa,pG _ (l/2^7%2^1) 11 1 aa aa aa aa aa aa,
   W _ aa aa,pG _ (l/2^25%2^6) 5 6 aa aa aa aa aa aa,
   W _ aa aa,pG _ (l/2^8%2^4) 1 4 aa aa aa aa aa aa]
  omega
 case j =>
  rw [Z _ aa aa,W _ aa aa,pG _ (l/2^12%2^8) 12 8 aa aa aa aa aa aa,
   W _ aa aa,pG _ (l/2^20%2^1) 11 1 aa aa aa aa aa aa,
   W _ aa aa,pG _ (l/2^21%2^10) 1 10 aa aa aa aa aa aa]
  omega
def js (k:Nat) (x:Int):Ins:=⟨(k:Int)+1,dP (az k).fm x,aV (az k).fm x,bV (az k).fm x,aR (az k).fm x⟩
def mB (k:Nat) (x:Int):Bool:=decide (fl k (az k).fm (az k).op (az k).f3 (az k).more x)
def df (x:Int):Nat->Nat->Option Nat
 | 0,_=>none
 | n+1,k=>if mB k x=true then some k else df x n (k+1)
theorem zW (hk:m<98) (h:mB m l):df l (98-m) m=some m:=by rw [show 98-m=(98-(m+1))+1 from aa,df,JZ8 h]
theorem xZ (hk:m<98) (h:mB m l=false):df l (98-m) m=df l (98-(m+1)) (m+1):=by rw [show 98-m=(98-(m+1))+1 from aa,df,JZ9 (by rw [h];decide)]
def py (x:Int):Option Ins:=if x<4294967296 then (df x 98 0).map (λk=>js k x) else none
def jt:Ins:=⟨0,0,0,0,0⟩
def oZ (x:Int):Value:=match py x with
 | some i=>.tuple #[i.val,.bool true]
 | none=>.tuple #[jt.val,.bool false]
theorem Iw (h:¬ l<4294967296):oZ l=.tuple #[jt.val,.bool false]:=by simp [oZ,py,h]
theorem Ix (h:l<4294967296) (a:df l 98 0=some m):oZ l=.tuple #[(js m l).val,.bool true]:=by simp [oZ,py,h,a]
theorem FY (h:l<4294967296) (a:df l 98 0=none):oZ l=.tuple #[jt.val,.bool false]:=by simp [oZ,py,h,a]
def dG (y:Int):Int:=Uz.wrap y
theorem iV:0<=dG l/\dG l<18446744073709551616:=by unfold dG;rw [H2];omega
def jX (f:Fm) (o z m:Int) (rd:Int):Int:=if f.hasRd then A6 .or .u64 (d7 f o z m) (Uz.wrap (aG (dG rd) 0 5*128)) else d7 f o z m
def jY (f:Fm) (o z m:Int) (rd a:Int):Int:=if f.hasA then A6 .or .u64 (jX f o z m rd) (Uz.wrap (aG (dG a) 0 5*32768)) else jX f o z m rd
def kC (f:Fm) (o z m:Int) (rd a b:Int):Int:=if f.hasB then A6 .or .u64 (jY f o z m rd a) (Uz.wrap (aG (dG b) 0 5*1048576)) else jY f o z m rd a
def j8 (imm:Int) (acc:Int) (l:List (Nat × Nat × Nat)):Int:=l.foldl (λacc p=>A6 .or .u64 acc (Uz.wrap (aG (dG imm) p.2.2 p.2.1*2^p.1))) acc
def gB (f:Fm) (o z m:Int) (i:Ins):Int:=j8 i.imm (kC f o z m i.rd i.a i.b) f.pcs
def fP (o:Int) (i:Ins):Int:=A6 .or .u64 (A6 .or .u64 (A6 .or .u64 o (i.rd*128)) (i.a*32768)) (i.b*1048576)
def dS (o z:Int) (i:Ins):Int:=if 0<z then A6 .or .u64 (fP o i) (z*4096) else fP o i
def ju (f:Fm) (o z m:Int) (i:Ins):Int :=
 match f with
 | .r=>A6 .or .u64 (dS o z i) (m*33554432)
 | .i=>A6 .or .u64 (dS o z i) (dG i.imm%4096*1048576)
 | .c=>A6 .or .u64 (dS o z i) (dG i.imm%4096*1048576)
 | .h=>A6 .or .u64 (A6 .or .u64 (dS o z i) (dG i.imm%64*1048576)) (m*67108864)
 | .w=>A6 .or .u64 (A6 .or .u64 (dS o z i) (dG i.imm%32*1048576)) (m*33554432)
 | .s=>A6 .or .u64 (A6 .or .u64 (dS o z i) (dG i.imm%32*128)) (dG i.imm/32%128*33554432)
 | .b=>A6 .or .u64 (A6 .or .u64 (A6 .or .u64 (A6 .or .u64 (dS o z i) (dG i.imm/2048%2*128)) (dG i.imm/2%16*256)) (dG i.imm/32%64*33554432)) (dG i.imm/4096%2*2147483648)
 | .u=>A6 .or .u64 (dS o z i) (dG i.imm/4096%1048576*4096)
 | .j=>A6 .or .u64 (A6 .or .u64 (A6 .or .u64 (A6 .or .u64 (dS o z i) (dG i.imm/4096%256*4096)) (dG i.imm/2048%2*1048576)) (dG i.imm/2%1024*2097152)) (dG i.imm/1048576%2*2147483648)
 | .a=>A6 .or .u64 (A6 .or .u64 (dS o z i) (dG i.imm%4*33554432)) (m*134217728)
 | .x=>A6 .or .u64 (dS o z i) (m*1048576)
theorem D9 (a:0<=l) (b:l<4096):∃ q:Int,0<=q/\dG (I4 (aX 12 l))=l+q*4096:=by
 have e:(2:Int)^(64-12)=4503599627370496:=ba
 unfold dG aX;rw [e,H2,H2,H2];unfold I4;by_cases h:l<2048;·exact ⟨0,aa,aa⟩
 ·exact ⟨4503599627370495,aa,aa⟩
theorem OD (a:0<=l) (b:l<8192):∃ q:Int,0<=q/\dG (I4 (aX 13 l))=l+q*8192:=by
 have e:(2:Int)^(64-13)=2251799813685248:=ba
 unfold dG aX;rw [e,H2,H2,H2];unfold I4;by_cases h:l<4096;·exact ⟨0,aa,aa⟩
 ·exact ⟨2251799813685247,aa,aa⟩
theorem OE (a:0<=l) (b:l<2097152):∃ q:Int,0<=q/\dG (I4 (aX 21 l))=l+q*2097152:=by
 have e:(2:Int)^(64-21)=8796093022208:=ba
 unfold dG aX;rw [e,H2,H2,H2];unfold I4;by_cases h:l<1048576;·exact ⟨0,aa,aa⟩
 ·exact ⟨8796093022207,aa,aa⟩
theorem OF (a:0<=l) (b:l<4294967296):∃ q:Int,0<=q/\dG (I4 (aX 32 l))=l+q*4294967296:=by
 have e:(2:Int)^(64-32)=4294967296:=ba
 unfold dG aX;rw [e,H2,H2,H2];unfold I4;by_cases h:l<2147483648;·exact ⟨0,aa,aa⟩
 ·exact ⟨4294967295,aa,aa⟩
theorem rL (a:0<=l) (b:l<4294967296):dG (I4 (aX 64 l))=l:=by rw [xR l a aa];unfold dG;rw [H2];omega
theorem bT (a:0<=l) (b:l<32):dG l=l:=by unfold dG;rw [H2];omega
theorem Pe (a:0<=l) (b:l<18446744073709551616):Uz.wrap l=l:=by rw [H2];omega
