/- Own lemmas. -/
import Derived.Test.YtfagphfjfhpmjaaGreatDoorK23
import Derived.Test.YtfagphfjfhpmjaaGreatDoorK27
set_option maxRecDepth 100000
namespace Go.Proofs.YtfagphfjfhpmjaaGreatDoor.fnSteps
open Go.RowKit Tryz
set_option linter.unusedVariables false
theorem any_fit {M:MV} (h:Ma M):Tl M:=⟨⟨h.ucs,h.bram,h.d.by_.1,h.d.by_.2⟩,h.ux,h.pc,h.hd,h.d.t,h.d.cm⟩
theorem zero_len:jR zeroM:=⟨by simp [zeroM],by simp [zeroM],by simp [zeroM],by simp [zeroM,zeroD],by simp [zeroM,zeroD]⟩
theorem zero_sl (W:World):nR W zeroM zeroA:=by
 have h:∀ (k:IntKind) (p:Option Addr),Sl k W p []:=fun k p j a=>absurd a (Nat.not_lt_zero j)
 exact ⟨h _ _,h _ _,h _ _,h _ _,h _ _⟩
theorem own_src {W:World} {B n d:Nat} {b:Option Addr} {ys:List Int} (h:W.ownsRow B 2 1 (.slice b n d) n (ys.map (Value.int .i64))):b=none∧d=0∧ys=[]∨∃ g,b=some ⟨g,0,none⟩:=by
 rcases h.2 with ⟨e,rfl⟩ | ⟨g,c,a,e,_⟩
 ·cases e
  have:=h.1
  exact Or.inl ⟨rfl,rfl,List.eq_nil_of_length_eq_zero (by simpa using this)⟩
 ·cases e
  exact Or.inr ⟨g,rfl⟩
theorem steps_told {M:MV} (a:Tl M) (n:Int):jR (jL M n).1∧(jL M n).2.length≤300∧((jL M n=(zeroM,[])∧(dI M=false∨decide (n < 0)=true∨decide (300 < n)=true))∨∃ m:Nat,n=m∧m≤300∧dI M=true∧jL M n=bj m M):=by
 unfold jL
 cases c:dI M with
 | false=>exact ⟨zero_len,Nat.zero_le _,Or.inl ⟨if_neg (by simp),Or.inl rfl⟩⟩
 | true =>
   by_cases h:0≤n∧n≤300
   ·rw [if_pos (by simpa using h)]
    have b:=xh n.toNat (M:=M) ⟨a.gd c,a.ud⟩
    have d:=pI n.toNat M
    exact ⟨b.1.len,by omega,Or.inr ⟨n.toNat,by omega,by omega,rfl,rfl⟩⟩
   ·rw [if_neg (by simpa using h)]
    exact ⟨zero_len,Nat.zero_le _,Or.inl ⟨rfl,Or.inr (by simp only [decide_eq_true_eq];omega)⟩⟩
theorem tail_any {w1 w W:World} {R:MV} {C CY:MA} {i j:Nat} {zs xs ys:List Int} {m o p:Option Addr} {y z A n:Nat} (Y:jR R) (E:Bw w1 w) (Z:Vs w [⟨i,aj R C,32,[]⟩,⟨j,aj R CY,32,[]⟩] W) (sC:nR w R C) (sY:nR w R CY) (hz:zs.length≤300) (sQ:Sl .i64 w m zs) (sX:Sl .i64 w o xs) (G:Sl .i64 w p ys) (rX:o=none∧z=0∧xs=[]∨∃ g,o=some ⟨g,0,none⟩) (rY:p=none∧A=0∧ys=[]∨∃ g,p=some ⟨g,0,none⟩) (e:zs=xs ++ ys) (en:zs.length=n) :
 Wg prog (fun _=>True) (bodyPost prog Tryz.f7 fun e H=>e=Ending.returned (.bool true)∧Bw w1 H) Tryz.f7.ntmps [.code (aq 11 (aL Tryz.f7))] [(4,.i (n:Int),0),(5,.p i 0,1),(6,.slice m zs.length y,0),(11,.slice o xs.length z,0),(13,.p j 0,2),(14,.slice p ys.length A,0)] W:=by
 refine aH (Vs w [⟨i,aj R C,32,[]⟩,⟨j,aj R CY,32,[]⟩]) ?_
 refine ae Vs.eng { cv:=[(111,jp Vs.to fun W h=>j6 R CY C W Y (sY.below h.below) (sC.below h.below))] } 30 Z fun b B=>?_
 have le:xs.length+ys.length=zs.length:=by rw [e];simp
 refine jh (jB _) {} 30 0 (AK b) ?_
 have u:=(Below.refl b.heap.size b).alloc (Nat.le_refl _) (.cells #[] 2)
 have L:=World.ownsRow_lit (e:=2) (base:=b.heap.size) (size:=1) b #[] 0 (Nat.le_refl _) (by decide) (by decide)
 generalize b.alloc (.cells #[] 2)=Wb at *
 have hb:=B.to u
 obtain ⟨P,S,Wc,N,F,V⟩:=Ik (W:=[]) (ys:=xs) (A:=some ⟨b.heap.size,0,none⟩) (c:=0) (d:=z) L rX (sX.below hb.below) u.size (by simp;omega)
 refine an (jB _) {} 1 ?_
 refine dF 0 N ?_
 have far:∀ {U I:World} {v:Value} {k:List Value} {q:Nat},Bw b U→U.ownsRow b.heap.size 2 1 v q k→U.grownBy I v.ownBlock→Bw b I:=fun f ho l=>⟨l.os.trans f.os,l.tape.trans f.tape,l.output.trans f.output,Nat.le_trans f.size l.size,fun k K=>(l.block k (Nat.lt_of_lt_of_le K f.size) (fun e=>by have:=(ho.lt k e.symm).1;omega)).trans (f.block k K)⟩
 have x:=far u L V
 have hc:=B.to x
 rw [List.nil_append] at N F
 obtain ⟨s,J,r,r2,M,X⟩:=Ik (W:=xs) (ys:=ys) (A:=P) (c:=S) (d:=A) F rY (G.below hc.below) x.size (by omega)
 refine an (jB _) {} 1 ?_
 refine dF 0 r2 ?_
 have Q:=far x F X
 have D:=B.to Q
 rw [← e] at M
 have s2:Sl .i64 r s zs:=fO M
 have O:∀ W,Vs r [⟨i,aj R C,32,[]⟩,⟨j,aj R CY,32,[]⟩] W→CB 27 #[.slice s (xs ++ ys).length J,.slice m zs.length y] W (.bool true):=fun W h=>by
  rw [← e]
  exact pT s m zs.length J y zs W rfl (by omega) (s2.below h.below) ((sQ.below D.below).below h.below)
 have T:((zs.length:Int)==(n:Int))=true:=by simp;omega
 refine aH (Vs r [⟨i,aj R C,32,[]⟩,⟨j,aj R CY,32,[]⟩]) ?_
 exact bm (t:=2) (v:=.bool true) Vs.eng { cv:=[(119,jp Vs.to O)],eq:=[(125,ak T)] } 60 D.at fun W h=>⟨rfl,aa E (aa D.below h.below)⟩
theorem walk (a0:Option Addr) (l g:Nat) (z0:List Int) (w:World) (w0:Be .u8 w a0 l g z0) (hT:qH w) :
 CB 7 #[.slice a0 l g] w (.bool true):=by
 obtain ⟨bg,hbg⟩:∃ bg,decide (4096 < l)=bg:=⟨_,rfl⟩
 have U:=QH a0 l g w
 rw [hbg] at U
 refine bC (S:=fun _=>True) (args:=[.slice a0 l g]) [] func7 ?_
 refine aN (R:=[]) trivial {} 40 U ?_
 rintro e w1 ⟨rfl,rfl⟩
 refine ⟨_,0,rfl,?_⟩
 cases bg with
 | true=>exact i8 (R:=[]) trivial {} 40 (t:=2) (v:=.bool true) ⟨rfl,Below.refl _ _⟩
 | false =>
   obtain ⟨cs,hcd⟩:=QI w0 (by have:=of_decide_eq_false hbg;omega)
   refine aN (R:=[]) trivial {} 40 (DJ g w1 hcd) ?_
   rintro e s ⟨M,A,n,rfl,hn,hma,hs,hfm,hb2⟩
   refine ⟨_,0,rfl,?_⟩
   have V:=(⟨fun x F=>absurd F (List.not_mem_nil),hb2⟩:Vs w1 [] s)
   refine jh (jB _) {} 30 1 (dD (T:=32) (z:=.agg (aj zeroM zeroA)) (by kernel_rfl) s) ?_
   refine cq (jB _) {} 30 (az (ty:=32) (cells:=aj M A) (heap_alloc_new s _) (by kernel_rfl) (by kernel_rfl) (cN M A)) ?_
   have V3:=V.new (cs:=aj M A) (Value.agg (aj zeroM zeroA)).cells 32
   have b3:=lm s (Value.agg (aj zeroM zeroA)).cells (aj M A) 32
   generalize (s.alloc (.cells (Value.agg (aj zeroM zeroA)).cells 32)).setRow s.heap.size (aj M A)=U3 at *
   have sA:=hs.below b3
   have tab3:=hT.below V3.below
   have L:=hcd.sl.below V3.below
   have hl:=hma.len
   have hf:=any_fit hma
   refine an (jB _) {} 2 ?_
   refine af [.code (aq 3 (aL Tryz.f7))] [(0,.slice a0 l g,0),(3,.p s.heap.size 0,1),(4,.i n,0)] ?_
   have G:=fun W (Q:Bw U3 W)=>mH M A n W hl (sA.below Q) hf (tab3.below Q)
   have HS:=fun W (Q:Bw U3 W)=>xZ M A n W hl (sA.below Q) hf
   obtain ⟨hlV,hlz,told⟩:=steps_told hf n
   generalize eV:jL M n=Z at G HS told hlV hlz
   obtain ⟨R,a⟩:=Z
   dsimp only [Rk] at G HS told hlV hlz
   refine aH (Vs U3 [⟨s.heap.size,aj M A,32,[]⟩]) (aS Vs.eng {} 40 V3.at (fun W h=>G W h.below) ?_)
   rintro W4 e f h4 ⟨C,K,J,rfl,fC,oQ,b5⟩
   refine ⟨_,0,rfl,gh (by kernel_rfl),?_⟩
   clear V
   have V:=(V3.to h4.below).to b5
   refine jh (jB _) {} 30 2 (dD (T:=32) (z:=.agg (aj zeroM zeroA)) (by kernel_rfl) f) ?_
   refine cq (jB _) {} 30 (az (ty:=32) (cells:=aj R C) (heap_alloc_new f _) (by kernel_rfl) (by kernel_rfl) (cN R C)) ?_
   have V6:=V.new (cs:=aj R C) (Value.agg (aj zeroM zeroA)).cells 32
   have b6:=lm f (Value.agg (aj zeroM zeroA)).cells (aj R C) 32
   generalize (f.alloc (.cells (Value.agg (aj zeroM zeroA)).cells 32)).setRow f.heap.size (aj R C)=U6 at *
   have k6:Bw U3 U6:=aa (aa h4.below b5) b6
   have sC:nR U6 R C:=fC.msl.below b6
   have sQ:Sl .i64 U6 K a:=(qQ oQ).li.below b6
   refine an (jB _) {} 2 ?_
   refine af [.code (aq 4 (aL Tryz.f7))] [(0,.slice a0 l g,0),(3,.p s.heap.size 0,1),(4,.i n,0),(5,.p f.heap.size 0,2),(6,.slice K a.length J,0)] ?_
   refine aH (Vs U6 [⟨s.heap.size,aj M A,32,[]⟩,⟨f.heap.size,aj R C,32,[]⟩]) (aS Vs.eng {} 40 V6.at (fun W h=>HS W (aa k6 h.below)) ?_)
   rintro W7 e W8 h7 ⟨D,aP,cP,rfl,fD,oP,b8⟩
   refine ⟨_,0,rfl,gh (by kernel_rfl),?_⟩
   clear V
   have V:=(V6.to h7.below).to b8
   refine jh (jB _) {} 30 3 (dD (T:=32) (z:=.agg (aj zeroM zeroA)) (by kernel_rfl) W8) ?_
   refine cq (jB _) {} 30 (az (ty:=32) (cells:=aj R D) (heap_alloc_new W8 _) (by kernel_rfl) (by kernel_rfl) (cN R D)) ?_
   have V9:=V.new (cs:=aj R D) (Value.agg (aj zeroM zeroA)).cells 32
   have b9:=lm W8 (Value.agg (aj zeroM zeroA)).cells (aj R D) 32
   generalize (W8.alloc (.cells (Value.agg (aj zeroM zeroA)).cells 32)).setRow W8.heap.size (aj R D)=U9 at *
   have k9:Bw U6 U9:=aa (aa h7.below b8) b9
   have sC9:=sC.below k9
   have sQ9:=sQ.below k9
   have sA9:=(sA.below k6).below k9
   have sD9:=fD.msl.below b9
   have sP9:=(qQ oP).li.below b9
   have tab9:=(tab3.below k6).below k9
   have O:=(L.below k6).below k9
   have hb9:=V9.below
   have P9:=V9.at
   clear V V3 V6 V9 h4 h7 b3 b5 b6 b8 b9 G HS fC fD sA sC sQ k6 k9 oQ oP tab3 L hs hfm hb2 U
   refine an (jB _) {} 2 ?_
   refine af [.code (aq 1 (iF (aq 4 (aL Tryz.f7)))),.code (aq 5 (aL Tryz.f7))] [(0,.slice a0 l g,0),(3,.p s.heap.size 0,1),(4,.i n,0),(5,.p f.heap.size 0,2),(6,.slice K a.length J,0),(7,.p W8.heap.size 0,3),(8,.slice aP a.length cP,0)] ?_
   refine aH (Vs U9 [⟨s.heap.size,aj M A,32,[]⟩,⟨f.heap.size,aj R C,32,[]⟩,⟨W8.heap.size,aj R D,32,[]⟩]) ?_
   refine ae Vs.eng { cv:=[(36,jp Vs.to fun W h=>j6 R C D W hlV (sC9.below h.below) (sD9.below h.below)),(41,jp Vs.to fun W h=>pT K aP a.length J cP a W rfl (by omega) (sQ9.below h.below) (sP9.below h.below))] } 15 P9 fun Wa ha=>?_
   have va:Vs U9 [⟨s.heap.size,aj M A,32,[]⟩,⟨f.heap.size,aj R C,32,[]⟩] Wa:=⟨fun x F=>ha.rows x (by simp only [List.mem_cons,List.not_mem_nil,or_false] at F ⊢;rcases F with h | h<;>simp [h]),ha.below⟩
   refine af [.code (aq 5 (aL Tryz.f7))] [(0,.slice a0 l g,0),(3,.p s.heap.size 0,1),(4,.i n,0),(5,.p f.heap.size 0,2),(6,.slice K a.length J,0)] ?_
   refine aH (Vs U9 [⟨s.heap.size,aj M A,32,[]⟩,⟨f.heap.size,aj R C,32,[]⟩]) ?_
   have HK:=fun W (h:Vs U9 [⟨s.heap.size,aj M A,32,[]⟩,⟨f.heap.size,aj R C,32,[]⟩] W)=>mn M A W hl (sA9.below h.below)
   clear ha sD9 sP9
   rcases told with ⟨e,hno⟩ | ⟨q,rfl,hq,hok,e⟩
   ·obtain ⟨rfl,rfl⟩:=Prod.mk.inj e
    have hz:=fun W (h:Vs U9 [⟨s.heap.size,aj M A,32,[]⟩,⟨f.heap.size,aj zeroM C,32,[]⟩] W)=>j6 zeroM C zeroA W zero_len (sC9.below h.below) (zero_sl W)
    have fin:∀ W,Vs U9 [⟨s.heap.size,aj M A,32,[]⟩,⟨f.heap.size,aj zeroM C,32,[]⟩] W→Ending.returned (.bool true)=.returned (.bool true)∧Bw w1 W:=fun W h=>⟨rfl,aa hb9 h.below⟩
    cases ok:dI M with
    | false =>
      rw [ok] at HK
      exact bm (t:=2) (v:=.bool true) Vs.eng { cv:=[(45,jp Vs.to HK),(61,jp Vs.to hz)] } 60 va fin
    | true =>
      rw [ok] at HK
      cases d1:decide (n < 0) with
      | true=>exact bm (t:=2) (v:=.bool true) Vs.eng { eq:=[(49,ak d1)],cv:=[(45,jp Vs.to HK),(61,jp Vs.to hz)] } 60 va fin
      | false =>
        have d2:decide (300 < n)=true:=by
         rcases hno with h | h | h
         ·rw [ok] at h;cases h
         ·rw [d1] at h;cases h
         ·exact h
        exact bm (t:=2) (v:=.bool true) Vs.eng { eq:=[(49,ak d1),(53,ak d2)],cv:=[(45,jp Vs.to HK),(61,jp Vs.to hz)] } 60 va fin
   ·rw [hok] at HK
    have d1:decide ((q:Int) < 0)=false:=by rw [decide_eq_false_iff_not];omega
    have d2:decide (300 < (q:Int))=false:=by rw [decide_eq_false_iff_not];omega
    refine ae Vs.eng { eq:=[(49,ak d1),(53,ak d2)],cv:=[(45,jp Vs.to HK)] } 17 va fun Wb Q=>?_
    refine af [.code (aq 6 (aL Tryz.f7))] [(0,.slice a0 l g,0),(3,.p s.heap.size 0,1),(4,.i (q:Int),0),(5,.p f.heap.size 0,2),(6,.slice K a.length J,0)] ?_
    obtain ⟨tl,hty⟩:∃ k,k=a.length:=⟨_,rfl⟩
    have hq1:IntKind.i64.wrap ((q:Int)+1)=(q:Int)+1:=by rw [IntKind.wrap_i64];omega
    have HP:=fun W (h:Vs U9 [⟨s.heap.size,aj M A,32,[]⟩,⟨f.heap.size,aj R C,32,[]⟩] W)=>Nt a0 l g cs ((q:Int)+1) W hcd.len (by have:=hcd.few;omega) (O.below h.below) hcd.bd (by omega) (by omega)
    refine aS Vs.eng { eq:=[(65,dG .i64 hq1)] } 40 Q HP ?_
    rintro Wc0 e0 Wc H ⟨k,rfl,⟨hk0,hk1⟩,rfl⟩
    refine ⟨_,0,rfl,gh (by kernel_rfl),?_⟩
    obtain ⟨k,rfl⟩:=Int.eq_ofNat_of_zero_le hk0
    refine an (jB _) {} 2 ?_
    refine af [.code (aq 7 (aL Tryz.f7))] [(3,.p s.heap.size 0,1),(4,.i (q:Int),0),(5,.p f.heap.size 0,2),(6,.slice K a.length J,0),(9,.i (k:Int),0)] ?_
    have sC10:=sC9.below H.below
    have sQ10:=sQ9.below H.below
    have sA10:=sA9.below H.below
    have I:=tab9.below H.below
    have hb10:=aa hb9 H.below
    have P10:=H.at
    clear Q HP H O va sC9 sQ9 sA9 tab9 hb9 P9
    have hg:Gw M:=⟨hf.gd hok,hf.ud⟩
    have ek:jL M (k:Int)=bj k M:=by
     unfold jL
     rw [hok,if_pos (by simp;omega),Int.toNat_natCast]
    have G:=fun W (h:Vs Wc [⟨s.heap.size,aj M A,32,[]⟩,⟨f.heap.size,aj R C,32,[]⟩] W)=>mH M A k W hl (sA10.below h.below) hf (I.below h.below)
    have B:Gw (bj k M).1:=xh k hg
    have hxl:=pI k M
    rw [ek] at G
    generalize eX:bj k M=Z at G B hxl
    obtain ⟨X,xs⟩:=Z
    dsimp only [Rk] at G B hxl
    refine aH (Vs Wc [⟨s.heap.size,aj M A,32,[]⟩,⟨f.heap.size,aj R C,32,[]⟩]) (aS Vs.eng {} 40 P10 G ?_)
    rintro Wd0 e1 u h11 ⟨E,aX,cX,rfl,fX,oX,b11⟩
    refine ⟨_,0,rfl,gh (by kernel_rfl),?_⟩
    have V:=(h11.to b11)
    refine jh (jB _) {} 30 3 (dD (T:=32) (z:=.agg (aj zeroM zeroA)) (by kernel_rfl) u) ?_
    refine cq (jB _) {} 30 (az (ty:=32) (cells:=aj X E) (heap_alloc_new u _) (by kernel_rfl) (by kernel_rfl) (cN X E)) ?_
    have V12:=V.new (cs:=aj X E) (Value.agg (aj zeroM zeroA)).cells 32
    have b12:=lm u (Value.agg (aj zeroM zeroA)).cells (aj X E) 32
    generalize (u.alloc (.cells (Value.agg (aj zeroM zeroA)).cells 32)).setRow u.heap.size (aj X E)=m at *
    have k12:Bw Wc m:=V12.below
    have sX:nR m X E:=fX.msl.below b12
    have lX:Sl .i64 m aX xs:=(qQ oX).li.below b12
    have rX:=own_src oX
    have sC12:=sC10.below k12
    have sQ12:=sQ10.below k12
    have tab12:=I.below k12
    have hb12:=aa hb10 k12
    have v12:Vs m [⟨f.heap.size,aj R C,32,[]⟩,⟨u.heap.size,aj X E,32,[]⟩] m:=⟨fun x F=>V12.rows x (by simp only [List.mem_cons,List.not_mem_nil,or_false] at F;rcases F with h | h<;>simp [h]),Below.refl _ _⟩
    refine an (jB _) {} 2 ?_
    refine af [.code (aq 8 (aL Tryz.f7))] [(4,.i (q:Int),0),(5,.p f.heap.size 0,2),(6,.slice K a.length J,0),(9,.i (k:Int),0),(10,.p u.heap.size 0,3),(11,.slice aX xs.length cX,0)] ?_
    refine aK 5 1 ?_
    refine aK 10 2 ?_
    clear V V12 k12 fX oX b11 h11 G b12 P10 sA10 I sC10 sQ10 hb10
    have hnx:bj q M=(R,a):=e.symm
    have wlk:=xm q M
    have mor:=qp q k M (by omega)
    rw [hnx] at wlk mor
    dsimp only at wlk mor
    have p:(∀ i,i < a.length→a.getD i 0≠4)→∀ W,Vs m [⟨f.heap.size,aj R C,32,[]⟩,⟨u.heap.size,aj X E,32,[]⟩] W→Wg prog (Vs m [⟨f.heap.size,aj R C,32,[]⟩,⟨u.heap.size,aj X E,32,[]⟩]) (bodyPost prog Tryz.f7 fun e w'=>e=Ending.returned (.bool true)∧Bw w1 w') Tryz.f7.ntmps [.code (aq 10 (aL Tryz.f7))] [(4,.i (q:Int),0),(5,.p f.heap.size 0,1),(6,.slice K a.length J,0),(9,.i (k:Int),0),(10,.p u.heap.size 0,2),(11,.slice aX xs.length cX,0)] W:=by
     intro P W hW
     obtain ⟨hlen,r⟩:=mor P
     rw [eX] at r
     dsimp only at r
     have eY:jL X ((q:Int) - (k:Int))=bj (q - k) X:=by
      unfold jL
      rw [B.1.ok,if_pos (by simp;omega)]
      congr 1
      omega
     have G:=fun W (h:Vs m [⟨f.heap.size,aj R C,32,[]⟩,⟨u.heap.size,aj X E,32,[]⟩] W)=>mH X E ((q:Int) - (k:Int)) W B.1.len (sX.below h.below) ⟨B.1.mw,B.1.ux,B.1.pc,B.1.hd,B.2⟩ (tab12.below h.below)
     rw [eY] at G
     generalize bj (q - k) X=Y at G r
     obtain ⟨N,ys⟩:=Y
     dsimp only [Rk] at G r
     obtain ⟨rfl,hzy⟩:=Prod.mk.inj r
     have hq2:IntKind.i64.wrap ((q:Int) - (k:Int))=(q:Int) - (k:Int):=by rw [IntKind.wrap_i64];omega
     refine aS Vs.eng { eq:=[(105,dG .i64 hq2)] } 40 hW G ?_
     rintro We0 e2 We h13 ⟨CY,aY,cY,rfl,fY,oY,b13⟩
     refine ⟨_,0,rfl,gh (by kernel_rfl),?_⟩
     have V:=(h13.to b13)
     refine jh (jB _) {} 30 3 (dD (T:=32) (z:=.agg (aj zeroM zeroA)) (by kernel_rfl) We) ?_
     refine cq (jB _) {} 30 (az (ty:=32) (cells:=aj R CY) (heap_alloc_new We _) (by kernel_rfl) (by kernel_rfl) (cN R CY)) ?_
     have V14:=V.new (cs:=aj R CY) (Value.agg (aj zeroM zeroA)).cells 32
     have b14:=lm We (Value.agg (aj zeroM zeroA)).cells (aj R CY) 32
     generalize (We.alloc (.cells (Value.agg (aj zeroM zeroA)).cells 32)).setRow We.heap.size (aj R CY)=U14 at *
     have sY:nR U14 R CY:=fY.msl.below b14
     have lY:Sl .i64 U14 aY ys:=(qQ oY).li.below b14
     have rY:=own_src oY
     have v14:Vs m [⟨f.heap.size,aj R C,32,[]⟩,⟨We.heap.size,aj R CY,32,[]⟩] U14:=⟨fun x F=>V14.rows x (by simp only [List.mem_cons,List.not_mem_nil,or_false] at F;rcases F with h | h<;>simp [h]),V14.below⟩
     refine an (jB _) {} 2 ?_
     refine af [.code (aq 11 (aL Tryz.f7))] [(4,.i (q:Int),0),(5,.p f.heap.size 0,2),(6,.slice K a.length J,0),(11,.slice aX xs.length cX,0),(13,.p We.heap.size 0,3),(14,.slice aY ys.length cY,0)] ?_
     refine aK 5 1 ?_
     refine aK 13 2 ?_
     have v15:=v14.at
     exact aH (fun _=>True) (tail_any hlV (aa hb12 v14.below) v15 (sC12.below v14.below) sY hlz (sQ12.below v14.below) (lX.below v14.below) lY rX rY hzy hlen)
    have hwl:a.length≠0→IntKind.i64.wrap ((a.length:Int) - 1)=((a.length - 1:Nat):Int):=fun h=>by rw [IntKind.wrap_i64];omega
    have fin:∀ W,Vs m [⟨f.heap.size,aj R C,32,[]⟩,⟨u.heap.size,aj X E,32,[]⟩] W→Wg prog (Vs m [⟨f.heap.size,aj R C,32,[]⟩,⟨u.heap.size,aj X E,32,[]⟩]) (bodyPost prog Tryz.f7 fun e w'=>e=Ending.returned (.bool true)∧Bw w1 w') Tryz.f7.ntmps [.code (aq 9 (aL Tryz.f7))] [(4,.i (q:Int),0),(5,.p f.heap.size 0,1),(6,.slice K a.length J,0),(9,.i (k:Int),0),(10,.p u.heap.size 0,2),(11,.slice aX xs.length cX,0)] W:=by
     intro W hW
     by_cases h0:a.length=0
     ·have d:decide (0 < (a.length:Int))=false:=by rw [decide_eq_false_iff_not];omega
      refine ae Vs.eng { eq:=[(87,ak d)] } 18 hW fun Wx F=>?_
      exact af _ _ (p (fun i hi=>by omega) Wx F)
     ·have d:decide (0 < (a.length:Int))=true:=by rw [decide_eq_true_eq];omega
      obtain ⟨b,o,e1,Q,hc⟩:=sQ12 (a.length - 1) (by omega)
      have cl:∀ V,Vs m [⟨f.heap.size,aj R C,32,[]⟩,⟨u.heap.size,aj X E,32,[]⟩] V→V.cell? ⟨b,o+(a.length - 1),none⟩=some (.i (a.getD (a.length - 1) 0)):=fun V h=>(h.below.cell (by exact Q)).trans hc
      have hw:=hwl h0
      cases h4:(a.getD (a.length - 1) 0==4) with
      | true =>
        have d2:decide ((a.length:Int)≤(q:Int))=true:=by
         rw [decide_eq_true_eq]
         have:=pI q M
         rw [hnx] at this
         dsimp only at this
         omega
        generalize a.getD (a.length - 1) 0=y at *
        exact bm (t:=2) (v:=.bool true) Vs.eng { eq:=[(87,ak d),(92,dG .i64 hw),(95,ak h4),(100,ak d2)],ov:=[(93,kF a.length J .i64 ((a.length - 1:Nat):Int) e1 ⟨by omega,by omega⟩ underlying39 (by kernel_rfl)),(94,iL ⟨b,o+((a.length - 1:Nat):Int).toNat,none⟩ (.i y) underlying2 rfl cl)] } 60 hW fun V h=>⟨rfl,aa hb12 h.below⟩
      | false =>
        have P:∀ i,i < a.length→a.getD i 0≠4:=fun i hi=>by
         by_cases hi1:i+1 < a.length
         ·exact wlk i hi1
         ·have:i=a.length - 1:=by omega
          rw [this]
          intro h
          rw [h] at h4
          cases h4
        have r19:=p P
        clear p
        generalize a.getD (a.length - 1) 0=y at *
        refine ae Vs.eng { eq:=[(87,ak d),(92,dG .i64 hw),(95,ak h4)],ov:=[(93,kF a.length J .i64 ((a.length - 1:Nat):Int) e1 ⟨by omega,by omega⟩ underlying39 (by kernel_rfl)),(94,iL ⟨b,o+((a.length - 1:Nat):Int).toNat,none⟩ (.i y) underlying2 rfl cl)] } 18 hW fun Wx F=>?_
        exact af _ _ (r19 Wx F)
    clear p
    refine aH (Vs m [⟨f.heap.size,aj R C,32,[]⟩,⟨u.heap.size,aj X E,32,[]⟩]) ?_
    refine ae Vs.eng {} 20 v12 fun Wx F=>?_
    have hwi:IntKind.i64.wrap ((a.length:Int) - 1)=(a.length:Int) - 1:=by rw [IntKind.wrap_i64];omega
    refine kS (fun i:Nat=>[(4,.i (q:Int),0),(5,.p f.heap.size 0,1),(6,.slice K a.length J,0),(9,.i (k:Int),0),(10,.p u.heap.size 0,2),(11,.slice aX xs.length cX,0),(12,.i (i:Int),0)]) (fun j i W=>i+j=a.length - 1∧Vs m [⟨f.heap.size,aj R C,32,[]⟩,⟨u.heap.size,aj X E,32,[]⟩] W) (a.length - 1) 0 (by kernel_rfl) (by kernel_rfl) ⟨by omega,F⟩ ?_
    rintro j i W ⟨ej,hW⟩ Rr hR
    cases j with
    | zero =>
      have d:decide ((i:Int) < (a.length:Int) - 1)=false:=by rw [decide_eq_false_iff_not];omega
      refine ae Vs.eng { eq:=[(76,dG .i64 hwi),(77,ak d)] } 11 hW fun Wy hy=>?_
      exact af _ _ (fin Wy hy)
    | succ j =>
      have d:decide ((i:Int) < (a.length:Int) - 1)=true:=by rw [decide_eq_true_eq];omega
      obtain ⟨b,o,e1,Q,hc⟩:=sQ12 i (by omega)
      have cl:∀ V,Vs m [⟨f.heap.size,aj R C,32,[]⟩,⟨u.heap.size,aj X E,32,[]⟩] V→V.cell? ⟨b,o+i,none⟩=some (.i (a.getD i 0)):=fun V h=>(h.below.cell (by exact Q)).trans hc
      have h4:(a.getD i 0==4)=false:=by have:=wlk i (by omega);simpa using this
      have hw:IntKind.i64.wrap ((i:Nat)+1:Int)=((i+1:Nat):Int):=by rw [IntKind.wrap_i64];omega
      generalize a.getD i 0=y at *
      exact zD Vs.eng { eq:=[(76,dG .i64 hwi),(77,ak d),(84,ak h4),(79,dG .i64 hw)],ov:=[(82,kF a.length J .i64 (i:Int) e1 ⟨by omega,by omega⟩ underlying39 (by kernel_rfl)),(83,iL ⟨b,o+(i:Int).toNat,none⟩ (.i y) underlying2 rfl cl)] } 60 hW fun c V hV hk=>hR c V j (i+1) (by omega) (hk.less (by kernel_rfl)) ⟨by omega,hV⟩
end Go.Proofs.YtfagphfjfhpmjaaGreatDoor.fnSteps
