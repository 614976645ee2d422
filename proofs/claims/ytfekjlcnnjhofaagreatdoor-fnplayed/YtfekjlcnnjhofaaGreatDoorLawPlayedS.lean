/- Own lemmas. -/
import Derived.Test.YtfekjlcnnjhofaaGreatDoorK23
import Derived.Test.YtfekjlcnnjhofaaGreatDoorK27
set_option maxRecDepth 100000
namespace Go.Proofs.YtfekjlcnnjhofaaGreatDoor.fnPlayed
open Go.RowKit Tryz
open Below renaming refl->C5
open Go renaming heap_alloc_new->D1,setRow_heap->D2,World->D3,setRow_other->D4
open List renaming mem_cons_of_mem->A5,mem_cons_self->A6,not_mem_nil->A8,mem_cons->A9
open Nat renaming le_refl->F0,zero_le->F3
open Value renaming agg->C6
open _root_.Array renaming getElem?_eq_some_iff->D8
set_option linter.unusedVariables false
theorem any_fit {M:MV} (h:Ma M):RS M:=⟨⟨h.ucs,h.bram,h.d.by_.1,h.d.by_.2⟩,h.ux,h.pc,h.hd,h.d.t,h.d.cm⟩
theorem zero_len:iR zeroM:=⟨by simp [zeroM],by simp [zeroM],by simp [zeroM],by simp [zeroM,zeroD],by simp [zeroM,zeroD]⟩
theorem zero_sl (W:D3):oe W zeroM zeroA:=by
 have h:∀ (k:IntKind) (p:Option Addr),Sl k W p []:=fun k p j a=>absurd a (Nat.not_lt_zero j)
 exact ⟨h _ _,h _ _,h _ _,h _ _,h _ _⟩
theorem play_told {M:MV} (a:RS M) (l:List (Int × Int)):iR (mA M l).1∧(mA M l).2≤300*l.length∧((mA M l=(zeroM,0)∧(dJ M=false∨decide (100<(l.length:Int))))∨dJ M=true∧l.length≤100∧mA M l=iN l M∧Gw M∧Gw (iN l M).1):=by
 unfold mA
 cases c:dJ M with
 | false=>exact ⟨zero_len,F3 _,Or.inl ⟨if_neg (by simp),Or.inl rfl⟩⟩
 | true =>
   by_cases h:l.length≤100
   ·rw [if_pos (by simpa using h)]
    have b:=Ir l (M:=M) ⟨a.gd c,a.ud⟩
    exact ⟨b.1.len,Is l M,Or.inr ⟨rfl,h,rfl,⟨a.gd c,a.ud⟩,b⟩⟩
   ·rw [if_neg (by simpa using h)]
    exact ⟨zero_len,F3 _,Or.inl ⟨rfl,Or.inr (by simp only [decide_eq_true_eq];omega)⟩⟩
def ovE {S:D3→Prop} (a:Option Addr) (n c i:Nat) (k:Int) {b o:Nat} (u:a=some ⟨b,o,none⟩) (hk:k=(i:Int)+1) (x:i<n) (v:n≤c):Ov prog S :=
 ⟨do pure (.value (← Instr.sliceAt 30 (.slice a n c) (some (.i i)) (some (.i k)) none)),.slice (some ⟨b,o+i*2,none⟩) 1 (c - i),0,fun W _=>by
  subst u
  obtain ⟨y,f,e⟩:=Option.map_eq_some_iff.1 pO
  simp only [Prod.mk.injEq] at e
  have s:prog.underlying 30=some (.slice 43):=underlying30
  have p:prog.elem 30=43:=by simp [Program.elem,s]
  have q:prog.underlying 30=some (.slice (prog.elem 30)):=by rw [p];exact s
  have l:¬ c=i:=by omega
  have g:k.toNat=i+1:=by omega
  have t:∀ j:Nat,(⟨b,o,none⟩:Addr).add j=⟨b,o+j,none⟩:=fun j=>by cases j<;>simp [Addr.add]
  have r:=run_slice_lh (P:=prog) (w:=W) 30 (some ⟨b,o,none⟩) n c q .i64 .i64 (i:Int) k (by omega) (by omega) (by omega)
  rw [← run_sliceAt_slice (P:=prog) (w:=W) 30 _ _ _ _ q,p] at r
  obtain ⟨m,d⟩:∃ m:Int,(i:Int)=m:=⟨_,rfl⟩
  rw [d] at r ⊢
  have h:m.toNat=i:=by omega
  simp [r,sizeOf,typeInfo,f,e,sliced,l,g,h,t,Result.andThen]⟩
theorem fam_mnew {B E:Nat} {W:D3} {M:MV} {A:MA} (h:bj B E W (aF M A)):td B A:=fun p a b c e=>by
 rcases a with rfl | rfl | rfl | rfl | rfl
 ·exact ((h.own _ (A6 ..)).lt b (by rw [e];rfl)).1
 ·exact ((h.own _ (A5 _ (A6 ..))).lt b (by rw [e];rfl)).1
 ·exact ((h.own _ (A5 _ (A5 _ (A6 ..)))).lt b (by rw [e];rfl)).1
 ·exact ((h.own _ (A5 _ (A5 _ (A5 _ (A6 ..))))).lt b (by rw [e];rfl)).1
 ·exact ((h.own _ (A5 _ (A5 _ (A5 _ (A5 _ (A6 ..)))))).lt b (by rw [e];rfl)).1
theorem Vs.ez {w:D3} {L:List Kr}:Ez (Vs w L) (L.map fun x=>⟨x.b,x.cs,x.tg⟩):=⟨fun W h r a=>by obtain ⟨y,b,rfl⟩:=List.mem_map.1 a;exact ⟨_,_,h.rows y b⟩,fun W h=>h.to (C5 _ _).drew⟩
theorem Vs.dw {w W W':D3} {L:List Kr} (h:Vs w L W) (d:Dw W W'):Vs w L W':=h.to (d.below (C5 _ _))
noncomputable def lpL:Go.Code:=nV (nV (au 1 (fW (au 9 (aM Tryz.f3)))))
noncomputable def lpI:Go.Code:=nV (fW (au 1 lpL))
noncomputable def lpK (T:Act→D3→Prop):List KI:=[.blk 1,.code (au 2 lpL),.fin T,.blk 0,.code (au 10 (aM Tryz.f3))]
structure Lq (U:D3) (o xb:Nat) (C:MA) (l:List (Int × Int)) (R:MV) (z j:Nat) (x:MV × MA × Nat × Nat) (W:D3):Prop where
 ij:x.2.2.2+j=l.length
 vs:Vs U [⟨o,ak R C,29,[]⟩] W
 row:W.heap[xb]?=some (.cells (ak x.1 x.2.1) 29 (0,0))
 sl:oe W x.1 x.2.1
 gw:Gw x.1
 st:(R,z)=((iN (l.drop x.2.2.2) x.1).1,x.2.2.1+(iN (l.drop x.2.2.2) x.1).2)
theorem walk (a0:Option Addr) (H G:Nat) (z0:List Int) (w:D3) (w0:Bu .u8 w a0 H G z0) (hT:pu w) :
 CB 3 #[.slice a0 H G] w (.bool true):=by
 obtain ⟨bg,hbg⟩:∃ bg,decide (4096<H)=bg:=⟨_,rfl⟩
 have O:=Q5 a0 H G w
 rw [hbg] at O
 refine br (S:=fun _=>True) (args:=[.slice a0 H G]) [] func3 ?_
 refine aC (R:=[]) trivial {} 40 O ?_
 rintro e w1 ⟨rfl,rfl⟩
 refine ⟨_,0,rfl,?_⟩
 cases bg with
 | true=>exact jm (R:=[]) trivial {} 40 (t:=2) (v:=.bool true) ⟨rfl,C5 _ _⟩
 | false =>
   obtain ⟨cs,hcd⟩:=Q6 w0 (by have:=of_decide_eq_false hbg;omega)
   refine aC (R:=[]) trivial {} 40 (GA G w1 hcd) ?_
   rintro e r ⟨M,A,l,b,d,rfl,⟨few,hcap,hwf⟩,hma,hs,hes,J⟩
   refine ⟨_,0,rfl,?_⟩
   have V:=(⟨fun x E=>absurd E (A8),J⟩:Vs w1 [] r)
   refine gz (mX _) {} 30 1 (ct (T:=29) (z:=.agg (ak zeroM zeroA)) (by kernel_rfl) r) ?_
   refine bx (mX _) {} 30 (av (ty:=29) (cells:=ak M A) (D1 r _) (by kernel_rfl) (by kernel_rfl) (bO M A)) ?_
   have V3:=V.new (cs:=ak M A) (C6 (ak zeroM zeroA)).cells 29
   have b3:=iE r (C6 (ak zeroM zeroA)).cells (ak M A) 29
   generalize (r.alloc (.cells (C6 (ak zeroM zeroA)).cells 29)).setRow r.heap.size (ak M A)=U3 at *
   have sA:=hs.below b3
   have sE:=hes.below b3
   have Q:=hT.below V3.below
   have hl:=hma.len
   have hf:=any_fit hma
   refine aj (mX _) {} 2 ?_
   refine af [.code (au 3 (aM Tryz.f3))] [(3,.p r.heap.size 0,1),(4,.slice b l.length d,0)] ?_
   have HI:=fun W (I:Bw U3 W)=>rI M A l b d W hl (sA.below I) hf (Q.below I) (sE.below I) hwf
   have HS:=fun W (I:Bw U3 W)=>AT M A l b d W hl (sA.below I) hf (sE.below I)
   obtain ⟨hlV,hlz,told⟩:=play_told hf l
   generalize eV:mA M l=Z at HI HS told hlV hlz
   obtain ⟨R,z⟩:=Z
   dsimp only [mQ] at HI HS told hlV hlz
   refine aL (Vs U3 [⟨r.heap.size,ak M A,29,[]⟩]) (aT Vs.eng {} 40 V3.at (fun W h=>HI W h.below) ?_)
   rintro W4 e a h4 ⟨C,rfl,fC,b5⟩
   refine ⟨_,0,rfl,gi (by kernel_rfl),?_⟩
   clear V
   have V:=(V3.to h4.below).to b5
   refine gz (mX _) {} 30 2 (ct (T:=29) (z:=.agg (ak zeroM zeroA)) (by kernel_rfl) a) ?_
   refine bx (mX _) {} 30 (av (ty:=29) (cells:=ak R C) (D1 a _) (by kernel_rfl) (by kernel_rfl) (bO R C)) ?_
   have V6:=V.new (cs:=ak R C) (C6 (ak zeroM zeroA)).cells 29
   have b6:=iE a (C6 (ak zeroM zeroA)).cells (ak R C) 29
   generalize (a.alloc (.cells (C6 (ak zeroM zeroA)).cells 29)).setRow a.heap.size (ak R C)=U6 at *
   have k6:Bw U3 U6:=aa (aa h4.below b5) b6
   have sC:oe U6 R C:=fC.msl.below b6
   refine aj (mX _) {} 2 ?_
   refine af [.code (au 4 (aM Tryz.f3))] [(3,.p r.heap.size 0,1),(4,.slice b l.length d,0),(5,.p a.heap.size 0,2),(6,.i (z:Int),0)] ?_
   refine aL (Vs U6 [⟨r.heap.size,ak M A,29,[]⟩,⟨a.heap.size,ak R C,29,[]⟩]) (aT Vs.eng {} 40 V6.at (fun W h=>HS W (aa k6 h.below)) ?_)
   rintro W7 e W8 h7 ⟨D,rfl,fD,b8⟩
   refine ⟨_,0,rfl,gi (by kernel_rfl),?_⟩
   clear V
   have V:=(V6.to h7.below).to b8
   refine gz (mX _) {} 30 3 (ct (T:=29) (z:=.agg (ak zeroM zeroA)) (by kernel_rfl) W8) ?_
   refine bx (mX _) {} 30 (av (ty:=29) (cells:=ak R D) (D1 W8 _) (by kernel_rfl) (by kernel_rfl) (bO R D)) ?_
   have V9:=V.new (cs:=ak R D) (C6 (ak zeroM zeroA)).cells 29
   have b9:=iE W8 (C6 (ak zeroM zeroA)).cells (ak R D) 29
   generalize (W8.alloc (.cells (C6 (ak zeroM zeroA)).cells 29)).setRow W8.heap.size (ak R D)=U9 at *
   have k9:Bw U6 U9:=aa (aa h7.below b8) b9
   have sC9:=sC.below k9
   have sA9:=(sA.below k6).below k9
   have sE9:=(sE.below k6).below k9
   have sD9:=fD.msl.below b9
   have tab9:=(Q.below k6).below k9
   have hb9:=V9.below
   have P9:=V9.at
   clear V V3 V6 V9 h4 h7 b3 b5 b6 b8 b9 HI HS fC fD sA sC sE k6 k9 Q hs J O hes
   refine aj (mX _) {} 2 ?_
   refine af [.code (au 1 (fW (au 4 (aM Tryz.f3)))),.code (au 5 (aM Tryz.f3))] [(3,.p r.heap.size 0,1),(4,.slice b l.length d,0),(5,.p a.heap.size 0,2),(6,.i (z:Int),0),(7,.p W8.heap.size 0,3),(8,.i (z:Int),0)] ?_
   refine aL (Vs U9 [⟨r.heap.size,ak M A,29,[]⟩,⟨a.heap.size,ak R C,29,[]⟩,⟨W8.heap.size,ak R D,29,[]⟩]) ?_
   have ez:((z:Int)!=(z:Int))=false:=by simp
   refine ae Vs.eng {eq:=[(35,an ez)],cv:=[(39,iQ Vs.to fun W h=>ke R C D W hlV (sC9.below h.below) (sD9.below h.below))]} 14 P9 fun Wa ha=>?_
   have va:Vs U9 [⟨r.heap.size,ak M A,29,[]⟩,⟨a.heap.size,ak R C,29,[]⟩] Wa:=⟨fun x E=>ha.rows x (by simp only [A9,A8,or_false] at E ⊢;rcases E with h | h<;>simp [h]),ha.below⟩
   refine af [.code (au 5 (aM Tryz.f3))] [(3,.p r.heap.size 0,1),(4,.slice b l.length d,0),(5,.p a.heap.size 0,2),(6,.i (z:Int),0)] ?_
   refine aL (Vs U9 [⟨r.heap.size,ak M A,29,[]⟩,⟨a.heap.size,ak R C,29,[]⟩]) ?_
   have HK:=fun W (h:Vs U9 [⟨r.heap.size,ak M A,29,[]⟩,⟨a.heap.size,ak R C,29,[]⟩] W)=>mu M A W hl (sA9.below h.below)
   clear ha sD9
   rcases told with ⟨e,hno⟩ | ⟨hok,hfew,e,hg,hgR⟩
   ·obtain ⟨rfl,rfl⟩:=Prod.mk.inj e
    have hz:=fun W (h:Vs U9 [⟨r.heap.size,ak M A,29,[]⟩,⟨a.heap.size,ak zeroM C,29,[]⟩] W)=>ke zeroM C zeroA W zero_len (sC9.below h.below) (zero_sl W)
    have fin:∀ W,Vs U9 [⟨r.heap.size,ak M A,29,[]⟩,⟨a.heap.size,ak zeroM C,29,[]⟩] W→Ending.returned (.bool true)=.returned (.bool true)∧Bw w1 W:=fun W h=>⟨rfl,aa hb9 h.below⟩
    cases ok:dJ M with
    | false =>
      rw [ok] at HK
      exact bn (t:=2) (v:=.bool true) Vs.eng {cv:=[(43,iQ Vs.to HK),(55,iQ Vs.to hz)]} 60 va fin
    | true =>
      rw [ok] at HK
      have d1:decide (100<(l.length:Int)):=by
       rcases hno with h | h
       ·rw [ok] at h;cases h
       ·exact h
      exact bn (t:=2) (v:=.bool true) Vs.eng {eq:=[(48,an d1)],cv:=[(43,iQ Vs.to HK),(55,iQ Vs.to hz)]} 60 va fin
   ·rw [hok] at HK
    have d1:decide (100<(l.length:Int))=false:=by rw [decide_eq_false_iff_not];omega
    refine ae Vs.eng {eq:=[(48,an d1)],cv:=[(43,iQ Vs.to HK)]} 14 va fun f I=>?_
    refine af [.code (au 6 (aM Tryz.f3))] [(3,.p r.heap.size 0,1),(4,.slice b l.length d,0),(5,.p a.heap.size 0,2),(6,.i (z:Int),0)] ?_
    cases d2:decide (20<(l.length:Int)) with
    | true=>exact bn (t:=2) (v:=.bool true) Vs.eng {eq:=[(59,an d2)]} 60 I fun W h=>⟨rfl,aa hb9 h.below⟩
    | false =>
      have hfew2:l.length≤20:=by have:=of_decide_eq_false d2;omega
      have r1:fN f [⟨r.heap.size,ak M A,[]⟩]:=⟨⟨_,_,I.rows ⟨r.heap.size,ak M A,29,[]⟩ (by simp)⟩,trivial⟩
      refine gz r1 {eq:=[(59,an d2)]} 30 3 (ct (T:=29) (z:=.agg (ak zeroM zeroA)) (by kernel_rfl) f) ?_
      refine bx (mX _) {} 30 (av (ty:=29) (cells:=ak M A) (D1 f _) (by kernel_rfl) (by kernel_rfl) (bO M A)) ?_
      have b10:=iE f (C6 (ak zeroM zeroA)).cells (ak M A) 29
      have r10:((f.alloc (.cells (C6 (ak zeroM zeroA)).cells 29)).setRow f.heap.size (ak M A)).heap[f.heap.size]?=some (.cells (ak M A) 29 (0,0)):=D2 _ _ _ _ _ _ (D1 _ _)
      have v10:Vs f [⟨a.heap.size,ak R C,29,[]⟩] ((f.alloc (.cells (C6 (ak zeroM zeroA)).cells 29)).setRow f.heap.size (ak M A)):=⟨fun x E=>aD b10 (I.rows x (by simp only [A9,A8,or_false] at E ⊢;exact .inr E)),b10⟩
      have kb:=I.below
      have sA10:=(sA9.below kb).below b10
      have sC10:=sC9.below kb
      have sE10:=sE9.below kb
      have tab10:=tab9.below kb
      have hb10:=aa hb9 kb
      generalize (f.alloc (.cells (C6 (ak zeroM zeroA)).cells 29)).setRow f.heap.size (ak M A)=W11 at r10 v10 sA10
      have hb10o:a.heap.size<f.heap.size:=(D8.1 (I.rows ⟨a.heap.size,ak R C,29,[]⟩ (by simp))).1
      clear va HK b10 kb sA9 sC9 sE9 tab9 hb9 P9
      refine aj (mX _) {} 20 ?_
      refine aL (fun _=>True) ?_
      refine gJ (fun x:MV × MA × Nat × Nat=>[(4,.slice b l.length d,0),(5,.p a.heap.size 0,1),(6,.i (z:Int),0),(9,.p f.heap.size 0,2),(10,.i (x.2.2.1:Int),0),(11,.i (x.2.2.2:Int),0)]) (Lq f a.heap.size f.heap.size C l R z) l.length (M,A,0,0) (by kernel_rfl) (by kernel_rfl) ⟨by simp,v10,r10,sA10,hg,by show (R,z)=((iN l M).1,0+(iN l M).2);rw [Nat.zero_add,← e]⟩ ?_
      rintro j ⟨X,N,s,i⟩ W h T hT
      have hij:=h.ij
      dsimp only at hij
      cases j with
      | zero =>
        have q:decide ((i:Int)<(l.length:Int))=false:=by rw [decide_eq_false_iff_not];omega
        have L:=h.st
        dsimp only at L
        rw [List.drop_eq_nil_of_le (by omega)] at L
        obtain ⟨rfl,rfl⟩:R=X∧z=s:=⟨congrArg Prod.fst L,congrArg Prod.snd L⟩
        have P:=h.vs
        have Y:=h.row
        have sX:=h.sl
        have y:=h.gw
        dsimp only at Y sX y
        have K:Vs W [⟨a.heap.size,ak R C,29,[]⟩,⟨f.heap.size,ak R N,29,[]⟩] W:=⟨fun x E=>by
         simp only [A9,A8,or_false] at E
         rcases E with rfl | rfl
         ·exact P.rows _ (by simp)
         ·exact Y,C5 _ _⟩
        have sCW:=sC10.below P.below
        have sq:((z:Int)==(z:Int)):=by simp
        have eo:yi R=R.d.ys:=by unfold yi;rw [y.1.ok];rfl
        have HO:=fun m (h:Bw W m)=>xo R C m y.1.len (sCW.below h) y.1.mw.cs
        rw [eo] at HO
        obtain ⟨sr,hsr⟩:∃ s,s=strOfNums R.d.ys:=⟨_,rfl⟩
        have se:(sr.toList==sr.toList):=beq_self_eq_true _
        have cO:∀ V,Bw W V→∀ m,Vs V [⟨a.heap.size,ak R C,29,[]⟩,⟨f.heap.size,ak R N,29,[]⟩] m→(convert 22 9 (.slice C.ao R.d.ys.length C.co)).run prog m=.ok (.string sr) m:=fun V hV m h=>by
         rw [hsr]
         exact mx _ _ _ _ _ rfl ((sCW.below hV).below h.below).ys
        refine aL (Vs W [⟨a.heap.size,ak R C,29,[]⟩,⟨f.heap.size,ak R N,29,[]⟩]) ?_
        refine aT Vs.eng {eq:=[(64,an q),(87,an sq)],ov:=[(96,WZ C.ao R.d.ys.length C.co sr (cO W (C5 _ _)))],cv:=[(83,iQ Vs.to fun m h=>ke R N C m y.1.len (sX.below h.below) (sCW.below h.below))]} 80 K (fun m h=>HO m h.below) ?_
        rintro Wc e Wd hc ⟨ao,co,rfl,oo,bd⟩
        have hd:=hc.to bd
        refine ⟨_,0,rfl,fun _=>hd,?_⟩
        have HM:=fun m (h:Vs W [⟨a.heap.size,ak R C,29,[]⟩,⟨f.heap.size,ak R N,29,[]⟩] m)=>dZ R C m y.1.len (sCW.below h.below) y.1.mw.cs
        rw [y.1.ok] at HM
        have cA:=mx ao R.d.ys.length co R.d.ys Wd rfl (fJ oo)
        rw [← hsr] at cA
        refine dt 0 (s:=do pure (.value (← convert 22 9 (.slice ao R.d.ys.length co)))) (v:=.string sr) (w':=Wd) (by simp [cA]) (hS:=fun _=>hd) ?_
        exact bn (t:=2) (v:=.bool true) Vs.eng {eq:=[(97,an se)],cv:=[(101,iQ Vs.to HM)]} 80 hd fun m h=>⟨rfl,aa hb10 (aa P.below h.below)⟩
      | succ j =>
        have q:decide ((i:Int)<(l.length:Int)):=by rw [decide_eq_true_eq];omega
        refine aj (mX _) {eq:=[(64,an q)]} 20 ?_
        obtain ⟨b0,o0,hb0,hlt,hc0,hc1⟩:=sE10 i (by omega)
        have hwi:=hwf i
        have L:=h.st
        dsimp only at L
        rw [AS (by omega)] at L
        generalize l.getD i (0,0)=p at hc0 hc1 hwi L
        obtain ⟨k,n⟩:=p
        dsimp only at hc0 hc1 hwi L
        have y:=h.gw
        have sX:=h.sl
        have P:=h.vs
        have Y:=h.row
        dsimp only at y sX Y
        have eA:mA X [(k,n)]=((pJ k n X).1,(pJ k n X).2):=by
         unfold mA
         rw [y.1.ok]
         rfl
        have HP:=fun m (h:Bw W m)=>rI X N [(k,n)] (some ⟨b0,o0+i*2,none⟩) (d - i) m y.1.len (sX.below h) ⟨y.1.mw,y.1.ux,y.1.pc,y.1.hd,y.2⟩ (tab10.below (aa P.below h)) (fun q hq=>by
         have I:=aa P.below h
         obtain rfl:q=0:=by simpa using hq
         exact ⟨b0,_,rfl,Nat.lt_of_lt_of_le hlt I.size,(I.cell (p:=⟨b0,o0+i*2,none⟩) hlt).trans hc0,(I.cell (p:=⟨b0,o0+i*2+1,none⟩) hlt).trans hc1⟩) (fun q=>by cases q with | zero=>exact hwi | succ q=>simp)
        rw [eA] at HP
        have gX2:=DA y k n
        have lX2:=Iq X k n
        generalize pJ k n X=V at HP gX2 lX2 L
        obtain ⟨u,dz⟩:=V
        dsimp only [mQ] at HP gX2 lX2 L
        have hki:IntKind.i64.wrap ((i:Int)+1)=((i+1:Nat):Int):=by rw [IntKind.wrap_i64];omega
        have hbW:=P.below.size
        have xl:=(D8.1 Y).1
        have K:Vs W [⟨a.heap.size,ak R C,29,[]⟩,⟨f.heap.size,ak X N,29,[]⟩] W:=⟨fun x E=>by
         simp only [A9,A8,or_false] at E
         rcases E with rfl | rfl
         ·exact P.rows _ (by simp)
         ·exact Y,C5 _ _⟩
        refine aL (Vs W [⟨a.heap.size,ak R C,29,[]⟩,⟨f.heap.size,ak X N,29,[]⟩]) ?_
        refine af (.code (fW lpI):: .code (au 1 lpI):: lpK T) [(4,.slice b l.length d,0),(5,.p a.heap.size 0,1),(6,.i (z:Int),0),(9,.p f.heap.size 0,2),(10,.i (s:Int),0),(11,.i (i:Int),0)] ?_
        refine fV 1 ?_
        refine ae Vs.eng {eq:=[(72,cR .i64 hki)],ov:=[(73,ovE b l.length d i ((i+1:Nat):Int) hb0 (by omega) (by omega) hcap)]} 60 (K.to (C5 _ _).drew) fun F K=>?_
        have fin:∀ (m:D3) (yb:Nat) (o:MA) (B:Nat),Vs W [⟨a.heap.size,ak R C,29,[]⟩,⟨f.heap.size,ak X N,29,[]⟩] m→m.heap[yb]?=some (.cells (ak u o) 29 (0,0))→oe m u o→td B o→f.heap.size<B→Wg prog (Vs W [⟨a.heap.size,ak R C,29,[]⟩,⟨f.heap.size,ak X N,29,[]⟩]) (bodyPost prog Tryz.f3 fun e w'=>e=Ending.returned (.bool true)∧Bw w1 w') Tryz.f3.ntmps (.code (au 1 lpI):: lpK T) [(4,.slice b l.length d,0),(5,.p a.heap.size 0,1),(6,.i (z:Int),0),(9,.p f.heap.size 0,2),(10,.i (s:Int),0),(11,.i (i:Int),0),(12,.p yb 0,1),(13,.i (dz:Int),0)] m:=by
         intro m yb o B hv' hy hs' hn hB
         have E:=hv'.rows ⟨f.heap.size,ak X N,29,[]⟩ (by simp)
         refine aL (fun _=>True) ?_
         refine bx (R:=[⟨yb,ak u o,[]⟩]) ⟨⟨_,_,hy⟩,trivial⟩ {} 20 (av (g:=f.heap.size) (ty:=29) (cells:=ak u o) E (by kernel_rfl) rfl (bO _ _)) ?_
         have hsz:s+dz≤6000:=by have:=congrArg Prod.snd L;dsimp only at this;omega
         have hws:IntKind.i64.wrap ((s:Int)+(dz:Int))=((s+dz:Nat):Int):=by rw [IntKind.wrap_i64];omega
         have r2:(m.setRow f.heap.size (ak u o)).heap[f.heap.size]?=some (.cells (ak u o) 29 (0,0)):=D2 _ _ _ _ _ _ E
         have o2:=D8.1 (hv'.rows ⟨a.heap.size,ak R C,29,[]⟩ (by simp))
         have m2:oe (m.setRow f.heap.size (ak u o)) u o:=zk hs' hn (fun k hk=>D4 _ _ _ _ (by omega)) (by rw [setRow_size];exact F0 _)
         have v2:Vs f [⟨a.heap.size,ak R C,29,[]⟩] (m.setRow f.heap.size (ak u o)):=by
          have b2:=aI (aa P.below hv'.below) (F0 _) (ak u o)
          have o3:=hb10o
          exact ⟨fun x E=>by rw [List.mem_singleton.1 E];exact (b2.block _ o3).trans ((P.below.block _ o3).symm.trans (P.rows ⟨a.heap.size,ak R C,29,[]⟩ (by simp))),b2⟩
         exact dY (mX _) {eq:=[(80,cR .i64 hws),(66,cR .i64 hki)]} 60 fun c hc=>hT c _ j (u,o,s+dz,i+1) (by omega) (hc.less (by kernel_rfl)) ⟨by dsimp only;omega,v2,r2,m2,gX2,by dsimp only;rw [L,Nat.add_assoc]⟩
        refine kN (i:=6) (j:=10) ?_ ?_
        ·refine kl (HP F K.below) fun e w1 Y=>?_
         obtain ⟨o,rfl,F1,hb1⟩:=Y
         refine ⟨_,0,rfl,K.to hb1,?_⟩
         refine Ll (v:=fun W=>.p W.heap.size 0) Vs.ez (K.to hb1) {} 60 3 (fun W=>W.alloc (.cells (ak zeroM zeroA) 29)) (fun W _=>ct (z:=.agg (ak zeroM zeroA)) (by kernel_rfl) W) fun U d2=>?_
         have b2:=d2.below (C5 w1.heap.size w1)
         have b3:=(C5 U.heap.size U).alloc (F0 _) (.cells (ak zeroM zeroA) 29)
         have h3:=((K.to hb1).to b2).to b3
         refine ⟨h3,?_⟩
         refine vk Vs.ez h3 {} 60 (fun W=>W.setRow U.heap.size (ak u o)) (fun W d=>av (t:=29) (ty:=29) (old:=ak zeroM zeroA) (by obtain ⟨j,rfl⟩:=d;exact D1 _ _) (by kernel_rfl) rfl (bO _ _)) fun W3 d3=>?_
         have b4:=d3.below (C5 (U.alloc (.cells (ak zeroM zeroA) 29)).heap.size _)
         have b5:Bw U (W3.setRow U.heap.size (ak u o)):=aI (aa b3 b4) (F0 _) _
         have h5:=((K.to hb1).to b2).to b5
         refine ⟨h5,?_⟩
         have r5:(W3.setRow U.heap.size (ak u o)).heap[U.heap.size]?=some (.cells (ak u o) 29 (0,0)):=D2 _ _ _ _ _ _ (by obtain ⟨j,rfl⟩:=d3;exact D1 _ _)
         have f5:=(F1.below b2).below b5
         refine ae (oz Vs.ez h5) {} 3 (Dw.refl _) fun a d5=>?_
         exact af _ _ (fin a U.heap.size o F.heap.size (Vs.dw h5 d5) (by obtain ⟨j,rfl⟩:=d5;exact r5) (d5.fam f5).msl (fam_mnew F1) (by have:=K.below.size;omega))
        ·have b1:=(C5 F.heap.size F).alloc (F0 _) (.cells (ak zeroM zeroA) 29)
         have h1:=K.to b1
         refine mt (v:=.p F.heap.size 0) 3 (ct (T:=29) (z:=.agg (ak zeroM zeroA)) (by kernel_rfl) F) h1 ?_
         refine qE (Rc:=fun m e w'=>∃ C:MA,e=.returned (.tuple #[.agg (ak u C),.i (dz:Int)])∧bj m.heap.size w'.heap.size w' (aF u C)∧Bw m w') Vs.ez h1 {} 60 (fun m d=>HP m (d.below h1.below)) fun W1 e r d1 Y=>?_
         obtain ⟨o,rfl,F2,J⟩:=Y
         have b2:=d1.below (C5 (F.alloc (.cells (ak zeroM zeroA) 29)).heap.size _)
         have q2:r.heap[F.heap.size]?=some (.cells (ak zeroM zeroA) 29 (0,0)):=aD J (by obtain ⟨j,rfl⟩:=d1;exact D1 _ _)
         have h3:=(h1.to b2).to J
         refine ⟨_,0,rfl,h3,?_⟩
         have z1:W1.heap.size=F.heap.size+1:=by rw [d1.size,World.size_alloc]
         refine vk Vs.ez h3 {} 60 (fun W=>W.setRow F.heap.size (ak u o)) (fun W d=>av (t:=29) (ty:=29) (old:=ak zeroM zeroA) (by obtain ⟨j,rfl⟩:=d;exact q2) (by kernel_rfl) rfl (bO _ _)) fun W3 d3=>?_
         have b5:Bw F (W3.setRow F.heap.size (ak u o)):=aI (aa (aa b1 b2) (J.trans (d3.below (C5 _ r) |>.mono (by have:=J.size;omega)))) (F0 _) _
         have h5:=K.to b5
         refine ⟨h5,?_⟩
         have r5:(W3.setRow F.heap.size (ak u o)).heap[F.heap.size]?=some (.cells (ak u o) 29 (0,0)):=D2 _ _ _ _ _ _ (by obtain ⟨j,rfl⟩:=d3;exact q2)
         have f5:bj W1.heap.size r.heap.size (W3.setRow F.heap.size (ak u o)) (aF u o):=(d3.fam F2).mono fun k _ _ _=>D4 _ _ _ _ (by omega)
         refine ae (oz Vs.ez h5) {} 3 (Dw.refl _) fun a d5=>?_
         exact af _ _ (fin a F.heap.size o W1.heap.size (Vs.dw h5 d5) (by obtain ⟨j,rfl⟩:=d5;exact r5) (d5.fam f5).msl (fam_mnew F2) (by have:=K.below.size;omega))
end Go.Proofs.YtfekjlcnnjhofaaGreatDoor.fnPlayed
