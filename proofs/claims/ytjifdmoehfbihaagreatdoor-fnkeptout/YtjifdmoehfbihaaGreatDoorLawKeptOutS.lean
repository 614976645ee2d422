/- Own lemmas. -/
import Derived.Test.YtjifdmoehfbihaaGreatDoorJ23
import Derived.Test.YtjifdmoehfbihaaGreatDoorJ27
set_option maxRecDepth 100000
namespace Go.Proofs.YtjifdmoehfbihaaGreatDoor.fnKeptOut
open Go.RowKit Tryz
set_option linter.unusedVariables false
theorem any_fit {M:MV} (h:Ma M):T9 M:=⟨⟨h.ucs,h.bram,h.d.by_.1,h.d.by_.2⟩,h.ux,h.pc,h.hd,h.d.t,h.d.cm⟩
theorem own_room {W:World} {B n c:Nat} {a:Option Addr} {xs:List Value} {t:TypeId} (h:W.ownsRow B t 1 (.slice a n c) n xs) (hn:0 < n):n≤c∧∃ g,a=some ⟨g,0,none⟩:=by
 rcases h.2 with ⟨_,rfl⟩ | ⟨g,cap,b,e,_,_,d,_⟩
 ·omega
 ·cases e
  exact ⟨d,g,rfl⟩
theorem walk (a0:Option Addr) (g f:Nat) (z0:List Int) (w:World) (w0:Bn .u8 w a0 g f z0) (hT:pS w) :
 CB 5 #[.slice a0 g f] w (.bool true):=by
 obtain ⟨bg,hbg⟩:∃ bg,decide (4096 < g)=bg:=⟨_,rfl⟩
 have p:=Rz a0 g f w
 rw [hbg] at p
 refine bD (S:=fun _=>True) (args:=[.slice a0 g f]) [] func5 ?_
 refine aO (R:=[]) trivial {} 40 p ?_
 rintro e w1 ⟨rfl,rfl⟩
 refine ⟨_,0,rfl,?_⟩
 cases bg with
 | true=>exact jk (R:=[]) trivial {} 40 (t:=2) (v:=.bool true) ⟨rfl,Below.refl _ _⟩
 | false =>
   obtain ⟨cs,hcd⟩:=RC w0 (by have:=of_decide_eq_false hbg;omega)
   refine aO (R:=[]) trivial {} 40 (DY f w1 hcd) ?_
   rintro e a ⟨M,A,n,rfl,hn,hma,hs,hfm,o⟩
   refine ⟨_,0,rfl,?_⟩
   have V:=(⟨fun x hx=>absurd hx (List.not_mem_nil),o⟩:Vs w1 [] a)
   refine kz (mY _) {} 30 1 (dQ (T:=32) (z:=.agg (aj aq zeroA)) (by kernel_rfl) a) ?_
   refine ct (mY _) {} 30 (aD (ty:=32) (cells:=aj M A) (heap_alloc_new a _) (by kernel_rfl) (by kernel_rfl) (dp M A)) ?_
   have V3:=V.new (o:=aj M A) (Value.agg (aj aq zeroA)).cells 32
   have b3:=pA a (Value.agg (aj aq zeroA)).cells (aj M A) 32
   generalize (a.alloc (.cells (Value.agg (aj aq zeroA)).cells 32)).setRow a.heap.size (aj M A)=U3 at *
   have H:=hs.below b3
   have hl:=hma.len
   have hf:=any_fit hma
   have hb3:=V3.below
   have P3:=V3.at
   refine an (mY _) {} 2 ?_
   refine af [.code (aw 3 (aM Tryz.f5))] [(3,.p a.heap.size 0,1),(4,.i n,0)] ?_
   refine aJ (Vs U3 [⟨a.heap.size,aj M A,32,[]⟩]) ?_
   have I:=fun W (h:Vs U3 [⟨a.heap.size,aj M A,32,[]⟩] W)=>mn M A W hl (H.below h.below)
   have l:∀ W,Vs U3 [⟨a.heap.size,aj M A,32,[]⟩] W→Ending.returned (.bool true)=.returned (.bool true)∧Bw w1 W:=fun W h=>⟨rfl,aa hb3 h.below⟩
   cases ok:dU M with
   | false =>
     rw [ok] at I
     exact bm (t:=2) (v:=.bool true) Vs.eng { cv:=[(23,jQ Vs.to I)] } 60 P3 l
   | true =>
   rw [ok] at I
   cases d1:decide (n < 0) with
   | true=>exact bm (t:=2) (v:=.bool true) Vs.eng { eq:=[(27,ak d1)],cv:=[(23,jQ Vs.to I)] } 60 P3 l
   | false =>
   cases d2:decide (60 < n) with
   | true=>exact bm (t:=2) (v:=.bool true) Vs.eng { eq:=[(27,ak d1),(31,ak d2)],cv:=[(23,jQ Vs.to I)] } 60 P3 l
   | false =>
   have n0:=of_decide_eq_false d1
   have n1:=of_decide_eq_false d2
   have hg:Gw M:=⟨hf.gd ok,hf.ud⟩
   obtain ⟨h22,_,_,_,_,_⟩:=aC ok
   have f3:=(hfm ok).below b3
   have mp3:Mp w1.heap.size a.heap.size M A U3:=⟨V3.rows _ (List.mem_singleton.2 rfl),f3.low (Nat.le_refl _) b3.size,fun q hq e=>Nat.lt_irrefl _ (f3.hi q hq _ e),o.size⟩
   refine ae Vs.eng { eq:=[(27,ak d1),(31,ak d2)],cv:=[(23,jQ Vs.to I)] } 17 P3 fun B ha=>?_
   refine af [.code (aw 4 (aM Tryz.f5))] [(3,.p a.heap.size 0,1),(4,.i n,0)] ?_
   have u:=mp3.below ha.below
   have hba:=aa hb3 ha.below
   clear l I d1 d2 P3 V3 V b3 H f3 mp3 ha hs hfm p
   refine aJ (Vs B [⟨a.heap.size,aj M A,32,[]⟩]) ?_
   refine an (mY _) {} 1 ?_
   refine uI ?_
   have rd:Vs B [⟨a.heap.size,aj M A,32,[]⟩] B.drew:=⟨fun x hx=>by rw [List.mem_singleton.1 hx];exact (u.below (Below.refl B.heap.size B).drew).row,(Below.refl B.heap.size B).drew⟩
   have oc:=u.crow
   obtain ⟨hcc,b,E⟩:=own_room oc (by omega)
   have J:∀ W,Vs B [⟨a.heap.size,aj M A,32,[]⟩] W→W.cell? ⟨b,0+(16:Int).toNat,none⟩=some (.u (M.cs.getD 16 0)):=fun W h=>by
    obtain ⟨b',o',e',hb',K⟩:=(fL oc) 16 (by omega)
    rw [E] at e'
    cases e'
    exact (h.below.cell (by exact hb')).trans K
   refine ae Vs.eng { ov:=[(37,kJ M.cs.length A.cc .i64 16 E ⟨by omega,by omega⟩ underlying23 (by kernel_rfl)),(38,je ⟨b,0+(16:Int).toNat,none⟩ (.u (M.cs.getD 16 0)) underlying22 rfl J),(41,kJ M.cs.length A.cc .i64 16 E ⟨by omega,by omega⟩ underlying23 (by kernel_rfl))] } 40 rd fun We he=>?_
   have Q:=u.below he.below
   have hbe:=aa hba he.below
   have oe:=Q.crow
   rw [E] at oe
   have ce:=oe.cellAt 16 (by omega)
   have fe:=oe.frozenAt 16
   obtain ⟨v16,F⟩:∃ v,We.cell? ⟨b,16,none⟩=some v:=⟨_,J We he⟩
   refine ct (mY _) {} 20 (iD (w:=b) (n:=16) (T:=22) (v:=.u (KP (M.cs.getD 16 0))) ⟨F,fe⟩ (by kernel_rfl) rfl) ?_
   have j:=Q.setC b E 16 (KP (M.cs.getD 16 0))
   have hb1:=hbe.trans j.2
   obtain ⟨y,e1⟩:∃ y,cM M (M.cs.set 16 (KP (M.cs.getD 16 0)))=y:=⟨_,rfl⟩
   rw [e1] at j
   replace j:=j.1
   generalize We.setCell ⟨b,16,none⟩ (.u (KP (M.cs.getD 16 0)))=Wf at *
   refine an (mY _) {} 5 ?_
   refine af [.code (aw 6 (aM Tryz.f5))] [(3,.p a.heap.size 0,1),(4,.i n,0),(5,.u 536871551,0)] ?_
   have l1:y.cs.length=22:=by rw [← e1];show (M.cs.set 16 _).length=22;rw [List.length_set];exact h22
   have of:=j.crow
   rw [E] at of
   have ff:=of.frozenAt 17
   have G:Wf.cell? ⟨b,17,none⟩=some (.u (y.cs.getD 17 0)):=by
    obtain ⟨b',o',e',_,K⟩:=(fL of) 17 (by omega)
    cases e'
    exact K
   clear oc J he oe ce fe F Q hbe u hba rd
   refine ct (R:=[⟨a.heap.size,aj y A,[]⟩]) ⟨⟨_,_,j.row⟩,trivial⟩ { ov:=[(45,kJ y.cs.length A.cc .i64 17 E ⟨by omega,by omega⟩ underlying23 (by kernel_rfl))] } 40 (iD (w:=b) (n:=17) (T:=22) (v:=.u 536871551) ⟨G,ff⟩ (by kernel_rfl) rfl) ?_
   have k:=j.setC b E 17 536871551
   have o:=hb1.trans k.2
   obtain ⟨c,e2⟩:∃ c,cM y (y.cs.set 17 536871551)=c:=⟨_,rfl⟩
   rw [e2] at k
   replace k:=k.1
   generalize Wf.setCell ⟨b,17,none⟩ (.u 536871551)=U at *
   refine an (mY _) {} 1 ?_
   refine af [.code (aw 7 (aM Tryz.f5))] [(3,.p a.heap.size 0,1),(4,.i n,0)] ?_
   have eM:c=iB M (Sq M.cs):=by rw [← e2,← e1];rfl
   obtain ⟨d,O⟩:=OK hg
   rw [show Sq M.cs=(iB M (Sq M.cs)).cs from rfl,← eM] at O
   rw [← eM] at d
   have er:c.ram=M.ram:=by rw [eM];rfl
   have hl2:=d.1.len
   have hf2:T9 c:=⟨d.1.mw,d.1.ux,d.1.pc,d.1.hd,d.2⟩
   have H:=k.fam.msl
   have tab:=hT.below o
   have row2:=k.row
   have orm:=k.rrow
   clear e1 e2 eM j k hb1 of ff G l1
   obtain ⟨c22,hcs2,_,_,_,_⟩:=aC d.1.ok
   have reg:rZ c.cs.length c.cs 0=(2147485696,2147486719,true):=by
    have:LE c.cs.length c.cs 0=true:=by
     unfold LE
     rw [c22,hcs2]
     rfl
    unfold rZ
    rw [this]
    exact OC O
   have HR:=fun W (h:Vs U [⟨a.heap.size,aj c A,32,[]⟩] W)=>wV A.ac c.cs.length A.cc c.cs 0 W rfl (H.cs.below h.below) d.1.mw.cs (tab.below h.below)
   rw [reg] at HR
   have P:Vs U [⟨a.heap.size,aj c A,32,[]⟩] U:=⟨fun x hx=>by rw [List.mem_singleton.1 hx];exact row2,Below.refl _ _⟩
   refine aJ (Vs U [⟨a.heap.size,aj c A,32,[]⟩]) ?_
   refine ae Vs.eng { cv:=[(49,jQ Vs.to HR)] } 13 P fun Wg hg9=>?_
   refine af [.code (aw 8 (aM Tryz.f5))] [(3,.p a.heap.size 0,1),(4,.i n,0),(6,.u 2147485696,0),(7,.u 2147486719,0),(8,.bool true,0)] ?_
   obtain ⟨q,rfl⟩:=Int.eq_ofNat_of_zero_le (show 0≤n by omega)
   have eS:sW c (q:Int)=dF q c:=by
    unfold sW
    rw [d.1.ok,if_pos (by simp;omega),Int.toNat_natCast]
   have HI:=fun W (h:Vs U [⟨a.heap.size,aj c A,32,[]⟩] W)=>yo c A q W hl2 (H.below h.below) hf2 (tab.below h.below)
   have HS:=fun W (h:Bw U W)=>yi c A q W hl2 (H.below h) hf2
   have L:Gw (dF q c).1:=DD q d
   have hz:=zp q c
   have kw:=(DO q d O).2
   rw [eS] at HI HS
   generalize dF q c=Z at HI HS L hz kw
   obtain ⟨R,X⟩:=Z
   dsimp only at L hz kw
   refine aW Vs.eng {} 40 hg9 HI ?_
   rintro W4 e m h4 ⟨C,aQ,cQ,rfl,fC,oQ,b5⟩
   refine ⟨_,0,rfl,gE (by kernel_rfl),?_⟩
   have V:=h4.to b5
   refine kz (mY _) {} 30 2 (dQ (T:=32) (z:=.agg (aj aq zeroA)) (by kernel_rfl) m) ?_
   refine ct (mY _) {} 30 (aD (ty:=32) (cells:=aj R C) (heap_alloc_new m _) (by kernel_rfl) (by kernel_rfl) (dp R C)) ?_
   have V6:=V.new (o:=aj R C) (Value.agg (aj aq zeroA)).cells 32
   have b6:=pA m (Value.agg (aj aq zeroA)).cells (aj R C) 32
   generalize (m.alloc (.cells (Value.agg (aj aq zeroA)).cells 32)).setRow m.heap.size (aj R C)=U6 at *
   have k6:=V6.below
   have gC:bz W4.heap.size U6.heap.size U6 (aH R C):=(fC.below b6).low (Nat.le_refl _) b6.size
   have sC:pn U6 R C:=gC.msl
   have sQ:Sl .i64 U6 aQ X:=(Cl oQ).li.below b6
   have P6:=V6.at
   refine an (mY _) {} 2 ?_
   refine af [.code (aw 9 (aM Tryz.f5))] [(3,.p a.heap.size 0,1),(4,.i (q:Int),0),(6,.u 2147485696,0),(7,.u 2147486719,0),(8,.bool true,0),(9,.p m.heap.size 0,2),(10,.slice aQ X.length cQ,0)] ?_
   clear V V6 h4 b5 b6 fC oQ HI
   refine aJ (Vs U6 [⟨a.heap.size,aj c A,32,[]⟩,⟨m.heap.size,aj R C,32,[]⟩]) (aW Vs.eng {} 40 P6 (fun W h=>HS W (aa k6 h.below)) ?_)
   rintro W7 e r h7 ⟨D,aP,cP,rfl,fD,oP,b8⟩
   refine ⟨_,0,rfl,gE (by kernel_rfl),?_⟩
   have V:=h7.to b8
   refine kz (mY _) {} 30 3 (dQ (T:=32) (z:=.agg (aj aq zeroA)) (by kernel_rfl) r) ?_
   refine ct (mY _) {} 30 (aD (ty:=32) (cells:=aj R D) (heap_alloc_new r _) (by kernel_rfl) (by kernel_rfl) (dp R D)) ?_
   have V9:=V.new (o:=aj R D) (Value.agg (aj aq zeroA)).cells 32
   have b9:=pA r (Value.agg (aj aq zeroA)).cells (aj R D) 32
   generalize (r.alloc (.cells (Value.agg (aj aq zeroA)).cells 32)).setRow r.heap.size (aj R D)=U9 at *
   have Y:=V9.below
   have sD:pn U9 R D:=fD.msl.below b9
   have sP:Sl .i64 U9 aP X:=(Cl oP).li.below b9
   have gC9:=gC.below Y
   have sC9:=sC.below Y
   have sQ9:=sQ.below Y
   have or9:=dH orm (aa k6 Y)
   have sA9:=H.ram.below (aa k6 Y)
   have hb9:=aa (aa o k6) Y
   have P9:=V9.at
   clear V V9 h7 b8 b9 fD oP HS sC sQ gC orm H
   refine an (mY _) {} 2 ?_
   refine af [.code (aw 1 (iM (aw 9 (aM Tryz.f5)))),.code (aw 10 (aM Tryz.f5))] [(3,.p a.heap.size 0,1),(6,.u 2147485696,0),(7,.u 2147486719,0),(8,.bool true,0),(9,.p m.heap.size 0,2),(10,.slice aQ X.length cQ,0),(11,.p r.heap.size 0,3),(12,.slice aP X.length cP,0)] ?_
   refine aJ (Vs U9 [⟨a.heap.size,aj c A,32,[]⟩,⟨m.heap.size,aj R C,32,[]⟩,⟨r.heap.size,aj R D,32,[]⟩]) ?_
   refine ae Vs.eng { cv:=[(67,jQ Vs.to fun W h=>tj R C D W L.1.len (sC9.below h.below) (sD.below h.below)),(72,jQ Vs.to fun W h=>xP aQ aP X.length cQ cP X W rfl (by omega) (sQ9.below h.below) (sP.below h.below))] } 15 P9 fun Wh hh=>?_
   refine af [.code (aw 10 (aM Tryz.f5))] [(3,.p a.heap.size 0,1),(6,.u 2147485696,0),(7,.u 2147486719,0),(8,.bool true,0),(9,.p m.heap.size 0,2)] ?_
   have hram:=(eU d.1.ok).2.2.2.1
   have h4k:=fT hram
   have oC:=gC9.own (aF C.ar R.ram.length C.cr R.ram) (by simp [aH])
   obtain ⟨cr,gr,er2⟩:=own_room oC (by rw [kw.1];omega)
   obtain ⟨cm,gm,em2⟩:=own_room or9 (by omega)
   have hkl:=kw.1
   have dn:((R.ram.length:Int) != (c.ram.length:Int))=false:=by rw [hkl];simp
   obtain ⟨sr,N⟩:∃ s,s=strOfNums (Rx R.ram):=⟨_,rfl⟩
   have se:(sr.toList==sr.toList)=true:=beq_self_eq_true _
   have sR:∀ W,Vs U9 [⟨a.heap.size,aj c A,32,[]⟩,⟨m.heap.size,aj R C,32,[]⟩,⟨r.heap.size,aj R D,32,[]⟩] W→(convert 24 9 (.slice (some ⟨gr,0+2048,none⟩) 1024 (C.cr - 2048))).run prog W=.ok (.string sr) W:=fun W h=>by
    rw [N]
    exact mr _ _ _ _ _ (Bd _) (OM (er2 ▸ sC9.ram.below h.below) (by omega))
   have sM:∀ W,Vs U9 [⟨a.heap.size,aj c A,32,[]⟩,⟨m.heap.size,aj R C,32,[]⟩,⟨r.heap.size,aj R D,32,[]⟩] W→(convert 24 9 (.slice (some ⟨gm,0+2048,none⟩) 1024 (A.cr - 2048))).run prog W=.ok (.string sr) W:=fun W h=>by
    rw [N,OL kw]
    exact mr _ _ _ _ _ (Bd _) (OM (em2 ▸ sA9.below h.below) (by omega))
   clear N
   exact bm (t:=2) (v:=.bool true) Vs.eng { eq:=[(84,ak dn),(110,ak se)],ov:=[(102,WH C.ar R.ram.length C.cr er2 (by omega)),(103,WI (some ⟨gr,0+2048,none⟩) 1024 (C.cr - 2048) sr sR),(108,WH A.ar c.ram.length A.cr em2 (by omega)),(109,WI (some ⟨gm,0+2048,none⟩) 1024 (A.cr - 2048) sr sM)] } 150 hh fun W h=>⟨rfl,aa hb9 h.below⟩
end Go.Proofs.YtjifdmoehfbihaaGreatDoor.fnKeptOut
