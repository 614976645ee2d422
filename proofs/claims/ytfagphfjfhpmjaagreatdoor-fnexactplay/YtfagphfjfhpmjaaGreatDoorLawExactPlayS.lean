/- Own lemmas. -/
import Derived.Test.YtfagphfjfhpmjaaGreatDoorJ22
set_option maxRecDepth 100000
namespace Go.Proofs.YtfagphfjfhpmjaaGreatDoor.fnExactPlay
open Go.RowKit Tryz
set_option linter.unusedVariables false
theorem fit_in {w:World} {M:MV} {A:MA} (h:Rb w M A):OH M:=by
 have u:∀ {x:Int},(Lit.int .u64 x).wf=true→U x:=fun a=>by have h:=CO a;exact ⟨h.1,by have:=h.2;omega⟩
 exact ⟨h.mw,fun j=>Aq h.wx j,u h.pc,u h.hd,u h.t,u h.cm⟩
theorem playA_len {M:MV} (h:OH M) (l:List (Int × Int)):iU (px M l).1:=by
 unfold px
 split
 ·rename_i a
  rw [Bool.and_eq_true] at a
  exact (Gl l ⟨h.gd a.1,h.ud⟩).1.len
 ·exact ⟨by simp [au],by simp [au],by simp [au],by simp [au,zeroD],by simp [au,zeroD]⟩
theorem walk (M:MV) (A:MA) (a:Option Addr) (n c:Nat) (l:List (Int × Int)) (w:World) (D:Rb w M A) (hev:R6 w a n l) (hT:ou w) :
 CB 9 #[.agg #[.u M.pc,.slice A.ax M.x.length A.cx,.i M.pr,.slice A.ac M.cs.length A.cc,.slice A.ar M.ram.length A.cr,.u M.d.t,.u M.d.cm,.bool M.d.so,.slice A.ai M.d.xs.length A.ci,.slice A.ao M.d.ys.length A.co,.i M.d.ir,.u M.hd,.bool M.hl,.bool M.wt],.slice a n c] w (.bool true):=by
 obtain ⟨rfl,few,es,hwf⟩:=hev
 have hfit:OH M:=fit_in D
 have P:=fun W (_:Bw w W)=>wg M.pc A.ax M.x.length A.cx M.pr A.ac M.cs.length A.cc A.ar M.ram.length A.cr M.d.t M.d.cm M.d.so A.ai M.d.xs.length A.ci A.ao M.d.ys.length A.co M.d.ir M.hd M.hl M.wt 1048576 W (by omega) (by omega) D.lx D.lcs D.lram D.lxs D.lys
 obtain ⟨sz,hsz⟩:∃ s,Ra M.x.length M.cs.length M.ram.length M.d.xs.length M.d.ys.length 1048576=s:=⟨_,rfl⟩
 rw [hsz] at P
 refine bf (S:=Bs w [(ap M A,28)]) (args:=[.agg (ap M A),.slice a l.length c]) [(ap M A,28)] func9 ?_
 by_cases hsm:M.x.length+M.cs.length+M.ram.length+M.d.xs.length+M.d.ys.length≤1048576
 case neg =>
  obtain rfl : -1=sz:=by rw [← hsz];unfold Ra;rw [if_neg (by omega)]
  exact aU (t:=4) (v:=.bool true) Bs.eng { cv:=[(19,eY P)] } 60 (Bs.start _ _) (fun w' h=>⟨rfl,h.2⟩)
 have hl:iU M:=⟨by omega,by omega,by omega,by omega,by omega⟩
 have hs2:0≤sz∧sz≤1048576:=by rw [← hsz];unfold Ra;rw [if_pos (by omega)];omega
 have d0:decide (sz < 0)=false:=by rw [decide_eq_false_iff_not];omega
 have O:=fun W (_:Bw w W)=>yW a l.length c sz W (by omega) hs2.2 few
 by_cases hse:(l.length:Int)≤sz
 case neg =>
  rw [if_neg hse] at O
  exact aU (t:=4) (v:=.bool true) Bs.eng { eq:=[(21,af d0)],cv:=[(19,eY P),(24,jX O)] } 80 (Bs.start _ _) (fun w' h=>⟨rfl,h.2⟩)
 rw [if_pos hse] at O
 have hle:l.length≤1048576:=by omega
 have d1:decide (sz - (l.length:Int) < 0)=false:=by rw [decide_eq_false_iff_not];omega
 have HTD:=fun W (hb:Bw w W)=>(wc M A W hl (D.sl.below hb)).mono fun e w'' ⟨gx,gc,gr,gi,go,h1,h2,h3⟩=>(⟨_,h1,h2,h3⟩:∃ C:MA,e=Ending.returned (.agg (ap M C))∧aZ W.heap.size w''.heap.size w'' (aJ M C)∧Bw W w'')
 have HTE:=fun W (hb:Bw w W)=>yY a c l W hle (es.below hb)
 have HS:=fun (C:MA) (b:Option Addr) W (f:tA W M C) (h:Es W b l)=>zV M C l b l.length W hl f hfit h
 have HI:=fun (C:MA) (b:Option Addr) W (f:tA W M C) (t:ou W) (h:Es W b l)=>Ad M C l b l.length W hl f hfit t h hwf
 have j:=playA_len hfit l
 generalize (px M l).1=R at HS HI j
 generalize (((px M l).2:Nat):Int)=z at HS HI
 have ez:(z != z)=false:=by simp
 have n1:∀ i:Nat,i≤1048576→decide (((1:Int)+(M.x.length:Int)+(M.cs.length:Int)+(M.ram.length:Int)+(M.d.xs.length:Int)+(M.d.ys.length:Int))+2*(i:Int) < 0)=false:=fun i _=>by rw [decide_eq_false_iff_not];omega
 have n2:decide ((1+(R.x.length:Int)+R.cs.length+R.ram.length+R.d.xs.length+R.d.ys.length) < 0)=false:=by rw [decide_eq_false_iff_not];omega
 have n4:((1+(R.x.length:Int)+R.cs.length+R.ram.length+R.d.xs.length+R.d.ys.length) != (1+(R.x.length:Int)+R.cs.length+R.ram.length+R.d.xs.length+R.d.ys.length))=false:=by simp
 have hR:=j.x
 have hR2:=j.cs
 have hR3:=j.ram
 have hR4:=j.xs
 have hR5:=j.ys
 clear hsz
 refine aN Bs.eng { eq:=[(21,af d0),(26,af d1)],cv:=[(19,eY P),(24,jX O)] } 80 (Bs.start _ _) (fun W h=>HTD W h.2) ?_
 rintro W1 e W2 h1 ⟨CA,rfl,fA,b2⟩
 refine ⟨_,0,rfl,fi (by kernel_rfl),?_⟩
 have V2:Vs w [⟨w.heap.size,ap M A,28,[]⟩] W2:=⟨fun x hx=>by rw [List.mem_singleton.1 hx];exact aB b2 (h1.1 0 _ rfl),aa h1.2 b2⟩
 refine aK (Vs W2 [⟨w.heap.size,ap M A,28,[]⟩]) (aN Vs.eng {} 30 V2.at (fun W h=>HTE W (aa V2.below h.below)) ?_)
 rintro W3 e W4 h3 ⟨e1,c1,rfl,r4,ec4,lo4,b4⟩
 refine ⟨_,0,rfl,fi (by kernel_rfl),?_⟩
 have V4:=(V2.to h3.below).to b4
 have f4:=(fA.below h3.below).below b4
 have es4:=ec4.es r4
 refine aK (Vs W4 [⟨w.heap.size,ap M A,28,[]⟩]) (aN Vs.eng {} 30 V4.at (fun W h=>HS CA _ W (f4.below h.below).msl (es4.below h.below)) ?_)
 rintro W5 e g h5 ⟨k,rfl,fW,b6⟩
 refine ⟨_,0,rfl,fi (by kernel_rfl),?_⟩
 dsimp only at fW
 have V6:=(V4.to h5.below).to b6
 refine jI (kl _) {} 30 2 (cT (T:=32) (z:=.agg (ap au zeroA)) (by kernel_rfl) g) ?_
 refine eQ (kl _) {} 30 (aD (ty:=32) (cells:=ap R k) (heap_alloc_new g _) (by kernel_rfl) (by kernel_rfl) (cj R k)) ?_
 have V7:=V6.new (cs:=ap R k) (Value.agg (ap au zeroA)).cells 32
 have b7:=iD g (Value.agg (ap au zeroA)).cells (ap R k) 32
 generalize (g.alloc (.cells (Value.agg (ap au zeroA)).cells 32)).setRow g.heap.size (ap R k)=W7 at *
 have fW7:=fW.below b7
 have s0:=V2.below.size
 have s3:=h3.below.size
 have s4:=b4.size
 have s5:=h5.below.size
 have s6:=b6.size
 have s7:=b7.size
 refine aP (kl _) {} 2 ?_
 refine an [.code (ay 7 (aW Tryz.f9))] [(1,.slice a l.length c,0),(2,.p w.heap.size 0,1),(6,.p g.heap.size 0,2),(7,.i z,0)] ?_
 clear h1 b2 P O d0 d1 fA V2 h3 r4 ec4 lo4 b4 V4 f4 es4 h5 fW b6 V6 b7
 refine aK (Vs W7 [⟨w.heap.size,ap M A,28,[]⟩,⟨g.heap.size,ap R k,32,[]⟩]) (aN Vs.eng {} 30 V7.at (fun W h=>HTD W (aa V7.below h.below)) ?_)
 rintro W8 e p h8 ⟨u,rfl,fX,b9⟩
 refine ⟨_,0,rfl,fi (by kernel_rfl),?_⟩
 have V9:=(V7.to h8.below).to b9
 refine jI (kl _) {} 30 3 (cT (T:=32) (z:=.agg (ap au zeroA)) (by kernel_rfl) p) ?_
 refine eQ (kl _) {} 30 (aD (ty:=32) (cells:=ap M u) (heap_alloc_new p _) (by kernel_rfl) (by kernel_rfl) (cj M u)) ?_
 have V10:=V9.new (cs:=ap M u) (Value.agg (ap au zeroA)).cells 32
 have b10:=iD p (Value.agg (ap au zeroA)).cells (ap M u) 32
 generalize (p.alloc (.cells (Value.agg (ap au zeroA)).cells 32)).setRow p.heap.size (ap M u)=W10 at *
 have fW10:=((fW7.below h8.below).below b9).below b10
 have fX10:=fX.below b10
 have s8:=h8.below.size
 have s9:=b9.size
 have s10:=b10.size
 refine aP (kl _) {} 1 ?_
 refine an [.code (ay 8 (aW Tryz.f9))] [(1,.slice a l.length c,0),(2,.p w.heap.size 0,1),(6,.p g.heap.size 0,2),(7,.i z,0),(8,.p p.heap.size 0,3)] ?_
 clear fW7 fX h8 b9 b10 V9
 refine aK (Vs W10 [⟨w.heap.size,ap M A,28,[]⟩,⟨g.heap.size,ap R k,32,[]⟩,⟨p.heap.size,ap M u,32,[]⟩]) (aN Vs.eng {} 30 V10.at (fun W h=>HTE W (aa V10.below h.below)) ?_)
 rintro W11 e W12 h11 ⟨F,c2,rfl,r12,U,lo12,Q⟩
 refine ⟨_,0,rfl,fi (by kernel_rfl),?_⟩
 have V12:=(V10.to h11.below).to Q
 have s11:=h11.below.size
 have s12:=Q.size
 have s13:=(Array.getElem?_eq_some_iff.1 r12).1
 have E:Vs w [⟨w.heap.size,ap M A,28,[]⟩,⟨g.heap.size,ap R k,32,[]⟩,⟨p.heap.size,ap M u,32,[]⟩,⟨F,c2,105,[]⟩] W12:=⟨fun x hx=>by
  rcases List.mem_append.1 (show x ∈ [⟨w.heap.size,ap M A,28,[]⟩,⟨g.heap.size,ap R k,32,[]⟩,⟨p.heap.size,ap M u,32,[]⟩] ++ [⟨F,c2,105,[]⟩] from hx) with hx | hx
  ·exact V12.rows x hx
  ·rw [List.mem_singleton.1 hx];exact r12,V12.below⟩
 have fW12:=(fW10.below h11.below).below Q
 have fX12:=(fX10.below h11.below).below Q
 have V:=U.es r12
 have z2:=U.size
 refine aP (kl _) {} 2 ?_
 refine an [.code (ay 9 (aW Tryz.f9))] [(1,.slice a l.length c,0),(2,.p w.heap.size 0,1),(6,.p g.heap.size 0,2),(7,.i z,0),(8,.p p.heap.size 0,3),(9,.slice (some ⟨F,0,none⟩) l.length l.length,0)] ?_
 clear fW10 fX10 h11 Q V10 V12 r12 U
 refine aK (Vs W12 [⟨w.heap.size,ap M A,28,[]⟩,⟨g.heap.size,ap R k,32,[]⟩,⟨p.heap.size,ap M u,32,[]⟩,⟨F,c2,105,[]⟩]) (aN Vs.eng {} 30 E.at (fun W h=>HI u _ W (fX12.below h.below).msl (hT.below (aa E.below h.below)) (V.below h.below)) ?_)
 rintro W13 e d J ⟨m,rfl,fQ,H⟩
 refine ⟨_,0,rfl,fi (by kernel_rfl),?_⟩
 dsimp only at fQ
 have V14:=(E.to J.below).to H
 refine jI (kl _) {} 30 4 (cT (T:=32) (z:=.agg (ap au zeroA)) (by kernel_rfl) d) ?_
 refine eQ (kl _) {} 30 (aD (ty:=32) (cells:=ap R m) (heap_alloc_new d _) (by kernel_rfl) (by kernel_rfl) (cj R m)) ?_
 have V15:=V14.new (cs:=ap R m) (Value.agg (ap au zeroA)).cells 32
 have I:=iD d (Value.agg (ap au zeroA)).cells (ap R m) 32
 generalize (d.alloc (.cells (Value.agg (ap au zeroA)).cells 32)).setRow d.heap.size (ap R m)=W15 at *
 have Y:=((fW12.below J.below).below H).below I
 have fX15:=((fX12.below J.below).below H).below I
 have es15:=((V.below J.below).below H).below I
 have X:=fQ.below I
 have s14:=J.below.size
 have s15:=H.size
 have s16:=I.size
 refine aP (kl _) {} 2 ?_
 refine an [.code (ay 10 (aW Tryz.f9))] [(1,.slice a l.length c,0),(2,.p w.heap.size 0,1),(6,.p g.heap.size 0,2),(7,.i z,0),(8,.p p.heap.size 0,3),(9,.slice (some ⟨F,0,none⟩) l.length l.length,0),(10,.p d.heap.size 0,5),(11,.i z,0)] ?_
 clear fW12 fX12 V fQ J H I V14 E
 refine aK (Vs W15 [⟨w.heap.size,ap M A,28,[]⟩,⟨g.heap.size,ap R k,32,[]⟩,⟨p.heap.size,ap M u,32,[]⟩,⟨F,c2,105,[]⟩,⟨d.heap.size,ap R m,32,[]⟩]) (aN Vs.eng { eq:=[(52,af ez)],cv:=[(47,jb Vs.to fun W h=>ju R m k W j (X.below h.below).msl (Y.below h.below).msl)] } 60 V15.at (fun W h=>HTD W (aa V15.below h.below)) ?_)
 rintro W16 e W17 h16 ⟨CZ,rfl,fZ,b17⟩
 refine ⟨_,0,rfl,fun _=>h16.to b17,?_⟩
 refine ij (ju M u CZ W17 hl (fX15.below (aa h16.below b17)).msl fZ.msl) fun e W18 hr=>?_
 obtain ⟨rfl,b18⟩:=hr
 have v18:=(h16.to b17).to b18
 refine ⟨_,0,rfl,fun _=>v18,?_⟩
 refine aN Vs.eng {} 60 v18 (fun W h=>HTE W (aa V15.below h.below)) ?_
 rintro W19 e W20 h19 ⟨e3,c3,rfl,r20,ec20,lo20,b20⟩
 refine ⟨_,0,rfl,fi (by kernel_rfl),?_⟩
 have v20:=h19.to b20
 have es20:=ec20.es r20
 refine aK (Vs W20 [⟨w.heap.size,ap M A,28,[]⟩,⟨g.heap.size,ap R k,32,[]⟩,⟨p.heap.size,ap M u,32,[]⟩,⟨F,c2,105,[]⟩,⟨d.heap.size,ap R m,32,[]⟩]) (aN Vs.eng {} 60 v20.at (fun W h=>wA _ _ l.length l.length l W hle (es15.below (aa v20.below h.below)) (es20.below h.below)) ?_)
 rintro W21 e W22 h21 ⟨rfl,b22⟩
 refine ⟨_,0,rfl,fi (by kernel_rfl),?_⟩
 have N:Bw W15 W22:=aa (aa v20.below h21.below) b22
 have V22:=V15.to N
 have fW22:=Y.below N
 have G:=fX15.below N
 have fQ22:=X.below N
 have s17:=N.size
 refine aP (kl _) {} 4 ?_
 refine an [.code (ay 13 (aW Tryz.f9))] [(1,.slice a l.length c,0),(2,.p w.heap.size 0,1),(6,.p g.heap.size 0,2),(7,.i z,0),(8,.p p.heap.size 0,3),(9,.slice (some ⟨F,0,none⟩) l.length l.length,0),(10,.p d.heap.size 0,5),(11,.i z,0)] ?_
 clear h16 fZ b17 b18 v18 h19 r20 ec20 lo20 b20 v20 es20 h21 b22 N Y fX15 X es15
 refine aK (Vs W22 [⟨w.heap.size,ap M A,28,[]⟩,⟨g.heap.size,ap R k,32,[]⟩,⟨p.heap.size,ap M u,32,[]⟩,⟨F,c2,105,[]⟩,⟨d.heap.size,ap R m,32,[]⟩]) (aN Vs.eng {} 60 V22.at (fun W h=>nF M u 1 _ _ W hl (by omega) (by omega) (by have:=h.below.size;omega) (G.below h.below)) ?_)
 rintro W23 e W24 B ⟨rfl,-,kX⟩
 refine ⟨_,0,rfl,fi (by kernel_rfl),?_⟩
 have k24:=kX.keep (G.below B.below)
 have s23:=B.below.size
 have s24:=kX.size
 have V24:=(V22.to B.below).mark kX (G.below B.below) (by omega) (by omega) (O4 _ J9 (by kernel_rfl))
 have fW24:=(fW22.below B.below).keep k24 (by omega)
 have fQ24:=(fQ22.below B.below).keep k24 (by omega)
 refine aP (kl _) {} 2 ?_
 refine an [.code (ay 15 (aW Tryz.f9))] [(1,.slice a l.length c,0),(2,.p w.heap.size 0,1),(6,.p g.heap.size 0,2),(7,.i z,0),(8,.p p.heap.size 0,3),(9,.slice (some ⟨F,0,none⟩) l.length l.length,0),(10,.p d.heap.size 0,5),(11,.i z,0),(12,.i ((1:Int)+(M.x.length:Int)+(M.cs.length:Int)+(M.ram.length:Int)+(M.d.xs.length:Int)+(M.d.ys.length:Int)),0)] ?_
 clear B kX k24 G fW22 fQ22
 refine aK (Vs W24 [⟨w.heap.size,ap M A,28,[]⟩,⟨g.heap.size,ap R k,32,[]⟩,⟨p.heap.size,ap M u,32,[]⟩,⟨F,c2,105,[]⟩,⟨d.heap.size,ap R m,32,[]⟩]) (aN Vs.eng {} 30 V24.at (fun W h=>uV F c2 l.length ((1:Int)+(M.x.length:Int)+(M.cs.length:Int)+(M.ram.length:Int)+(M.d.xs.length:Int)+(M.d.ys.length:Int)) W hle (by omega) (by omega) (h.rows ⟨F,c2,105,[]⟩ (by simp)) z2) ?_)
 rintro W25 e W26 K ⟨rfl,ag⟩
 refine ⟨_,0,rfl,fi (by kernel_rfl),?_⟩
 have r25:=K.rows ⟨F,c2,105,[]⟩ (by simp)
 have s25:=K.below.size
 have s26:=ag.size
 have V26:=((V24.to K.below).sub (L':=[⟨w.heap.size,ap M A,28,[]⟩,⟨g.heap.size,ap R k,32,[]⟩,⟨d.heap.size,ap R m,32,[]⟩]) (by simp)).ag ag (by omega) r25 (by kernel_rfl)
 have Z:=Ag.fam (fW24.below K.below) ag r25
 have q:=Ag.fam (fQ24.below K.below) ag r25
 refine aP (kl _) {} 2 ?_
 refine an [.code (ay 16 (aW Tryz.f9))] [(1,.slice a l.length c,0),(2,.p w.heap.size 0,1),(6,.p g.heap.size 0,2),(7,.i z,0),(10,.p d.heap.size 0,3),(11,.i z,0),(12,.i (((1:Int)+(M.x.length:Int)+(M.cs.length:Int)+(M.ram.length:Int)+(M.d.xs.length:Int)+(M.d.ys.length:Int))+2*(l.length:Int)),0)] ?_
 clear K ag r25 fW24 fQ24
 refine aK (Vs W26 [⟨w.heap.size,ap M A,28,[]⟩,⟨g.heap.size,ap R k,32,[]⟩,⟨d.heap.size,ap R m,32,[]⟩]) (aN Vs.eng { eq:=[(71,af (n1 l.length hle)),(81,af ez)],cv:=[(75,jb Vs.to fun W h=>ju R m k W j (q.below h.below).msl (Z.below h.below).msl)] } 60 V26.at (fun W h=>nF R m 1 _ _ W j (by omega) (by omega) (by have:=h.below.size;omega) (q.below h.below)) ?_)
 rintro W27 e W28 L ⟨rfl,o,kQ⟩
 refine ⟨_,0,rfl,fi (by kernel_rfl),?_⟩
 have k28:=kQ.keep (q.below L.below)
 have s27:=L.below.size
 have s28:=kQ.size
 have V28:=(V26.to L.below).mark kQ (q.below L.below) (by omega) (by omega) (O4 _ J9 (by kernel_rfl))
 have fW28:=(Z.below L.below).keep k28 (by omega)
 refine aP (kl _) {} 2 ?_
 refine an [.code (ay 19 (aW Tryz.f9))] [(1,.slice a l.length c,0),(2,.p w.heap.size 0,1),(6,.p g.heap.size 0,2),(7,.i z,0),(10,.p d.heap.size 0,3),(11,.i z,0),(13,.i (1+(R.x.length:Int)+R.cs.length+R.ram.length+R.d.xs.length+R.d.ys.length),0)] ?_
 clear L kQ k28 Z q
 refine aK (Vs W28 [⟨w.heap.size,ap M A,28,[]⟩,⟨g.heap.size,ap R k,32,[]⟩,⟨d.heap.size,ap R m,32,[]⟩]) (aN Vs.eng { eq:=[(90,af n2),(93,af n4)],cv:=[(88,jb Vs.to fun W h=>nG R m 1 W j (by omega) (by omega) (o.below h.below).rsl.1 (o.below h.below).rsl.2.1 (o.below h.below).rsl.2.2.1 (o.below h.below).rsl.2.2.2.1 (o.below h.below).rsl.2.2.2.2)] } 120 V28.at (fun W h=>HTD W (aa V28.below h.below)) ?_)
 rintro W29 e W30 h29 ⟨CP,rfl,fP,b30⟩
 refine ⟨_,0,rfl,fi (by kernel_rfl),?_⟩
 have V30:=(V28.to h29.below).to b30
 refine aK (Vs W30 [⟨w.heap.size,ap M A,28,[]⟩,⟨g.heap.size,ap R k,32,[]⟩,⟨d.heap.size,ap R m,32,[]⟩]) (aN Vs.eng {} 30 V30.at (fun W h=>HTE W (aa V30.below h.below)) ?_)
 rintro W31 e W32 h31 ⟨e3,c3,rfl,r32,ec32,lo32,b32⟩
 refine ⟨_,0,rfl,fi (by kernel_rfl),?_⟩
 have V32:=(V30.to h31.below).to b32
 have fP32:=(fP.below h31.below).below b32
 have es32:=ec32.es r32
 refine aK (Vs W32 [⟨w.heap.size,ap M A,28,[]⟩,⟨g.heap.size,ap R k,32,[]⟩,⟨d.heap.size,ap R m,32,[]⟩]) (aN Vs.eng {} 30 V32.at (fun W h=>HI CP _ W (fP32.below h.below).msl (hT.below (aa V32.below h.below)) (es32.below h.below)) ?_)
 rintro W33 e y h33 ⟨CK,rfl,fK,b34⟩
 refine ⟨_,0,rfl,fi (by kernel_rfl),?_⟩
 dsimp only at fK
 have V34:=(V32.to h33.below).to b34
 refine jI (kl _) {} 30 4 (cT (T:=32) (z:=.agg (ap au zeroA)) (by kernel_rfl) y) ?_
 refine eQ (kl _) {} 30 (aD (ty:=32) (cells:=ap R CK) (heap_alloc_new y _) (by kernel_rfl) (by kernel_rfl) (cj R CK)) ?_
 have V35:=V34.new (cs:=ap R CK) (Value.agg (ap au zeroA)).cells 32
 have b35:=iD y (Value.agg (ap au zeroA)).cells (ap R CK) 32
 generalize (y.alloc (.cells (Value.agg (ap au zeroA)).cells 32)).setRow y.heap.size (ap R CK)=W35 at *
 have fK35:=fK.below b35
 have t35:Bw W28 W35:=aa (aa (aa (aa (aa (aa h29.below b30) h31.below) b32) h33.below) b34) b35
 have fW35:=fW28.below t35
 have r:=o.below t35
 refine aP (kl _) {} 2 ?_
 refine an [.code (ay 24 (aW Tryz.f9))] [(1,.slice a l.length c,0),(2,.p w.heap.size 0,1),(6,.p g.heap.size 0,2),(7,.i z,0),(10,.p d.heap.size 0,3),(11,.i z,0),(13,.i (1+(R.x.length:Int)+R.cs.length+R.ram.length+R.d.xs.length+R.d.ys.length),0),(15,.p y.heap.size 0,4),(16,.i z,0)] ?_
 refine aK (Vs W35 [⟨w.heap.size,ap M A,28,[]⟩,⟨g.heap.size,ap R k,32,[]⟩,⟨d.heap.size,ap R m,32,[]⟩,⟨y.heap.size,ap R CK,32,[]⟩]) ?_
 exact aU (t:=4) (v:=.bool true) Vs.eng { eq:=[(109,af ez),(115,af n2),(118,af n4)],cv:=[(104,jb Vs.to fun W h=>ju R CK k W j (fK35.below h.below).msl (fW35.below h.below).msl),(113,jb Vs.to fun W h=>nG R m 1 W j (by omega) (by omega) (r.below h.below).rsl.1 (r.below h.below).rsl.2.1 (r.below h.below).rsl.2.2.1 (r.below h.below).rsl.2.2.2.1 (r.below h.below).rsl.2.2.2.2)] } 150 V35.at (fun w' h=>⟨rfl,aa V35.below h.below⟩)
end Go.Proofs.YtfagphfjfhpmjaaGreatDoor.fnExactPlay
