/- Own lemmas. -/
import Derived.Test.YtbajeckeeekhnaaGreatK05
import Derived.Test.YtbajeckeeekhnaaGreatK41
import Derived.OwnWalk
namespace Go.Proofs.YtbajeckeeekhnaaGreat
open Go.RowKit
set_option linter.unusedVariables false

theorem wf_wrap (x:Int):(Lit.int .i64 (wrap64 x)).wf=true:=by
 unfold wrap64;exact wf64 (by omega) (by omega)

theorem zero_wf:(Lit.int .i64 0).wf=true:=by decide

def Ins.wf (i:Ins):Prop:=(Lit.int .i64 i.op).wf=true∧(Lit.int .i64 i.rd).wf=true∧(Lit.int .i64 i.a).wf=true∧(Lit.int .i64 i.b).wf=true∧(Lit.int .i64 i.imm).wf=true

theorem Ins.wf_mk {v0 v1 v2 v3 v4:Int} (h0:(Lit.int .i64 v0).wf=true) (h1:(Lit.int .i64 v1).wf=true) (h2:(Lit.int .i64 v2).wf=true) (h3:(Lit.int .i64 v3).wf=true) (h4:(Lit.int .i64 v4).wf=true):(Ins.mk v0 v1 v2 v3 v4).wf:=⟨h0,h1,h2,h3,h4⟩

def Ins.cells (i:Ins):Array Value:=#[.int .i64 i.op,.int .i64 i.rd,.int .i64 i.a,.int .i64 i.b,.int .i64 i.imm]

def InsAt (w:World) (b:Nat):Prop:=∃ i:Ins,i.wf∧w.heap[b]?=some (.cells i.cells 63 (0,0))

def It (w0:World) (g:Nat) (a:Option Addr) (n cap:Nat) (w:World) (rb ib:Nat) (wr:World):Prop :=
 Cs w0 g a n cap w wr∧InsAt wr rb∧InsAt wr ib∧w.heap.size≤rb∧w.heap.size≤ib∧rb≠ib∧g < w.heap.size

theorem Cs.put {w0:World} {g:Nat} {a:Option Addr} {n cap:Nat} {w wr:World} (h:Cs w0 g a n cap w wr) (hg:g < w.heap.size) (b j:Nat) (hb:w.heap.size≤b) (v:Value):Cs w0 g a n cap w (wr.setCell ⟨b,j,none⟩ v):=by
 obtain ⟨hc,hw⟩:=h
 obtain ⟨i,x,hi,hrow⟩:=hc.row
 refine ⟨⟨hc.new,hc.below.setCell ?_ _,i,x,hi,?_⟩,⟨hw.os,hw.tape,hw.output,by simpa [World.setCell] using hw.size,fun k hk hne=>?_⟩⟩
 ·show w0.heap.size≤b
  have:=hc.new;omega
 ·rw [heap_setCell_other _ _ _ _ (by show g≠b;omega)];exact hrow
 ·rw [heap_setCell_other _ _ _ _ (by show k≠b;omega)];exact hw.block k hk hne

theorem heap_setC {w:World} {g:Nat} {cs:Array Value} {t:TypeId} {fr:Nat × Nat} (h:w.heap[g]?=some (.cells cs t fr)) (i:Nat) (v:Value) :
 (w.setCell ⟨g,i,none⟩ v).heap[g]?=some (.cells (cs.setIfInBounds i v) t fr):=by
 simp [World.setCell,Array.getElem?_modify,h]

theorem InsAt.put {w:World} {b:Nat} (h:InsAt w b) (j:Nat) (hj:j < 5) (v:Int) (hv:(Lit.int .i64 v).wf=true):InsAt (w.setCell ⟨b,j,none⟩ (.int .i64 v)) b:=by
 obtain ⟨i,⟨h0,h1,h2,h3,h4⟩,hr⟩:=h
 have hs:=heap_setC hr j (.int .i64 v)
 match j,hj with
 | 0,_=>exact ⟨{ i with op:=v },⟨hv,h1,h2,h3,h4⟩,hs⟩
 | 1,_=>exact ⟨{ i with rd:=v },⟨h0,hv,h2,h3,h4⟩,hs⟩
 | 2,_=>exact ⟨{ i with a:=v },⟨h0,h1,hv,h3,h4⟩,hs⟩
 | 3,_=>exact ⟨{ i with b:=v },⟨h0,h1,h2,hv,h4⟩,hs⟩
 | 4,_=>exact ⟨{ i with imm:=v },⟨h0,h1,h2,h3,hv⟩,hs⟩

theorem InsAt.other {w:World} {b:Nat} (h:InsAt w b) (c j:Nat) (hc:b≠c) (v:Value):InsAt (w.setCell ⟨c,j,none⟩ v) b:=by
 obtain ⟨i,hw,hr⟩:=h
 exact ⟨i,hw,by rw [heap_setCell_other _ _ _ _ hc];exact hr⟩

theorem It.next {w0:World} {g:Nat} {a:Option Addr} {n cap:Nat} {w wr wx:World} {rb ib:Nat} (h:It w0 g a n cap w rb ib wr) (k:Cs w0 g a n cap wr wx):It w0 g a n cap w rb ib wx:=by
 obtain ⟨hc,⟨i,hi,hr⟩,⟨j,hj,hs⟩,h1,h2,h3,h4⟩:=h
 exact ⟨hc.trans k,⟨i,hi,k.keep hr (by omega)⟩,⟨j,hj,k.keep hs (by omega)⟩,h1,h2,h3,h4⟩

theorem It.put {w0:World} {g:Nat} {a:Option Addr} {n cap:Nat} {w wr:World} {rb ib:Nat} (h:It w0 g a n cap w rb ib wr) (j:Nat) (hj:j < 5) (v:Int) (hv:(Lit.int .i64 v).wf=true):It w0 g a n cap w rb ib (wr.setCell ⟨ib,j,none⟩ (.int .i64 v)):=by
 obtain ⟨hc,h1,h2,h3,h4,h5,h6⟩:=h
 exact ⟨hc.put h6 ib j h4 _,h1.other ib j h5 _,h2.put j hj v hv,h3,h4,h5,h6⟩

theorem It.cur {w0:World} {g:Nat} {a:Option Addr} {n cap:Nat} {w wr:World} {rb ib:Nat} (h:It w0 g a n cap w rb ib wr):Cur w0 wr g a n cap:=h.1.1

theorem It.facts {w0:World} {g:Nat} {a:Option Addr} {n cap:Nat} {w wr:World} {rb ib:Nat} (h:It w0 g a n cap w rb ib wr) :
 ∃ (i j:Ins),i.wf∧(wr.cell? ⟨ib,0,none⟩=some (.int .i64 i.op)∧wr.cell? ⟨ib,1,none⟩=some (.int .i64 i.rd)∧wr.cell? ⟨ib,2,none⟩=some (.int .i64 i.a)∧wr.cell? ⟨ib,3,none⟩=some (.int .i64 i.b)∧wr.cell? ⟨ib,4,none⟩=some (.int .i64 i.imm)) ∧
  (wr.frozen? ⟨ib,0,none⟩=false∧wr.frozen? ⟨ib,1,none⟩=false∧wr.frozen? ⟨ib,2,none⟩=false∧wr.frozen? ⟨ib,3,none⟩=false∧wr.frozen? ⟨ib,4,none⟩=false) ∧
  (wr.cell? ⟨rb,0,none⟩=some (.int .i64 j.op)∧wr.cell? ⟨rb,1,none⟩=some (.int .i64 j.rd)∧wr.cell? ⟨rb,2,none⟩=some (.int .i64 j.a)∧wr.cell? ⟨rb,3,none⟩=some (.int .i64 j.b)∧wr.cell? ⟨rb,4,none⟩=some (.int .i64 j.imm)) ∧
  (wr.frozen? ⟨rb,0,none⟩=false∧wr.frozen? ⟨rb,1,none⟩=false∧wr.frozen? ⟨rb,2,none⟩=false∧wr.frozen? ⟨rb,3,none⟩=false∧wr.frozen? ⟨rb,4,none⟩=false):=by
 obtain ⟨hc,⟨j,hj,hr⟩,⟨i,hi,hs⟩,_⟩:=h
 refine ⟨i,j,hi,⟨?_,?_,?_,?_,?_⟩,⟨?_,?_,?_,?_,?_⟩,⟨?_,?_,?_,?_,?_⟩,⟨?_,?_,?_,?_,?_⟩⟩
 ·exact cell_of_row _ _ _ _ _ _ hs
 ·exact cell_of_row _ _ _ _ _ _ hs
 ·exact cell_of_row _ _ _ _ _ _ hs
 ·exact cell_of_row _ _ _ _ _ _ hs
 ·exact cell_of_row _ _ _ _ _ _ hs
 ·exact frozen_of_row _ _ _ _ _ hs
 ·exact frozen_of_row _ _ _ _ _ hs
 ·exact frozen_of_row _ _ _ _ _ hs
 ·exact frozen_of_row _ _ _ _ _ hs
 ·exact frozen_of_row _ _ _ _ _ hs
 ·exact cell_of_row _ _ _ _ _ _ hr
 ·exact cell_of_row _ _ _ _ _ _ hr
 ·exact cell_of_row _ _ _ _ _ _ hr
 ·exact cell_of_row _ _ _ _ _ _ hr
 ·exact cell_of_row _ _ _ _ _ _ hr
 ·exact frozen_of_row _ _ _ _ _ hr
 ·exact frozen_of_row _ _ _ _ _ hr
 ·exact frozen_of_row _ _ _ _ _ hr
 ·exact frozen_of_row _ _ _ _ _ hr
 ·exact frozen_of_row _ _ _ _ _ hr

def formO:Option Fm→ByteArray
 | none=>⟨#[]⟩
 | some f=>f.str

theorem form_of (op:Int):∃ fo:Option Fm,formOf op=formO fo:=by
 unfold formOf
 split
 ·exact ⟨some _,rfl⟩
 ·exact ⟨none,rfl⟩

theorem inst_sizeD:(Tryz.prog.info? 63).map (·.size)=some 5:=by kernel_rfl

theorem It.back {w0:World} {g:Nat} {a:Option Addr} {n cap:Nat} {w wr:World} {rb ib:Nat} (h:It w0 g a n cap w rb ib wr) (v0 v1 v2 v3 v4:Int) :
 ((((((wr.setCell ⟨rb,0,none⟩ (.int .i64 v0)).setCell ⟨rb,1,none⟩ (.int .i64 v1)).setCell ⟨rb,2,none⟩ (.int .i64 v2)).setCell ⟨rb,3,none⟩ (.int .i64 v3)).setCell ⟨rb,4,none⟩ (.int .i64 v4)).heap[rb]?=some (.cells (Ins.mk v0 v1 v2 v3 v4).cells 63 (0,0))) ∧
   Cs w0 g a n cap w (((((wr.setCell ⟨rb,0,none⟩ (.int .i64 v0)).setCell ⟨rb,1,none⟩ (.int .i64 v1)).setCell ⟨rb,2,none⟩ (.int .i64 v2)).setCell ⟨rb,3,none⟩ (.int .i64 v3)).setCell ⟨rb,4,none⟩ (.int .i64 v4)):=by
 obtain ⟨hc,⟨j,hj,hr⟩,_,h1,h2,h3,h4⟩:=h
 refine ⟨?_,((((hc.put h4 rb 0 h1 _).put h4 rb 1 h1 _).put h4 rb 2 h1 _).put h4 rb 3 h1 _).put h4 rb 4 h1 _⟩
 exact heap_setC (heap_setC (heap_setC (heap_setC (heap_setC hr 0 _) 1 _) 2 _) 3 _) 4 _

theorem l1From_c {w0:World} {g:Nat} {a:Option Addr} {n cap:Nat} {zs:List Int} (hcd:Code w0 a n zs) (lo hi:Int) (h0 : -4611686018427387904≤lo) (h1:hi≤2305843009213693952) (h2:lo≤hi) (h3:hi - lo≤2305843009213693952) (w:World) (hc:Cur w0 w g a n cap) :
 Calls Tryz.prog 51 #[.pointer (some ⟨g,0,none⟩),.int .i64 lo,.int .i64 hi] w fun e w'=>∃ x:Int,e=.returned (.int .i64 x)∧(lo≤x∧x≤hi)∧Hid (Cs w0 g a n cap w w'):=by
 have HD:Hid (Code w0 a n zs):=hcd
 have HC:Hid (Cur w0 w g a n cap):=hc
 clear hcd hc
 go_enter Tryz.func51,Tryz.ntmps51
 go_wp2_with fail
 refine (l1Below_c HD.out _ ?_ _ HC.out).mono ?_
 ·first | omega | (unfold wrap64;omega)
 rintro e w1 ⟨x,rfl,⟨p,q⟩,hs⟩
 go_wp2_with fail
 go_ret
 refine ⟨_,rfl,?_,hs⟩
 first | (constructor<;>omega) | (unfold wrap64 at *;constructor<;>omega)

set_option maxRecDepth 20000 in
set_option maxHeartbeats 12800000 in
theorem l2Draw_c {w0:World} {g:Nat} {a:Option Addr} {n cap:Nat} {zs:List Int} (hcd:Code w0 a n zs) (w:World) (hc:Cur w0 w g a n cap) :
 Calls Tryz.prog 34 #[.pointer (some ⟨g,0,none⟩)] w fun e w'=>∃ i:Ins,e=.returned i.val∧i.wf∧Hid (Cs w0 g a n cap w w'):=by
 have HD:Hid (Code w0 a n zs):=hcd
 have HC:Hid (Cur w0 w g a n cap):=hc
 have hgw:=hc.lt
 clear hcd hc
 go_enter Tryz.func34,Tryz.ntmps34
 go_wp2_with fail
 have HA:=Cs.alloc HC.out (.cells #[.int .i64 0,.int .i64 0,.int .i64 0,.int .i64 0,.int .i64 0] 63)
 refine (l1Below_c HD.out 98 (by omega) _ HA.1).mono ?_
 rintro e w1 ⟨op0,rfl,⟨ol,oh⟩,hs1⟩
 have hr1:w1.heap[w.heap.size]?=some (.cells #[.int .i64 0,.int .i64 0,.int .i64 0,.int .i64 0,.int .i64 0] 63 (0,0)):=hs1.out.keep (heap_alloc_new _ _) (by omega)
 have hs1a:=HA.trans hs1.out
 have hlt1:w.heap.size < w1.heap.size:=by
  have:=hs1.out.2.size
  simp at this
  omega
 obtain ⟨op,hop⟩:∃ op,1+op0=op:=⟨_,rfl⟩
 have S0:Hid (It w0 g a n cap w w.heap.size w1.heap.size (w1.alloc (.cells #[.int .i64 op,.int .i64 0,.int .i64 0,.int .i64 0,.int .i64 0] 63))):=by
  refine ⟨hs1a.trans (Cs.alloc hs1a.1 _),⟨⟨0,0,0,0,0⟩,⟨zero_wf,zero_wf,zero_wf,zero_wf,zero_wf⟩,?_⟩,⟨⟨op,0,0,0,0⟩,⟨(wf64 (by omega) (by omega):(Lit.int .i64 op).wf=true),zero_wf,zero_wf,zero_wf,zero_wf⟩,heap_alloc_new _ _⟩,Nat.le_refl _,by omega,by omega,hgw⟩
  rw [heap_alloc_old w1 _ hlt1];exact hr1
 have h98:(1:Int)+op0=op:=hop
 have hoplo:1≤op:=by omega
 have hophi:op≤98:=by omega
 obtain ⟨rb,hrb⟩:∃ rb,w.heap.size=rb:=⟨_,rfl⟩
 obtain ⟨ib,hib⟩:∃ ib,w1.heap.size=ib:=⟨_,rfl⟩
 clear hr1 hs1 hs1a HA hlt1
 go_wp2_with fail
 rw [hrb,hib] at S0
 clear hrb hib hop h98 HC hgw hoplo hophi
 refine (l1Below_c HD.out 8 (by omega) _ S0.out.cur).mono ?_
 rintro e wa ⟨rd0,rfl,⟨rd0l,rd0h⟩,hs⟩
 have S1:Hid (It w0 g a n cap w rb ib wa):=S0.out.next hs.out
 clear hs S0
 have rd0h2:rd0 < 32:=by omega
 clear rd0h
 go_wp2_with fail
 refine (l1Below_c HD.out 8 (by omega) _ S1.out.cur).mono ?_
 rintro e wb ⟨aa0,rfl,⟨aa0l,aa0h⟩,hs⟩
 have S2:Hid (It w0 g a n cap w rb ib wb):=S1.out.next hs.out
 clear hs S1
 have aa0h2:aa0 < 32:=by omega
 clear aa0h
 go_wp2_with fail
 refine (l1Below_c HD.out 8 (by omega) _ S2.out.cur).mono ?_
 rintro e wc ⟨bb0,rfl,⟨bb0l,bb0h⟩,hs⟩
 have S3:Hid (It w0 g a n cap w rb ib wc):=S2.out.next hs.out
 clear hs S2
 have bb0h2:bb0 < 32:=by omega
 clear bb0h
 go_wp2_with fail
 refine (l1Once_c HD.out 6 (by omega) _ S3.out.cur).mono ?_
 rintro e wd ⟨c6,rfl,hs⟩
 have S4:Hid (It w0 g a n cap w rb ib wd):=S3.out.next hs.out
 clear hs S3
 cases c6
 case' true =>
  go_wp2_with fail
  refine (l1Below_c HD.out 32 (by omega) _ S4.out.cur).mono ?_
  rintro e we ⟨rd2,rfl,⟨rd2l,rd2h⟩,hs⟩
  have S5:Hid (It w0 g a n cap w rb ib we):=S4.out.next hs.out
  clear hs S4
  go_wp2_with fail
  refine (l1Below_c HD.out 32 (by omega) _ S5.out.cur).mono ?_
  rintro e wf ⟨aa2,rfl,⟨aa2l,aa2h⟩,hs⟩
  have S6:Hid (It w0 g a n cap w rb ib wf):=S5.out.next hs.out
  clear hs S5
  go_wp2_with fail
  refine (l1Below_c HD.out 32 (by omega) _ S6.out.cur).mono ?_
  rintro e wg ⟨bb2,rfl,⟨bb2l,bb2h⟩,hs⟩
  have S7:Hid (It w0 g a n cap w rb ib wg):=S6.out.next hs.out
  clear hs S6
  have S4:=S7
  clear S7
  go_wp2_with fail
  have rdl:=rd2l
  have rdh:=rd2h
  have aal:=aa2l
  have aah:=aa2h
  have bbl:=bb2l
  have bbh:=bb2h
  clear rd2l rd2h aa2l aa2h bb2l bb2h rd0l rd0h2 aa0l aa0h2 bb0l bb0h2
  generalize rd2=rd at *
  generalize aa2=aa at *
  generalize bb2=bb at *
 case' false =>
  go_wp2_with fail
  have rdl:=rd0l
  have rdh:=rd0h2
  have aal:=aa0l
  have aah:=aa0h2
  have bbl:=bb0l
  have bbh:=bb0h2
  clear rd0l rd0h2 aa0l aa0h2 bb0l bb0h2
  generalize rd0=rd at *
  generalize aa0=aa at *
  generalize bb0=bb at *
 all_goals refine (l1From_c HD.out (-40) 40 (by omega) (by omega) (by omega) (by omega) _ S4.out.cur).mono ?_
 all_goals rintro e wh ⟨nn,rfl,⟨nnl,nnh⟩,hs⟩
 all_goals have S8:Hid (It w0 g a n cap w rb ib wh):=S4.out.next hs.out
 all_goals clear hs S4
 all_goals obtain ⟨ia,ja,hwfa,⟨p0,p1,p2,p3,p4⟩,_,_,_⟩:=S8.out.facts
 all_goals go_wp2_with fail
 all_goals refine (specForm_any ia.op hwfa.1 wh).mono ?_
 all_goals rintro e w9 ⟨rfl,hbf⟩
 all_goals have S9:Hid (It w0 g a n cap w rb ib w9):=S8.out.next (Cs.of_below S8.out.cur hbf)
 all_goals obtain ⟨fo,hfo⟩:=form_of ia.op
 all_goals rw [hfo]
 all_goals clear hfo S8 hbf hwfa p0 p1 p2 p3 p4
 all_goals obtain ⟨ic,jc,hwfc,⟨p0,p1,p2,p3,p4⟩,⟨f0,f1,f2,f3,f4⟩,⟨q0,q1,q2,q3,q4⟩,⟨e0,e1,e2,e3,e4⟩⟩:=S9.out.facts
 all_goals have HWF:Hid ic.wf:=hwfc
 all_goals have hne:rb≠ib:=S9.out.2.2.2.2.2.1
 all_goals have hne2:ib≠rb:=fun h=>S9.out.2.2.2.2.2.1 h.symm
 all_goals clear hwfc
 all_goals (
  match fo with
  | none =>
    simp only [formO]
    have SE:Hid (It w0 g a n cap w rb ib _):=S9
    go_wp2_with fail
    refine bodyPost_ret (results_cell_row Tryz.results34 _ _ rb 63 _ _ _ rfl (SE.out.back _ _ _ _ _).1 Tryz.underlying63 rfl inst_sizeD) rfl ?_
    obtain ⟨g0,g1,g2,g3,g4⟩:=HWF.out
    exact ⟨⟨_,_,_,_,_⟩,rfl,Ins.wf_mk (by first | exact wf64 (by omega) (by omega) | exact wf_wrap _ | assumption) (by first | exact wf64 (by omega) (by omega) | exact wf_wrap _ | assumption) (by first | exact wf64 (by omega) (by omega) | exact wf_wrap _ | assumption) (by first | exact wf64 (by omega) (by omega) | exact wf_wrap _ | assumption) (by first | exact wf64 (by omega) (by omega) | exact wf_wrap _ | assumption),(SE.out.back _ _ _ _ _).2⟩
  | some .x =>
    simp only [formO,Fm.str]
    have SE:Hid (It w0 g a n cap w rb ib _):=S9
    go_wp2_with fail
    refine bodyPost_ret (results_cell_row Tryz.results34 _ _ rb 63 _ _ _ rfl (SE.out.back _ _ _ _ _).1 Tryz.underlying63 rfl inst_sizeD) rfl ?_
    obtain ⟨g0,g1,g2,g3,g4⟩:=HWF.out
    exact ⟨⟨_,_,_,_,_⟩,rfl,Ins.wf_mk (by first | exact wf64 (by omega) (by omega) | exact wf_wrap _ | assumption) (by first | exact wf64 (by omega) (by omega) | exact wf_wrap _ | assumption) (by first | exact wf64 (by omega) (by omega) | exact wf_wrap _ | assumption) (by first | exact wf64 (by omega) (by omega) | exact wf_wrap _ | assumption) (by first | exact wf64 (by omega) (by omega) | exact wf_wrap _ | assumption),(SE.out.back _ _ _ _ _).2⟩
  | some .s =>
    simp only [formO,Fm.str]
    have SE:Hid (It w0 g a n cap w rb ib _):=(It.put (It.put (It.put S9.out 2 (by omega) aa (by first | exact wf64 (by omega) (by omega) | exact wf_wrap _ | assumption)) 3 (by omega) bb (by first | exact wf64 (by omega) (by omega) | exact wf_wrap _ | assumption)) 4 (by omega) nn (by first | exact wf64 (by omega) (by omega) | exact wf_wrap _ | assumption))
    go_wp2_with fail
    refine bodyPost_ret (results_cell_row Tryz.results34 _ _ rb 63 _ _ _ rfl (SE.out.back _ _ _ _ _).1 Tryz.underlying63 rfl inst_sizeD) rfl ?_
    obtain ⟨g0,g1,g2,g3,g4⟩:=HWF.out
    exact ⟨⟨_,_,_,_,_⟩,rfl,Ins.wf_mk (by first | exact wf64 (by omega) (by omega) | exact wf_wrap _ | assumption) (by first | exact wf64 (by omega) (by omega) | exact wf_wrap _ | assumption) (by first | exact wf64 (by omega) (by omega) | exact wf_wrap _ | assumption) (by first | exact wf64 (by omega) (by omega) | exact wf_wrap _ | assumption) (by first | exact wf64 (by omega) (by omega) | exact wf_wrap _ | assumption),(SE.out.back _ _ _ _ _).2⟩
  | some .r =>
    simp only [formO,Fm.str]
    cases d98:(ic.op==98) with
    | true =>
      have SE:Hid (It w0 g a n cap w rb ib _):=(It.put (It.put (It.put (It.put S9.out 1 (by omega) rd (by first | exact wf64 (by omega) (by omega) | exact wf_wrap _ | assumption)) 2 (by omega) aa (by first | exact wf64 (by omega) (by omega) | exact wf_wrap _ | assumption)) 3 (by omega) bb (by first | exact wf64 (by omega) (by omega) | exact wf_wrap _ | assumption)) 1 (by omega) 0 (by first | exact wf64 (by omega) (by omega) | exact wf_wrap _ | assumption))
      go_wp2_with fail
      refine bodyPost_ret (results_cell_row Tryz.results34 _ _ rb 63 _ _ _ rfl (SE.out.back _ _ _ _ _).1 Tryz.underlying63 rfl inst_sizeD) rfl ?_
      obtain ⟨g0,g1,g2,g3,g4⟩:=HWF.out
      exact ⟨⟨_,_,_,_,_⟩,rfl,Ins.wf_mk (by first | exact wf64 (by omega) (by omega) | exact wf_wrap _ | assumption) (by first | exact wf64 (by omega) (by omega) | exact wf_wrap _ | assumption) (by first | exact wf64 (by omega) (by omega) | exact wf_wrap _ | assumption) (by first | exact wf64 (by omega) (by omega) | exact wf_wrap _ | assumption) (by first | exact wf64 (by omega) (by omega) | exact wf_wrap _ | assumption),(SE.out.back _ _ _ _ _).2⟩
    | false =>
      have SE:Hid (It w0 g a n cap w rb ib _):=(It.put (It.put (It.put S9.out 1 (by omega) rd (by first | exact wf64 (by omega) (by omega) | exact wf_wrap _ | assumption)) 2 (by omega) aa (by first | exact wf64 (by omega) (by omega) | exact wf_wrap _ | assumption)) 3 (by omega) bb (by first | exact wf64 (by omega) (by omega) | exact wf_wrap _ | assumption))
      go_wp2_with fail
      refine bodyPost_ret (results_cell_row Tryz.results34 _ _ rb 63 _ _ _ rfl (SE.out.back _ _ _ _ _).1 Tryz.underlying63 rfl inst_sizeD) rfl ?_
      obtain ⟨g0,g1,g2,g3,g4⟩:=HWF.out
      exact ⟨⟨_,_,_,_,_⟩,rfl,Ins.wf_mk (by first | exact wf64 (by omega) (by omega) | exact wf_wrap _ | assumption) (by first | exact wf64 (by omega) (by omega) | exact wf_wrap _ | assumption) (by first | exact wf64 (by omega) (by omega) | exact wf_wrap _ | assumption) (by first | exact wf64 (by omega) (by omega) | exact wf_wrap _ | assumption) (by first | exact wf64 (by omega) (by omega) | exact wf_wrap _ | assumption),(SE.out.back _ _ _ _ _).2⟩
  | some .h =>
    simp only [formO,Fm.str]
    have SA:Hid (It w0 g a n cap w rb ib _):=(It.put (It.put S9.out 1 (by omega) rd (by first | exact wf64 (by omega) (by omega) | exact wf_wrap _ | assumption)) 2 (by omega) aa (by first | exact wf64 (by omega) (by omega) | exact wf_wrap _ | assumption))
    go_wp2_with fail
    refine (l1Below_c HD.out 64 (by omega) _ SA.out.cur).mono ?_
    rintro e wk ⟨im,rfl,⟨iml,imh⟩,hs⟩
    have T1:Hid (It w0 g a n cap w rb ib wk):=SA.out.next hs.out
    clear hs SA
    clear S9
    clear p0 p1 p2 p3 p4 f0 f1 f2 f3 f4 q0 q1 q2 q3 q4 e0 e1 e2 e3 e4 HWF
    obtain ⟨ic,jc,hwfc,⟨p0,p1,p2,p3,p4⟩,⟨f0,f1,f2,f3,f4⟩,⟨q0,q1,q2,q3,q4⟩,⟨e0,e1,e2,e3,e4⟩⟩:=T1.out.facts
    have HWF:Hid ic.wf:=hwfc
    clear hwfc
    have SE:Hid (It w0 g a n cap w rb ib _):=(It.put T1.out 4 (by omega) im (by first | exact wf64 (by omega) (by omega) | exact wf_wrap _ | assumption))
    go_wp2_with fail
    refine bodyPost_ret (results_cell_row Tryz.results34 _ _ rb 63 _ _ _ rfl (SE.out.back _ _ _ _ _).1 Tryz.underlying63 rfl inst_sizeD) rfl ?_
    obtain ⟨g0,g1,g2,g3,g4⟩:=HWF.out
    exact ⟨⟨_,_,_,_,_⟩,rfl,Ins.wf_mk (by first | exact wf64 (by omega) (by omega) | exact wf_wrap _ | assumption) (by first | exact wf64 (by omega) (by omega) | exact wf_wrap _ | assumption) (by first | exact wf64 (by omega) (by omega) | exact wf_wrap _ | assumption) (by first | exact wf64 (by omega) (by omega) | exact wf_wrap _ | assumption) (by first | exact wf64 (by omega) (by omega) | exact wf_wrap _ | assumption),(SE.out.back _ _ _ _ _).2⟩
  | some .w =>
    simp only [formO,Fm.str]
    have SA:Hid (It w0 g a n cap w rb ib _):=(It.put (It.put S9.out 1 (by omega) rd (by first | exact wf64 (by omega) (by omega) | exact wf_wrap _ | assumption)) 2 (by omega) aa (by first | exact wf64 (by omega) (by omega) | exact wf_wrap _ | assumption))
    go_wp2_with fail
    refine (l1Below_c HD.out 32 (by omega) _ SA.out.cur).mono ?_
    rintro e wk ⟨im,rfl,⟨iml,imh⟩,hs⟩
    have T1:Hid (It w0 g a n cap w rb ib wk):=SA.out.next hs.out
    clear hs SA
    clear S9
    clear p0 p1 p2 p3 p4 f0 f1 f2 f3 f4 q0 q1 q2 q3 q4 e0 e1 e2 e3 e4 HWF
    obtain ⟨ic,jc,hwfc,⟨p0,p1,p2,p3,p4⟩,⟨f0,f1,f2,f3,f4⟩,⟨q0,q1,q2,q3,q4⟩,⟨e0,e1,e2,e3,e4⟩⟩:=T1.out.facts
    have HWF:Hid ic.wf:=hwfc
    clear hwfc
    have SE:Hid (It w0 g a n cap w rb ib _):=(It.put T1.out 4 (by omega) im (by first | exact wf64 (by omega) (by omega) | exact wf_wrap _ | assumption))
    go_wp2_with fail
    refine bodyPost_ret (results_cell_row Tryz.results34 _ _ rb 63 _ _ _ rfl (SE.out.back _ _ _ _ _).1 Tryz.underlying63 rfl inst_sizeD) rfl ?_
    obtain ⟨g0,g1,g2,g3,g4⟩:=HWF.out
    exact ⟨⟨_,_,_,_,_⟩,rfl,Ins.wf_mk (by first | exact wf64 (by omega) (by omega) | exact wf_wrap _ | assumption) (by first | exact wf64 (by omega) (by omega) | exact wf_wrap _ | assumption) (by first | exact wf64 (by omega) (by omega) | exact wf_wrap _ | assumption) (by first | exact wf64 (by omega) (by omega) | exact wf_wrap _ | assumption) (by first | exact wf64 (by omega) (by omega) | exact wf_wrap _ | assumption),(SE.out.back _ _ _ _ _).2⟩
  | some .c =>
    simp only [formO,Fm.str]
    have SA:Hid (It w0 g a n cap w rb ib _):=(It.put (It.put S9.out 1 (by omega) rd (by first | exact wf64 (by omega) (by omega) | exact wf_wrap _ | assumption)) 2 (by omega) aa (by first | exact wf64 (by omega) (by omega) | exact wf_wrap _ | assumption))
    go_wp2_with fail
    refine (l4DrawNumber_c HD.out _ SA.out.cur).mono ?_
    rintro e wk ⟨im,rfl,imwf,hs⟩
    have T1:Hid (It w0 g a n cap w rb ib wk):=SA.out.next hs.out
    clear hs SA
    clear S9
    clear p0 p1 p2 p3 p4 f0 f1 f2 f3 f4 q0 q1 q2 q3 q4 e0 e1 e2 e3 e4 HWF
    obtain ⟨ic,jc,hwfc,⟨p0,p1,p2,p3,p4⟩,⟨f0,f1,f2,f3,f4⟩,⟨q0,q1,q2,q3,q4⟩,⟨e0,e1,e2,e3,e4⟩⟩:=T1.out.facts
    have HWF:Hid ic.wf:=hwfc
    clear hwfc
    have SE:Hid (It w0 g a n cap w rb ib _):=(It.put T1.out 4 (by omega) im (by first | exact wf64 (by omega) (by omega) | exact wf_wrap _ | assumption))
    go_wp2_with fail
    refine bodyPost_ret (results_cell_row Tryz.results34 _ _ rb 63 _ _ _ rfl (SE.out.back _ _ _ _ _).1 Tryz.underlying63 rfl inst_sizeD) rfl ?_
    obtain ⟨g0,g1,g2,g3,g4⟩:=HWF.out
    exact ⟨⟨_,_,_,_,_⟩,rfl,Ins.wf_mk (by first | exact wf64 (by omega) (by omega) | exact wf_wrap _ | assumption) (by first | exact wf64 (by omega) (by omega) | exact wf_wrap _ | assumption) (by first | exact wf64 (by omega) (by omega) | exact wf_wrap _ | assumption) (by first | exact wf64 (by omega) (by omega) | exact wf_wrap _ | assumption) (by first | exact wf64 (by omega) (by omega) | exact wf_wrap _ | assumption),(SE.out.back _ _ _ _ _).2⟩
  | some .i =>
    simp only [formO,Fm.str]
    have SA:Hid (It w0 g a n cap w rb ib _):=(It.put (It.put (It.put S9.out 1 (by omega) rd (by first | exact wf64 (by omega) (by omega) | exact wf_wrap _ | assumption)) 2 (by omega) aa (by first | exact wf64 (by omega) (by omega) | exact wf_wrap _ | assumption)) 4 (by omega) nn (by first | exact wf64 (by omega) (by omega) | exact wf_wrap _ | assumption))
    go_wp2_with fail
    refine (l1Once_c HD.out 6 (by omega) _ SA.out.cur).mono ?_
    rintro e wk ⟨cc,rfl,hs⟩
    have T1:Hid (It w0 g a n cap w rb ib wk):=SA.out.next hs.out
    clear hs SA
    clear S9
    clear p0 p1 p2 p3 p4 f0 f1 f2 f3 f4 q0 q1 q2 q3 q4 e0 e1 e2 e3 e4 HWF
    obtain ⟨ic,jc,hwfc,⟨p0,p1,p2,p3,p4⟩,⟨f0,f1,f2,f3,f4⟩,⟨q0,q1,q2,q3,q4⟩,⟨e0,e1,e2,e3,e4⟩⟩:=T1.out.facts
    have HWF:Hid ic.wf:=hwfc
    clear hwfc
    cases cc with
    | false =>
      have SE:Hid (It w0 g a n cap w rb ib _):=T1
      go_wp2_with fail
      refine bodyPost_ret (results_cell_row Tryz.results34 _ _ rb 63 _ _ _ rfl (SE.out.back _ _ _ _ _).1 Tryz.underlying63 rfl inst_sizeD) rfl ?_
      obtain ⟨g0,g1,g2,g3,g4⟩:=HWF.out
      exact ⟨⟨_,_,_,_,_⟩,rfl,Ins.wf_mk (by first | exact wf64 (by omega) (by omega) | exact wf_wrap _ | assumption) (by first | exact wf64 (by omega) (by omega) | exact wf_wrap _ | assumption) (by first | exact wf64 (by omega) (by omega) | exact wf_wrap _ | assumption) (by first | exact wf64 (by omega) (by omega) | exact wf_wrap _ | assumption) (by first | exact wf64 (by omega) (by omega) | exact wf_wrap _ | assumption),(SE.out.back _ _ _ _ _).2⟩
    | true =>
      have SA:=T1
      go_wp2_with fail
      refine (l1From_c HD.out (-2048) 2047 (by omega) (by omega) (by omega) (by omega) _ SA.out.cur).mono ?_
      rintro e wl ⟨im,rfl,⟨iml,imh⟩,hs⟩
      have T2:Hid (It w0 g a n cap w rb ib wl):=SA.out.next hs.out
      clear hs SA
      clear T1
      clear p0 p1 p2 p3 p4 f0 f1 f2 f3 f4 q0 q1 q2 q3 q4 e0 e1 e2 e3 e4 HWF
      obtain ⟨ic,jc,hwfc,⟨p0,p1,p2,p3,p4⟩,⟨f0,f1,f2,f3,f4⟩,⟨q0,q1,q2,q3,q4⟩,⟨e0,e1,e2,e3,e4⟩⟩:=T2.out.facts
      have HWF:Hid ic.wf:=hwfc
      clear hwfc
      have SE:Hid (It w0 g a n cap w rb ib _):=(It.put T2.out 4 (by omega) im (by first | exact wf64 (by omega) (by omega) | exact wf_wrap _ | assumption))
      go_wp2_with fail
      refine bodyPost_ret (results_cell_row Tryz.results34 _ _ rb 63 _ _ _ rfl (SE.out.back _ _ _ _ _).1 Tryz.underlying63 rfl inst_sizeD) rfl ?_
      obtain ⟨g0,g1,g2,g3,g4⟩:=HWF.out
      exact ⟨⟨_,_,_,_,_⟩,rfl,Ins.wf_mk (by first | exact wf64 (by omega) (by omega) | exact wf_wrap _ | assumption) (by first | exact wf64 (by omega) (by omega) | exact wf_wrap _ | assumption) (by first | exact wf64 (by omega) (by omega) | exact wf_wrap _ | assumption) (by first | exact wf64 (by omega) (by omega) | exact wf_wrap _ | assumption) (by first | exact wf64 (by omega) (by omega) | exact wf_wrap _ | assumption),(SE.out.back _ _ _ _ _).2⟩
  | some .b =>
    simp only [formO,Fm.str]
    have SA:Hid (It w0 g a n cap w rb ib _):=(It.put (It.put S9.out 2 (by omega) aa (by first | exact wf64 (by omega) (by omega) | exact wf_wrap _ | assumption)) 3 (by omega) bb (by first | exact wf64 (by omega) (by omega) | exact wf_wrap _ | assumption))
    go_wp2_with fail
    refine (l1From_c HD.out (-3) 6 (by omega) (by omega) (by omega) (by omega) _ SA.out.cur).mono ?_
    rintro e wk ⟨im,rfl,⟨iml,imh⟩,hs⟩
    have T1:Hid (It w0 g a n cap w rb ib wk):=SA.out.next hs.out
    clear hs SA
    clear S9
    clear p0 p1 p2 p3 p4 f0 f1 f2 f3 f4 q0 q1 q2 q3 q4 e0 e1 e2 e3 e4 HWF
    obtain ⟨ic,jc,hwfc,⟨p0,p1,p2,p3,p4⟩,⟨f0,f1,f2,f3,f4⟩,⟨q0,q1,q2,q3,q4⟩,⟨e0,e1,e2,e3,e4⟩⟩:=T1.out.facts
    have HWF:Hid ic.wf:=hwfc
    clear hwfc
    have SA:Hid (It w0 g a n cap w rb ib _):=(It.put T1.out 4 (by omega) (4*im) (by first | exact wf64 (by omega) (by omega) | exact wf_wrap _ | assumption))
    go_wp2_with fail
    refine (l1Once_c HD.out 6 (by omega) _ SA.out.cur).mono ?_
    rintro e wl ⟨cc,rfl,hs⟩
    have T2:Hid (It w0 g a n cap w rb ib wl):=SA.out.next hs.out
    clear hs SA
    clear T1
    clear p0 p1 p2 p3 p4 f0 f1 f2 f3 f4 q0 q1 q2 q3 q4 e0 e1 e2 e3 e4 HWF
    obtain ⟨ic,jc,hwfc,⟨p0,p1,p2,p3,p4⟩,⟨f0,f1,f2,f3,f4⟩,⟨q0,q1,q2,q3,q4⟩,⟨e0,e1,e2,e3,e4⟩⟩:=T2.out.facts
    have HWF:Hid ic.wf:=hwfc
    clear hwfc
    cases cc with
    | false =>
      have SE:Hid (It w0 g a n cap w rb ib _):=T2
      go_wp2_with fail
      refine bodyPost_ret (results_cell_row Tryz.results34 _ _ rb 63 _ _ _ rfl (SE.out.back _ _ _ _ _).1 Tryz.underlying63 rfl inst_sizeD) rfl ?_
      obtain ⟨g0,g1,g2,g3,g4⟩:=HWF.out
      exact ⟨⟨_,_,_,_,_⟩,rfl,Ins.wf_mk (by first | exact wf64 (by omega) (by omega) | exact wf_wrap _ | assumption) (by first | exact wf64 (by omega) (by omega) | exact wf_wrap _ | assumption) (by first | exact wf64 (by omega) (by omega) | exact wf_wrap _ | assumption) (by first | exact wf64 (by omega) (by omega) | exact wf_wrap _ | assumption) (by first | exact wf64 (by omega) (by omega) | exact wf_wrap _ | assumption),(SE.out.back _ _ _ _ _).2⟩
    | true =>
      have SA:=T2
      go_wp2_with fail
      refine (l1From_c HD.out (-2048) 2047 (by omega) (by omega) (by omega) (by omega) _ SA.out.cur).mono ?_
      rintro e wm ⟨iq,rfl,⟨iql,iqh⟩,hs⟩
      have T3:Hid (It w0 g a n cap w rb ib wm):=SA.out.next hs.out
      clear hs SA
      clear T2
      clear p0 p1 p2 p3 p4 f0 f1 f2 f3 f4 q0 q1 q2 q3 q4 e0 e1 e2 e3 e4 HWF
      obtain ⟨ic,jc,hwfc,⟨p0,p1,p2,p3,p4⟩,⟨f0,f1,f2,f3,f4⟩,⟨q0,q1,q2,q3,q4⟩,⟨e0,e1,e2,e3,e4⟩⟩:=T3.out.facts
      have HWF:Hid ic.wf:=hwfc
      clear hwfc
      have SE:Hid (It w0 g a n cap w rb ib _):=(It.put T3.out 4 (by omega) (2*iq) (by first | exact wf64 (by omega) (by omega) | exact wf_wrap _ | assumption))
      go_wp2_with fail
      refine bodyPost_ret (results_cell_row Tryz.results34 _ _ rb 63 _ _ _ rfl (SE.out.back _ _ _ _ _).1 Tryz.underlying63 rfl inst_sizeD) rfl ?_
      obtain ⟨g0,g1,g2,g3,g4⟩:=HWF.out
      exact ⟨⟨_,_,_,_,_⟩,rfl,Ins.wf_mk (by first | exact wf64 (by omega) (by omega) | exact wf_wrap _ | assumption) (by first | exact wf64 (by omega) (by omega) | exact wf_wrap _ | assumption) (by first | exact wf64 (by omega) (by omega) | exact wf_wrap _ | assumption) (by first | exact wf64 (by omega) (by omega) | exact wf_wrap _ | assumption) (by first | exact wf64 (by omega) (by omega) | exact wf_wrap _ | assumption),(SE.out.back _ _ _ _ _).2⟩
  | some .u =>
    simp only [formO,Fm.str]
    have SA:Hid (It w0 g a n cap w rb ib _):=(It.put S9.out 1 (by omega) rd (by first | exact wf64 (by omega) (by omega) | exact wf_wrap _ | assumption))
    go_wp2_with fail
    refine (l1From_c HD.out (-524288) 524287 (by omega) (by omega) (by omega) (by omega) _ SA.out.cur).mono ?_
    rintro e wk ⟨im,rfl,⟨iml,imh⟩,hs⟩
    have T1:Hid (It w0 g a n cap w rb ib wk):=SA.out.next hs.out
    clear hs SA
    clear S9
    clear p0 p1 p2 p3 p4 f0 f1 f2 f3 f4 q0 q1 q2 q3 q4 e0 e1 e2 e3 e4 HWF
    obtain ⟨ic,jc,hwfc,⟨p0,p1,p2,p3,p4⟩,⟨f0,f1,f2,f3,f4⟩,⟨q0,q1,q2,q3,q4⟩,⟨e0,e1,e2,e3,e4⟩⟩:=T1.out.facts
    have HWF:Hid ic.wf:=hwfc
    clear hwfc
    have SA:Hid (It w0 g a n cap w rb ib _):=(It.put T1.out 4 (by omega) (4096*im) (by first | exact wf64 (by omega) (by omega) | exact wf_wrap _ | assumption))
    go_wp2_with fail
    refine (l1Once_c HD.out 2 (by omega) _ SA.out.cur).mono ?_
    rintro e wl ⟨cc,rfl,hs⟩
    have T2:Hid (It w0 g a n cap w rb ib wl):=SA.out.next hs.out
    clear hs SA
    clear T1
    clear p0 p1 p2 p3 p4 f0 f1 f2 f3 f4 q0 q1 q2 q3 q4 e0 e1 e2 e3 e4 HWF
    obtain ⟨ic,jc,hwfc,⟨p0,p1,p2,p3,p4⟩,⟨f0,f1,f2,f3,f4⟩,⟨q0,q1,q2,q3,q4⟩,⟨e0,e1,e2,e3,e4⟩⟩:=T2.out.facts
    have HWF:Hid ic.wf:=hwfc
    clear hwfc
    cases cc with
    | false =>
      have SE:Hid (It w0 g a n cap w rb ib _):=T2
      go_wp2_with fail
      refine bodyPost_ret (results_cell_row Tryz.results34 _ _ rb 63 _ _ _ rfl (SE.out.back _ _ _ _ _).1 Tryz.underlying63 rfl inst_sizeD) rfl ?_
      obtain ⟨g0,g1,g2,g3,g4⟩:=HWF.out
      exact ⟨⟨_,_,_,_,_⟩,rfl,Ins.wf_mk (by first | exact wf64 (by omega) (by omega) | exact wf_wrap _ | assumption) (by first | exact wf64 (by omega) (by omega) | exact wf_wrap _ | assumption) (by first | exact wf64 (by omega) (by omega) | exact wf_wrap _ | assumption) (by first | exact wf64 (by omega) (by omega) | exact wf_wrap _ | assumption) (by first | exact wf64 (by omega) (by omega) | exact wf_wrap _ | assumption),(SE.out.back _ _ _ _ _).2⟩
    | true =>
      have SE:Hid (It w0 g a n cap w rb ib _):=(It.put T2.out 4 (by omega) (-2147483648) (by first | exact wf64 (by omega) (by omega) | exact wf_wrap _ | assumption))
      go_wp2_with fail
      refine bodyPost_ret (results_cell_row Tryz.results34 _ _ rb 63 _ _ _ rfl (SE.out.back _ _ _ _ _).1 Tryz.underlying63 rfl inst_sizeD) rfl ?_
      obtain ⟨g0,g1,g2,g3,g4⟩:=HWF.out
      exact ⟨⟨_,_,_,_,_⟩,rfl,Ins.wf_mk (by first | exact wf64 (by omega) (by omega) | exact wf_wrap _ | assumption) (by first | exact wf64 (by omega) (by omega) | exact wf_wrap _ | assumption) (by first | exact wf64 (by omega) (by omega) | exact wf_wrap _ | assumption) (by first | exact wf64 (by omega) (by omega) | exact wf_wrap _ | assumption) (by first | exact wf64 (by omega) (by omega) | exact wf_wrap _ | assumption),(SE.out.back _ _ _ _ _).2⟩
  | some .j =>
    simp only [formO,Fm.str]
    have SA:Hid (It w0 g a n cap w rb ib _):=(It.put S9.out 1 (by omega) rd (by first | exact wf64 (by omega) (by omega) | exact wf_wrap _ | assumption))
    go_wp2_with fail
    refine (l1From_c HD.out (-4) 8 (by omega) (by omega) (by omega) (by omega) _ SA.out.cur).mono ?_
    rintro e wk ⟨im,rfl,⟨iml,imh⟩,hs⟩
    have T1:Hid (It w0 g a n cap w rb ib wk):=SA.out.next hs.out
    clear hs SA
    clear S9
    clear p0 p1 p2 p3 p4 f0 f1 f2 f3 f4 q0 q1 q2 q3 q4 e0 e1 e2 e3 e4 HWF
    obtain ⟨ic,jc,hwfc,⟨p0,p1,p2,p3,p4⟩,⟨f0,f1,f2,f3,f4⟩,⟨q0,q1,q2,q3,q4⟩,⟨e0,e1,e2,e3,e4⟩⟩:=T1.out.facts
    have HWF:Hid ic.wf:=hwfc
    clear hwfc
    have SA:Hid (It w0 g a n cap w rb ib _):=(It.put T1.out 4 (by omega) (4*im) (by first | exact wf64 (by omega) (by omega) | exact wf_wrap _ | assumption))
    go_wp2_with fail
    refine (l1Once_c HD.out 6 (by omega) _ SA.out.cur).mono ?_
    rintro e wl ⟨cc,rfl,hs⟩
    have T2:Hid (It w0 g a n cap w rb ib wl):=SA.out.next hs.out
    clear hs SA
    clear T1
    clear p0 p1 p2 p3 p4 f0 f1 f2 f3 f4 q0 q1 q2 q3 q4 e0 e1 e2 e3 e4 HWF
    obtain ⟨ic,jc,hwfc,⟨p0,p1,p2,p3,p4⟩,⟨f0,f1,f2,f3,f4⟩,⟨q0,q1,q2,q3,q4⟩,⟨e0,e1,e2,e3,e4⟩⟩:=T2.out.facts
    have HWF:Hid ic.wf:=hwfc
    clear hwfc
    cases cc with
    | false =>
      have SE:Hid (It w0 g a n cap w rb ib _):=T2
      go_wp2_with fail
      refine bodyPost_ret (results_cell_row Tryz.results34 _ _ rb 63 _ _ _ rfl (SE.out.back _ _ _ _ _).1 Tryz.underlying63 rfl inst_sizeD) rfl ?_
      obtain ⟨g0,g1,g2,g3,g4⟩:=HWF.out
      exact ⟨⟨_,_,_,_,_⟩,rfl,Ins.wf_mk (by first | exact wf64 (by omega) (by omega) | exact wf_wrap _ | assumption) (by first | exact wf64 (by omega) (by omega) | exact wf_wrap _ | assumption) (by first | exact wf64 (by omega) (by omega) | exact wf_wrap _ | assumption) (by first | exact wf64 (by omega) (by omega) | exact wf_wrap _ | assumption) (by first | exact wf64 (by omega) (by omega) | exact wf_wrap _ | assumption),(SE.out.back _ _ _ _ _).2⟩
    | true =>
      have SA:=T2
      go_wp2_with fail
      refine (l1From_c HD.out (-524288) 524287 (by omega) (by omega) (by omega) (by omega) _ SA.out.cur).mono ?_
      rintro e wm ⟨iq,rfl,⟨iql,iqh⟩,hs⟩
      have T3:Hid (It w0 g a n cap w rb ib wm):=SA.out.next hs.out
      clear hs SA
      clear T2
      clear p0 p1 p2 p3 p4 f0 f1 f2 f3 f4 q0 q1 q2 q3 q4 e0 e1 e2 e3 e4 HWF
      obtain ⟨ic,jc,hwfc,⟨p0,p1,p2,p3,p4⟩,⟨f0,f1,f2,f3,f4⟩,⟨q0,q1,q2,q3,q4⟩,⟨e0,e1,e2,e3,e4⟩⟩:=T3.out.facts
      have HWF:Hid ic.wf:=hwfc
      clear hwfc
      have SE:Hid (It w0 g a n cap w rb ib _):=(It.put T3.out 4 (by omega) (2*iq) (by first | exact wf64 (by omega) (by omega) | exact wf_wrap _ | assumption))
      go_wp2_with fail
      refine bodyPost_ret (results_cell_row Tryz.results34 _ _ rb 63 _ _ _ rfl (SE.out.back _ _ _ _ _).1 Tryz.underlying63 rfl inst_sizeD) rfl ?_
      obtain ⟨g0,g1,g2,g3,g4⟩:=HWF.out
      exact ⟨⟨_,_,_,_,_⟩,rfl,Ins.wf_mk (by first | exact wf64 (by omega) (by omega) | exact wf_wrap _ | assumption) (by first | exact wf64 (by omega) (by omega) | exact wf_wrap _ | assumption) (by first | exact wf64 (by omega) (by omega) | exact wf_wrap _ | assumption) (by first | exact wf64 (by omega) (by omega) | exact wf_wrap _ | assumption) (by first | exact wf64 (by omega) (by omega) | exact wf_wrap _ | assumption),(SE.out.back _ _ _ _ _).2⟩
  | some .a =>
    simp only [formO,Fm.str]
    cases d63:(ic.op==63) with
    | true =>
      have SA:Hid (It w0 g a n cap w rb ib _):=(It.put (It.put (It.put (It.put S9.out 1 (by omega) rd (by first | exact wf64 (by omega) (by omega) | exact wf_wrap _ | assumption)) 2 (by omega) aa (by first | exact wf64 (by omega) (by omega) | exact wf_wrap _ | assumption)) 3 (by omega) bb (by first | exact wf64 (by omega) (by omega) | exact wf_wrap _ | assumption)) 3 (by omega) 0 (by first | exact wf64 (by omega) (by omega) | exact wf_wrap _ | assumption))
      go_wp2_with fail
      refine (l1Below_c HD.out 4 (by omega) _ SA.out.cur).mono ?_
      rintro e wk ⟨im,rfl,⟨iml,imh⟩,hs⟩
      have T1:Hid (It w0 g a n cap w rb ib wk):=SA.out.next hs.out
      clear hs SA
      clear S9
      clear p0 p1 p2 p3 p4 f0 f1 f2 f3 f4 q0 q1 q2 q3 q4 e0 e1 e2 e3 e4 HWF
      obtain ⟨ic,jc,hwfc,⟨p0,p1,p2,p3,p4⟩,⟨f0,f1,f2,f3,f4⟩,⟨q0,q1,q2,q3,q4⟩,⟨e0,e1,e2,e3,e4⟩⟩:=T1.out.facts
      have HWF:Hid ic.wf:=hwfc
      clear hwfc
      have SE:Hid (It w0 g a n cap w rb ib _):=(It.put T1.out 4 (by omega) im (by first | exact wf64 (by omega) (by omega) | exact wf_wrap _ | assumption))
      go_wp2_with fail
      refine bodyPost_ret (results_cell_row Tryz.results34 _ _ rb 63 _ _ _ rfl (SE.out.back _ _ _ _ _).1 Tryz.underlying63 rfl inst_sizeD) rfl ?_
      obtain ⟨g0,g1,g2,g3,g4⟩:=HWF.out
      exact ⟨⟨_,_,_,_,_⟩,rfl,Ins.wf_mk (by first | exact wf64 (by omega) (by omega) | exact wf_wrap _ | assumption) (by first | exact wf64 (by omega) (by omega) | exact wf_wrap _ | assumption) (by first | exact wf64 (by omega) (by omega) | exact wf_wrap _ | assumption) (by first | exact wf64 (by omega) (by omega) | exact wf_wrap _ | assumption) (by first | exact wf64 (by omega) (by omega) | exact wf_wrap _ | assumption),(SE.out.back _ _ _ _ _).2⟩
    | false =>
      cases d74:(ic.op==74) with
      | true =>
        have SA:Hid (It w0 g a n cap w rb ib _):=(It.put (It.put (It.put (It.put S9.out 1 (by omega) rd (by first | exact wf64 (by omega) (by omega) | exact wf_wrap _ | assumption)) 2 (by omega) aa (by first | exact wf64 (by omega) (by omega) | exact wf_wrap _ | assumption)) 3 (by omega) bb (by first | exact wf64 (by omega) (by omega) | exact wf_wrap _ | assumption)) 3 (by omega) 0 (by first | exact wf64 (by omega) (by omega) | exact wf_wrap _ | assumption))
        go_wp2_with fail
        refine (l1Below_c HD.out 4 (by omega) _ SA.out.cur).mono ?_
        rintro e wk ⟨im,rfl,⟨iml,imh⟩,hs⟩
        have T1:Hid (It w0 g a n cap w rb ib wk):=SA.out.next hs.out
        clear hs SA
        clear S9
        clear p0 p1 p2 p3 p4 f0 f1 f2 f3 f4 q0 q1 q2 q3 q4 e0 e1 e2 e3 e4 HWF
        obtain ⟨ic,jc,hwfc,⟨p0,p1,p2,p3,p4⟩,⟨f0,f1,f2,f3,f4⟩,⟨q0,q1,q2,q3,q4⟩,⟨e0,e1,e2,e3,e4⟩⟩:=T1.out.facts
        have HWF:Hid ic.wf:=hwfc
        clear hwfc
        have SE:Hid (It w0 g a n cap w rb ib _):=(It.put T1.out 4 (by omega) im (by first | exact wf64 (by omega) (by omega) | exact wf_wrap _ | assumption))
        go_wp2_with fail
        refine bodyPost_ret (results_cell_row Tryz.results34 _ _ rb 63 _ _ _ rfl (SE.out.back _ _ _ _ _).1 Tryz.underlying63 rfl inst_sizeD) rfl ?_
        obtain ⟨g0,g1,g2,g3,g4⟩:=HWF.out
        exact ⟨⟨_,_,_,_,_⟩,rfl,Ins.wf_mk (by first | exact wf64 (by omega) (by omega) | exact wf_wrap _ | assumption) (by first | exact wf64 (by omega) (by omega) | exact wf_wrap _ | assumption) (by first | exact wf64 (by omega) (by omega) | exact wf_wrap _ | assumption) (by first | exact wf64 (by omega) (by omega) | exact wf_wrap _ | assumption) (by first | exact wf64 (by omega) (by omega) | exact wf_wrap _ | assumption),(SE.out.back _ _ _ _ _).2⟩
      | false =>
        have SA:Hid (It w0 g a n cap w rb ib _):=(It.put (It.put (It.put S9.out 1 (by omega) rd (by first | exact wf64 (by omega) (by omega) | exact wf_wrap _ | assumption)) 2 (by omega) aa (by first | exact wf64 (by omega) (by omega) | exact wf_wrap _ | assumption)) 3 (by omega) bb (by first | exact wf64 (by omega) (by omega) | exact wf_wrap _ | assumption))
        go_wp2_with fail
        refine (l1Below_c HD.out 4 (by omega) _ SA.out.cur).mono ?_
        rintro e wk ⟨im,rfl,⟨iml,imh⟩,hs⟩
        have T1:Hid (It w0 g a n cap w rb ib wk):=SA.out.next hs.out
        clear hs SA
        clear S9
        clear p0 p1 p2 p3 p4 f0 f1 f2 f3 f4 q0 q1 q2 q3 q4 e0 e1 e2 e3 e4 HWF
        obtain ⟨ic,jc,hwfc,⟨p0,p1,p2,p3,p4⟩,⟨f0,f1,f2,f3,f4⟩,⟨q0,q1,q2,q3,q4⟩,⟨e0,e1,e2,e3,e4⟩⟩:=T1.out.facts
        have HWF:Hid ic.wf:=hwfc
        clear hwfc
        have SE:Hid (It w0 g a n cap w rb ib _):=(It.put T1.out 4 (by omega) im (by first | exact wf64 (by omega) (by omega) | exact wf_wrap _ | assumption))
        go_wp2_with fail
        refine bodyPost_ret (results_cell_row Tryz.results34 _ _ rb 63 _ _ _ rfl (SE.out.back _ _ _ _ _).1 Tryz.underlying63 rfl inst_sizeD) rfl ?_
        obtain ⟨g0,g1,g2,g3,g4⟩:=HWF.out
        exact ⟨⟨_,_,_,_,_⟩,rfl,Ins.wf_mk (by first | exact wf64 (by omega) (by omega) | exact wf_wrap _ | assumption) (by first | exact wf64 (by omega) (by omega) | exact wf_wrap _ | assumption) (by first | exact wf64 (by omega) (by omega) | exact wf_wrap _ | assumption) (by first | exact wf64 (by omega) (by omega) | exact wf_wrap _ | assumption) (by first | exact wf64 (by omega) (by omega) | exact wf_wrap _ | assumption),(SE.out.back _ _ _ _ _).2⟩)

end Go.Proofs.YtbajeckeeekhnaaGreat
