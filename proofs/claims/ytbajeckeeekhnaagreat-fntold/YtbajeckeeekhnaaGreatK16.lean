/- Own lemmas. -/
import Derived.Test.YtbajeckeeekhnaaGreatK01
import Derived.Test.YtbajeckeeekhnaaGreatK02
import Derived.Conc.LoneCalls
import Derived.Tactics2
import Derived.Deep.Cut
import Derived.Laws.Cover3
namespace Go.Proofs.YtbajeckeeekhnaaGreat
open Go.Conc Go.RowKit

def RunsIn (P:Program) (ops:Array Oper) (Q:Exit→Act→World→Prop) (l:List Nat) (a:Act) (w:World):Prop :=
 ∀ (b:Frame) (k:List Item) (cs:List Frame),∃ e a' w',Q e a' w'∧Arrives P (lone (b.at a (.inRegion ops l :: k)) cs w) b k cs e a' w'

section
variable {P : Program} {ops : Array Oper} {Q : Exit → Act → World → Prop} {a : Act} {w w₁ : World} {i : Nat} {rest : List Nat} {o : Oper}

theorem fin (ho:ops[i]?=some o) (b:Frame) (k:List Item) (v:Value):(b.at a (.inRegion ops (i :: rest) :: k)).finish v=b.at (a.put o.dst v) (.inRegion ops rest :: k):=by
 rw [Frame.finish_at,ho];rfl

def upon (P:Program) (ops:Array Oper) (Q:Exit→Act→World→Prop) (rest:List Nat) (a:Act) (o:Oper):Result Next→Prop
 | .ok (.value v) w'=>RunsIn P ops Q rest (a.put o.dst v) w'
 | .ok .skip w'=>RunsIn P ops Q rest (a.put o.dst undef) w'
 | _=>False
@[simp] theorem upon_value (v:Value) (w':World):upon P ops Q rest a o (.ok (.value v) w')=RunsIn P ops Q rest (a.put o.dst v) w':=rfl
@[simp] theorem upon_skip (w':World):upon P ops Q rest a o (.ok .skip w')=RunsIn P ops Q rest (a.put o.dst undef) w':=rfl

variable {c cap s r : Nat} {buf : Array Value} {z v : Value} {tm closed : Bool}

end

section
variable {w : World} {c cap : Nat} {buf : List Value} {closed : Bool}

variable {P : Program} {ops : Array Oper} {Q : Exit → Act → World → Prop} {a : Act} {i : Nat} {rest : List Nat} {o : Oper} {v z : Value}
end

end Go.Proofs.YtbajeckeeekhnaaGreat

namespace Go.Proofs.YtbajeckeeekhnaaGreat
open Go.RowKit
set_option linter.unusedVariables false

set_option maxRecDepth 100000 in
theorem append_where {w:World} {base n:Nat} {v:Value} {xs:List Value} (ty:TypeId) (hown:w.ownsRow base 5 1 v n xs) (a:Addr) (c:Nat) (b:Int) (hnews:∀ j u,[Value.int .u8 b][j]?=some u→w.cell? (a.add j)=some u) (hn:n≤1048576) {v':Value} {w':World}
 (hr:(Builtin.append_ #[22,22] ty #[v,.slice (some a) 1 c]).run Tryz.prog w=.ok v' w'):v'.ownBlock=v.ownBlock∨v'.ownBlock=some w.heap.size:=by
 obtain ⟨i0,hi,hz0,hz1,hz2⟩:=info_parts Tryz.info5
 have h1:∀ u ∈ [Value.int .u8 b],u.oneCell'=true:=by simp [Value.oneCell']
 have hl:[Value.int .u8 b].length=1*i0.size:=by rw [hz1];rfl
 rcases hown.2 with ⟨e,e0⟩ | ⟨g,cap,cur,e,hg,hcur,hc1,hc2,hcs,htk⟩
 ·subst e
  right
  have h:=run_append_grow_src (P:=Tryz.prog) w 22 22 ty 5 i0 (.int .u8 0) Tryz.underlying22 hi hz0 none 0 0 [] (run_firstCells_none w.drew i0.size 0 0 0) (.slice (some a) 1 c) 1 [.int .u8 b] (Src.ofSlice w Tryz.underlying22 a 1 c [.int .u8 b] hl hnews h1) (by omega) (by omega) (growslice_fits (by omega) (by rw [hz2];omega))
  rw [h] at hr
  injection hr with e1 _
  rw [← e1]
  rfl
 ·subst e
  by_cases hroom:n+1≤cap
  ·left
   have h:=run_append_room (P:=Tryz.prog) w 22 ty 5 i0 Tryz.underlying22 hi g n cap cur hcur a 1 c [.int .u8 b] hl hnews h1 hroom (by rw [hz1] at *;simp;omega)
   rw [h] at hr
   injection hr with e1 _
   rw [← e1]
   rfl
  ·right
   have holds:∀ j u,xs[j]?=some u→w.cell? ((⟨g,0,none⟩:Addr).add j)=some u:=hown.cells (g:=g) rfl
   have h:=run_append_grow (P:=Tryz.prog) w 22 ty 5 i0 (.int .u8 0) Tryz.underlying22 hi hz0 ⟨g,0,none⟩ n cap xs (by rw [hz1];exact hown.1) holds a 1 c [.int .u8 b] hl hnews (by omega) (by omega) (growslice_fits (by omega) (by rw [hz2];omega))
   rw [h] at hr
   injection hr with e1 _
   rw [← e1]
   rfl

theorem one_new8 (w:World) (b:Int) (j:Nat) (u:Value) (h:[Value.int .u8 b][j]?=some u):(w.alloc (.cells #[.int .u8 b] 5)).cell? ((⟨w.heap.size,0,none⟩:Addr).add j)=some u:=by
 have hj:j=0:=by
  rcases Nat.eq_zero_or_pos j with h0 | h0
  ·exact h0
  ·rw [List.getElem?_eq_none (by simp;omega)] at h;cases h
 subst hj
 rw [adds]
 simp only [List.getElem?_cons_zero,Option.some.injEq] at h
 subst h
 have e:=heap_alloc_new w (.cells #[.int .u8 b] 5)
 show (w.alloc (.cells #[.int .u8 b] 5)).cell? ⟨w.heap.size,0,none⟩=_
 simp only [World.cell?,e]
 rfl

end Go.Proofs.YtbajeckeeekhnaaGreat

namespace Go.Proofs.YtbajeckeeekhnaaGreat
open Go.RowKit Go.Conc
set_option linter.unusedVariables false

def behind (zs:List Int) (b:Int) (most:Nat):List Int:=if zs.length < most then zs ++ [b] else zs

end Go.Proofs.YtbajeckeeekhnaaGreat

namespace Go.Proofs.YtbajeckeeekhnaaGreat
open Go.RowKit
set_option linter.unusedVariables false

set_option maxRecDepth 100000 in
set_option maxHeartbeats 1600000 in
theorem implDevOk_any (t cm:Int) (so:Bool) (a1:Option Addr) (n1 c1:Nat) (a2:Option Addr) (n2 c2:Nat) (ir:Int) (w:World) (hn1:n1≤1048576) (hn2:n2≤1048576) :
 Calls Tryz.prog 17 #[.agg #[.int .u64 t,.int .u64 cm,.bool so,.slice a1 n1 c1,.slice a2 n2 c2,.int .i64 ir]] w fun e w'=>e=.returned (.bool (okD n1 n2 ir))∧Below w.heap.size w w':=by
 have hB:∀ o,Below w.heap.size w (w.alloc o):=fun o=>(Below.refl _ _).alloc (Nat.le_refl _) o
 have F:okD n1 n2 ir=(decide (n1≤16)&&decide (n2≤4096)&&decide (0≤ir∧ir≤1)):=rfl
 by_cases h1:n1≤16
 ·have d1:decide ((n1:Int)≤16)=true:=by simp;omega
  by_cases h2:n2≤4096
  ·have d2:decide ((n2:Int)≤4096)=true:=by simp;omega
   by_cases h3:ir=0
   ·have F2:Hid (okD n1 n2 ir=true):=by show _=_;rw [F,decide_eq_true h1,decide_eq_true h2,h3];rfl
    subst h3
    generalize okD n1 n2 0=v at *
    clear F h1 h2 hn1 hn2
    go_enter Tryz.func17,Tryz.ntmps17
    go_wp2_with fail
    go_ret
    exact ⟨by rw [F2.out];rfl,hB _⟩
   ·by_cases h4:ir=1
    ·have F2:Hid (okD n1 n2 ir=true):=by show _=_;rw [F,decide_eq_true h1,decide_eq_true h2,h4];rfl
     subst h4
     generalize okD n1 n2 1=v at *
     clear F h1 h2 h3 hn1 hn2
     go_enter Tryz.func17,Tryz.ntmps17
     go_wp2_with fail
     go_ret
     exact ⟨by rw [F2.out];rfl,hB _⟩
    ·have F2:Hid (okD n1 n2 ir=false):=by show _=_;rw [F,decide_eq_true h1,decide_eq_true h2,decide_eq_false (by omega)];rfl
     have d3:(ir==0)=false:=by simpa using h3
     have d4:(ir==1)=false:=by simpa using h4
     generalize okD n1 n2 ir=v at *
     clear F h1 h2 h3 h4 hn1 hn2
     go_enter Tryz.func17,Tryz.ntmps17
     go_wp2_with fail
     go_ret
     exact ⟨by rw [F2.out];rfl,hB _⟩
  ·have d2:decide ((n2:Int)≤4096)=false:=by simp;omega
   have F2:Hid (okD n1 n2 ir=false):=by show _=_;rw [F,decide_eq_true h1,decide_eq_false h2];rfl
   generalize okD n1 n2 ir=v at *
   clear F h1 h2 hn1 hn2
   go_enter Tryz.func17,Tryz.ntmps17
   go_wp2_with fail
   go_ret
   exact ⟨by rw [F2.out];rfl,hB _⟩
 ·have d1:decide ((n1:Int)≤16)=false:=by simp;omega
  have F2:Hid (okD n1 n2 ir=false):=by show _=_;rw [F,decide_eq_false h1];rfl
  generalize okD n1 n2 ir=v at *
  clear F h1 hn1 hn2
  go_enter Tryz.func17,Tryz.ntmps17
  go_wp2_with fail
  go_ret
  exact ⟨by rw [F2.out];rfl,hB _⟩

set_option maxRecDepth 100000 in
set_option maxHeartbeats 1600000 in
theorem implLines_any (D:DV) (a1:Option Addr) (c1:Nat) (a2:Option Addr) (c2:Nat) (w:World) (hn1:D.xs.length≤1048576) (hn2:D.ys.length≤1048576) :
 Calls Tryz.prog 32 #[.agg #[.int .u64 D.t,.int .u64 D.cm,.bool D.so,.slice a1 D.xs.length c1,.slice a2 D.ys.length c2,.int .i64 D.ir]] w fun e w'=>e=.returned (.int .u64 (linesD D))∧Below w.heap.size w w':=by
 have HOK:Hid (∀ w,Calls Tryz.prog 17 #[.agg #[.int .u64 D.t,.int .u64 D.cm,.bool D.so,.slice a1 D.xs.length c1,.slice a2 D.ys.length c2,.int .i64 D.ir]] w fun e w'=>e=.returned (.bool (okD D.xs.length D.ys.length D.ir))∧Below w.heap.size w w'):=fun w=>implDevOk_any _ _ _ _ _ _ _ _ _ _ w hn1 hn2
 have hB:∀ o,Below w.heap.size w (w.alloc o):=fun o=>(Below.refl _ _).alloc (Nat.le_refl _) o
 have F:linesD D=if okD D.xs.length D.ys.length D.ir=true then linesV D else 0:=rfl
 have FV:linesV D=IntKind.u64.wrap (IntKind.u64.wrap (IntKind.u64.wrap (8*oneIf D.so)+IntKind.u64.wrap (128*oneIf (decide (D.cm≤D.t))))+IntKind.u64.wrap (2048*oneIf ((D.ir==1)&&decide (0 < D.xs.length)))):=rfl
 generalize linesD D=v at *
 generalize linesV D=u at *
 generalize okD D.xs.length D.ys.length D.ir=q at *
 cases q with
 | false =>
   have F2:Hid (v=0):=F
   clear F FV
   obtain ⟨t,cm,so,xs,ys,ir⟩:=D
   dsimp only at HOK hn1 hn2 ⊢
   generalize xs.length=n1 at *
   generalize ys.length=n2 at *
   go_enter Tryz.func32,Tryz.ntmps32
   go_wp2_with fail
   refine (HOK.out _).mono ?_
   rintro e w1 ⟨rfl,hb1⟩
   go_wp2_with fail
   go_ret
   exact ⟨by rw [F2.out];rfl,below_trans (hB _) hb1⟩
 | true =>
   have F2:v=u:=F
   clear F
   obtain ⟨t,cm,so,xs,ys,ir⟩:=D
   dsimp only at HOK FV hn1 hn2 ⊢
   generalize xs.length=n1 at *
   generalize ys.length=n2 at *
   rw [← F2] at FV
   clear F2 hn1 hn2
   cases so with
   | false =>
     cases dt:decide (cm≤t) with
     | false =>
       cases di:(ir==1) with
       | false =>
         skip
         ·
          have F3:Hid (v=0):=by show _=_;rw [FV,dt,di];rfl
          clear FV
          go_enter Tryz.func32,Tryz.ntmps32
          go_wp2_with fail
          refine (HOK.out _).mono ?_
          rintro e w1 ⟨rfl,hb1⟩
          obtain ⟨p0,p1,p2,p3,p4,p5⟩:=cells6 (dstays hb1 (heap_alloc_new w _))
          have B1:=dhid (below_trans (hB _) hb1)
          clear hb1
          go_wp2_with fail
          go_ret
          exact ⟨by rw [F3.out];rfl,B1.out⟩
       | true =>
         cases dn:decide (0 < n1) with
         | false =>
           have F3:Hid (v=0):=by show _=_;rw [FV,dt,di,dn];rfl
           clear FV
           go_enter Tryz.func32,Tryz.ntmps32
           go_wp2_with fail
           refine (HOK.out _).mono ?_
           rintro e w1 ⟨rfl,hb1⟩
           obtain ⟨p0,p1,p2,p3,p4,p5⟩:=cells6 (dstays hb1 (heap_alloc_new w _))
           have B1:=dhid (below_trans (hB _) hb1)
           clear hb1
           go_wp2_with fail
           go_ret
           exact ⟨by rw [F3.out];rfl,B1.out⟩
         | true =>
           have F3:Hid (v=2048):=by show _=_;rw [FV,dt,di,dn];rfl
           clear FV
           go_enter Tryz.func32,Tryz.ntmps32
           go_wp2_with fail
           refine (HOK.out _).mono ?_
           rintro e w1 ⟨rfl,hb1⟩
           obtain ⟨p0,p1,p2,p3,p4,p5⟩:=cells6 (dstays hb1 (heap_alloc_new w _))
           have B1:=dhid (below_trans (hB _) hb1)
           clear hb1
           go_wp2_with fail
           go_ret
           exact ⟨by rw [F3.out];rfl,B1.out⟩
     | true =>
       cases di:(ir==1) with
       | false =>
         skip
         ·
          have F3:Hid (v=128):=by show _=_;rw [FV,dt,di];rfl
          clear FV
          go_enter Tryz.func32,Tryz.ntmps32
          go_wp2_with fail
          refine (HOK.out _).mono ?_
          rintro e w1 ⟨rfl,hb1⟩
          obtain ⟨p0,p1,p2,p3,p4,p5⟩:=cells6 (dstays hb1 (heap_alloc_new w _))
          have B1:=dhid (below_trans (hB _) hb1)
          clear hb1
          go_wp2_with fail
          go_ret
          exact ⟨by rw [F3.out];rfl,B1.out⟩
       | true =>
         cases dn:decide (0 < n1) with
         | false =>
           have F3:Hid (v=128):=by show _=_;rw [FV,dt,di,dn];rfl
           clear FV
           go_enter Tryz.func32,Tryz.ntmps32
           go_wp2_with fail
           refine (HOK.out _).mono ?_
           rintro e w1 ⟨rfl,hb1⟩
           obtain ⟨p0,p1,p2,p3,p4,p5⟩:=cells6 (dstays hb1 (heap_alloc_new w _))
           have B1:=dhid (below_trans (hB _) hb1)
           clear hb1
           go_wp2_with fail
           go_ret
           exact ⟨by rw [F3.out];rfl,B1.out⟩
         | true =>
           have F3:Hid (v=2176):=by show _=_;rw [FV,dt,di,dn];rfl
           clear FV
           go_enter Tryz.func32,Tryz.ntmps32
           go_wp2_with fail
           refine (HOK.out _).mono ?_
           rintro e w1 ⟨rfl,hb1⟩
           obtain ⟨p0,p1,p2,p3,p4,p5⟩:=cells6 (dstays hb1 (heap_alloc_new w _))
           have B1:=dhid (below_trans (hB _) hb1)
           clear hb1
           go_wp2_with fail
           go_ret
           exact ⟨by rw [F3.out];rfl,B1.out⟩
   | true =>
     cases dt:decide (cm≤t) with
     | false =>
       cases di:(ir==1) with
       | false =>
         skip
         ·
          have F3:Hid (v=8):=by show _=_;rw [FV,dt,di];rfl
          clear FV
          go_enter Tryz.func32,Tryz.ntmps32
          go_wp2_with fail
          refine (HOK.out _).mono ?_
          rintro e w1 ⟨rfl,hb1⟩
          obtain ⟨p0,p1,p2,p3,p4,p5⟩:=cells6 (dstays hb1 (heap_alloc_new w _))
          have B1:=dhid (below_trans (hB _) hb1)
          clear hb1
          go_wp2_with fail
          go_ret
          exact ⟨by rw [F3.out];rfl,B1.out⟩
       | true =>
         cases dn:decide (0 < n1) with
         | false =>
           have F3:Hid (v=8):=by show _=_;rw [FV,dt,di,dn];rfl
           clear FV
           go_enter Tryz.func32,Tryz.ntmps32
           go_wp2_with fail
           refine (HOK.out _).mono ?_
           rintro e w1 ⟨rfl,hb1⟩
           obtain ⟨p0,p1,p2,p3,p4,p5⟩:=cells6 (dstays hb1 (heap_alloc_new w _))
           have B1:=dhid (below_trans (hB _) hb1)
           clear hb1
           go_wp2_with fail
           go_ret
           exact ⟨by rw [F3.out];rfl,B1.out⟩
         | true =>
           have F3:Hid (v=2056):=by show _=_;rw [FV,dt,di,dn];rfl
           clear FV
           go_enter Tryz.func32,Tryz.ntmps32
           go_wp2_with fail
           refine (HOK.out _).mono ?_
           rintro e w1 ⟨rfl,hb1⟩
           obtain ⟨p0,p1,p2,p3,p4,p5⟩:=cells6 (dstays hb1 (heap_alloc_new w _))
           have B1:=dhid (below_trans (hB _) hb1)
           clear hb1
           go_wp2_with fail
           go_ret
           exact ⟨by rw [F3.out];rfl,B1.out⟩
     | true =>
       cases di:(ir==1) with
       | false =>
         skip
         ·
          have F3:Hid (v=136):=by show _=_;rw [FV,dt,di];rfl
          clear FV
          go_enter Tryz.func32,Tryz.ntmps32
          go_wp2_with fail
          refine (HOK.out _).mono ?_
          rintro e w1 ⟨rfl,hb1⟩
          obtain ⟨p0,p1,p2,p3,p4,p5⟩:=cells6 (dstays hb1 (heap_alloc_new w _))
          have B1:=dhid (below_trans (hB _) hb1)
          clear hb1
          go_wp2_with fail
          go_ret
          exact ⟨by rw [F3.out];rfl,B1.out⟩
       | true =>
         cases dn:decide (0 < n1) with
         | false =>
           have F3:Hid (v=136):=by show _=_;rw [FV,dt,di,dn];rfl
           clear FV
           go_enter Tryz.func32,Tryz.ntmps32
           go_wp2_with fail
           refine (HOK.out _).mono ?_
           rintro e w1 ⟨rfl,hb1⟩
           obtain ⟨p0,p1,p2,p3,p4,p5⟩:=cells6 (dstays hb1 (heap_alloc_new w _))
           have B1:=dhid (below_trans (hB _) hb1)
           clear hb1
           go_wp2_with fail
           go_ret
           exact ⟨by rw [F3.out];rfl,B1.out⟩
         | true =>
           have F3:Hid (v=2184):=by show _=_;rw [FV,dt,di,dn];rfl
           clear FV
           go_enter Tryz.func32,Tryz.ntmps32
           go_wp2_with fail
           refine (HOK.out _).mono ?_
           rintro e w1 ⟨rfl,hb1⟩
           obtain ⟨p0,p1,p2,p3,p4,p5⟩:=cells6 (dstays hb1 (heap_alloc_new w _))
           have B1:=dhid (below_trans (hB _) hb1)
           clear hb1
           go_wp2_with fail
           go_ret
           exact ⟨by rw [F3.out];rfl,B1.out⟩

end Go.Proofs.YtbajeckeeekhnaaGreat
