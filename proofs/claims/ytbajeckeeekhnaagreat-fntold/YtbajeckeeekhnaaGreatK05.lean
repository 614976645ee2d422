/- Own lemmas. -/
import Derived.Test.YtbajeckeeekhnaaGreatK01
import Derived.Test.YtbajeckeeekhnaaGreatK03
import Derived.Test.YtbajeckeeekhnaaGreatK04
import Derived.Test.YtbajeckeeekhnaaGreatProg
import Derived.WalkKit
import Derived.Great.BuildSlice
import Derived.Laws.BitsAllLaws
namespace Go.Proofs.YtbajeckeeekhnaaGreat
set_option linter.unusedVariables false

inductive Fm where | r | i | h | w | s | b | u | j | a | c | x
deriving DecidableEq

def Fm.str:Fm→ByteArray
 | .r=>⟨#[82]⟩ | .i=>⟨#[73]⟩ | .h=>⟨#[72]⟩ | .w=>⟨#[87]⟩ | .s=>⟨#[83]⟩ | .b=>⟨#[66]⟩ | .u=>⟨#[85]⟩ | .j=>⟨#[74]⟩ | .a=>⟨#[65]⟩ | .c=>⟨#[67]⟩ | .x=>⟨#[88]⟩

structure Row where
 name:ByteArray
 fm:Fm
 op:Int
 f3:Int
 more:Int

def rows:List Row:=[
 ⟨⟨#[108,117,105]⟩,.u,55,(-1),0⟩,
 ⟨⟨#[97,117,105,112,99]⟩,.u,23,(-1),0⟩,
 ⟨⟨#[106,97,108]⟩,.j,111,(-1),0⟩,
 ⟨⟨#[106,97,108,114]⟩,.i,103,0,0⟩,
 ⟨⟨#[98,101,113]⟩,.b,99,0,0⟩,
 ⟨⟨#[98,110,101]⟩,.b,99,1,0⟩,
 ⟨⟨#[98,108,116]⟩,.b,99,4,0⟩,
 ⟨⟨#[98,103,101]⟩,.b,99,5,0⟩,
 ⟨⟨#[98,108,116,117]⟩,.b,99,6,0⟩,
 ⟨⟨#[98,103,101,117]⟩,.b,99,7,0⟩,
 ⟨⟨#[108,98]⟩,.i,3,0,0⟩,
 ⟨⟨#[108,104]⟩,.i,3,1,0⟩,
 ⟨⟨#[108,119]⟩,.i,3,2,0⟩,
 ⟨⟨#[108,100]⟩,.i,3,3,0⟩,
 ⟨⟨#[108,98,117]⟩,.i,3,4,0⟩,
 ⟨⟨#[108,104,117]⟩,.i,3,5,0⟩,
 ⟨⟨#[108,119,117]⟩,.i,3,6,0⟩,
 ⟨⟨#[115,98]⟩,.s,35,0,0⟩,
 ⟨⟨#[115,104]⟩,.s,35,1,0⟩,
 ⟨⟨#[115,119]⟩,.s,35,2,0⟩,
 ⟨⟨#[115,100]⟩,.s,35,3,0⟩,
 ⟨⟨#[97,100,100,105]⟩,.i,19,0,0⟩,
 ⟨⟨#[115,108,116,105]⟩,.i,19,2,0⟩,
 ⟨⟨#[115,108,116,105,117]⟩,.i,19,3,0⟩,
 ⟨⟨#[120,111,114,105]⟩,.i,19,4,0⟩,
 ⟨⟨#[111,114,105]⟩,.i,19,6,0⟩,
 ⟨⟨#[97,110,100,105]⟩,.i,19,7,0⟩,
 ⟨⟨#[115,108,108,105]⟩,.h,19,1,0⟩,
 ⟨⟨#[115,114,108,105]⟩,.h,19,5,0⟩,
 ⟨⟨#[115,114,97,105]⟩,.h,19,5,16⟩,
 ⟨⟨#[97,100,100,105,119]⟩,.i,27,0,0⟩,
 ⟨⟨#[115,108,108,105,119]⟩,.w,27,1,0⟩,
 ⟨⟨#[115,114,108,105,119]⟩,.w,27,5,0⟩,
 ⟨⟨#[115,114,97,105,119]⟩,.w,27,5,32⟩,
 ⟨⟨#[97,100,100]⟩,.r,51,0,0⟩,
 ⟨⟨#[115,117,98]⟩,.r,51,0,32⟩,
 ⟨⟨#[115,108,108]⟩,.r,51,1,0⟩,
 ⟨⟨#[115,108,116]⟩,.r,51,2,0⟩,
 ⟨⟨#[115,108,116,117]⟩,.r,51,3,0⟩,
 ⟨⟨#[120,111,114]⟩,.r,51,4,0⟩,
 ⟨⟨#[115,114,108]⟩,.r,51,5,0⟩,
 ⟨⟨#[115,114,97]⟩,.r,51,5,32⟩,
 ⟨⟨#[111,114]⟩,.r,51,6,0⟩,
 ⟨⟨#[97,110,100]⟩,.r,51,7,0⟩,
 ⟨⟨#[97,100,100,119]⟩,.r,59,0,0⟩,
 ⟨⟨#[115,117,98,119]⟩,.r,59,0,32⟩,
 ⟨⟨#[115,108,108,119]⟩,.r,59,1,0⟩,
 ⟨⟨#[115,114,108,119]⟩,.r,59,5,0⟩,
 ⟨⟨#[115,114,97,119]⟩,.r,59,5,32⟩,
 ⟨⟨#[109,117,108]⟩,.r,51,0,1⟩,
 ⟨⟨#[109,117,108,104]⟩,.r,51,1,1⟩,
 ⟨⟨#[109,117,108,104,115,117]⟩,.r,51,2,1⟩,
 ⟨⟨#[109,117,108,104,117]⟩,.r,51,3,1⟩,
 ⟨⟨#[100,105,118]⟩,.r,51,4,1⟩,
 ⟨⟨#[100,105,118,117]⟩,.r,51,5,1⟩,
 ⟨⟨#[114,101,109]⟩,.r,51,6,1⟩,
 ⟨⟨#[114,101,109,117]⟩,.r,51,7,1⟩,
 ⟨⟨#[109,117,108,119]⟩,.r,59,0,1⟩,
 ⟨⟨#[100,105,118,119]⟩,.r,59,4,1⟩,
 ⟨⟨#[100,105,118,117,119]⟩,.r,59,5,1⟩,
 ⟨⟨#[114,101,109,119]⟩,.r,59,6,1⟩,
 ⟨⟨#[114,101,109,117,119]⟩,.r,59,7,1⟩,
 ⟨⟨#[108,114,46,119]⟩,.a,47,2,2⟩,
 ⟨⟨#[115,99,46,119]⟩,.a,47,2,3⟩,
 ⟨⟨#[97,109,111,115,119,97,112,46,119]⟩,.a,47,2,1⟩,
 ⟨⟨#[97,109,111,97,100,100,46,119]⟩,.a,47,2,0⟩,
 ⟨⟨#[97,109,111,120,111,114,46,119]⟩,.a,47,2,4⟩,
 ⟨⟨#[97,109,111,97,110,100,46,119]⟩,.a,47,2,12⟩,
 ⟨⟨#[97,109,111,111,114,46,119]⟩,.a,47,2,8⟩,
 ⟨⟨#[97,109,111,109,105,110,46,119]⟩,.a,47,2,16⟩,
 ⟨⟨#[97,109,111,109,97,120,46,119]⟩,.a,47,2,20⟩,
 ⟨⟨#[97,109,111,109,105,110,117,46,119]⟩,.a,47,2,24⟩,
 ⟨⟨#[97,109,111,109,97,120,117,46,119]⟩,.a,47,2,28⟩,
 ⟨⟨#[108,114,46,100]⟩,.a,47,3,2⟩,
 ⟨⟨#[115,99,46,100]⟩,.a,47,3,3⟩,
 ⟨⟨#[97,109,111,115,119,97,112,46,100]⟩,.a,47,3,1⟩,
 ⟨⟨#[97,109,111,97,100,100,46,100]⟩,.a,47,3,0⟩,
 ⟨⟨#[97,109,111,120,111,114,46,100]⟩,.a,47,3,4⟩,
 ⟨⟨#[97,109,111,97,110,100,46,100]⟩,.a,47,3,12⟩,
 ⟨⟨#[97,109,111,111,114,46,100]⟩,.a,47,3,8⟩,
 ⟨⟨#[97,109,111,109,105,110,46,100]⟩,.a,47,3,16⟩,
 ⟨⟨#[97,109,111,109,97,120,46,100]⟩,.a,47,3,20⟩,
 ⟨⟨#[97,109,111,109,105,110,117,46,100]⟩,.a,47,3,24⟩,
 ⟨⟨#[97,109,111,109,97,120,117,46,100]⟩,.a,47,3,28⟩,
 ⟨⟨#[102,101,110,99,101]⟩,.i,15,0,0⟩,
 ⟨⟨#[102,101,110,99,101,46,105]⟩,.i,15,1,0⟩,
 ⟨⟨#[99,115,114,114,119]⟩,.c,115,1,0⟩,
 ⟨⟨#[99,115,114,114,115]⟩,.c,115,2,0⟩,
 ⟨⟨#[99,115,114,114,99]⟩,.c,115,3,0⟩,
 ⟨⟨#[99,115,114,114,119,105]⟩,.c,115,5,0⟩,
 ⟨⟨#[99,115,114,114,115,105]⟩,.c,115,6,0⟩,
 ⟨⟨#[99,115,114,114,99,105]⟩,.c,115,7,0⟩,
 ⟨⟨#[101,99,97,108,108]⟩,.x,115,0,0⟩,
 ⟨⟨#[101,98,114,101,97,107]⟩,.x,115,0,1⟩,
 ⟨⟨#[115,114,101,116]⟩,.x,115,0,258⟩,
 ⟨⟨#[109,114,101,116]⟩,.x,115,0,770⟩,
 ⟨⟨#[119,102,105]⟩,.x,115,0,261⟩,
 ⟨⟨#[115,102,101,110,99,101,46,118,109,97]⟩,.r,115,0,9⟩]

def Row.cellsS (r:Row):List Value:=[.string r.name,.string r.fm.str,.int .u64 r.op,.int .i64 r.f3,.int .u64 r.more]

def cellsS:Array Value:=(rows.flatMap Row.cellsS).toArray

theorem rows_len:rows.length=98:=by rfl

theorem flat_drop {α β:Type} (f:α→List β) (m:Nat):∀ (l:List α),(∀ x ∈ l,(f x).length=m)→∀ k (h:k < l.length),((l.flatMap f).drop (k*m)).take m=f l[k]:=by
 intro l
 induction l with
 | nil=>intro _ k h;simp at h
 | cons x l ih =>
   intro hl k h
   have hx:(f x).length=m:=hl x (by simp)
   cases k with
   | zero=>simp [← hx]
   | succ k =>
     have e:(k+1)*m=(f x).length+k*m:=by rw [hx,Nat.succ_mul];omega
     rw [e,List.flatMap_cons,List.drop_append,List.drop_of_length_le (by omega),Nat.add_sub_cancel_left]
     exact ih (fun y hy=>hl y (by simp [hy])) k (by simpa using h)

theorem flat_get {α β:Type} (f:α→List β) (m:Nat) (l:List α) (hl:∀ x ∈ l,(f x).length=m) (k:Nat) (h:k < l.length) (j:Nat) (hj:j < m):(l.flatMap f)[k*m+j]?=(f l[k])[j]?:=by
 rw [← flat_drop f m l hl k h]
 simp [hj]

def rowAt (k:Nat):Row:=rows.getD k ⟨⟨#[]⟩,.x,0,0,0⟩

theorem rowAt_get (k:Nat) (h:k < 98):rows[k]'(by rw [rows_len];exact h)=rowAt k:=by
 simp [rowAt,List.getD,List.getElem?_eq_getElem (show k < rows.length by rw [rows_len];exact h)]

theorem cellsS_at (k:Nat) (h:k < 98) (j:Nat) (hj:j < 5):cellsS[k*5+j]?=(rowAt k).cellsS[j]?:=by
 have:=flat_get Row.cellsS 5 rows (by intro x _;rfl) k (by rw [rows_len];exact h) j hj
 rw [rowAt_get k h] at this
 rw [← this]
 simp [cellsS]

section
variable {P : Program}

def builds (P:Program):List Oper→Act→Option Act
 | [],a=>some a
 | o :: l,a =>
   match o.guard,o.op with
   | none,.build t parts =>
     match P.built t (parts.map fun (i,x)=>(i,a.eval x)).toList with
     | some cells=>builds P l (a.put o.dst (.agg cells))
     | none=>none
   | _,_=>none

theorem wpList_builds {ops:Array Oper} {Q:Exit→Act→World→Prop} {w:World}:∀ (l rest:List Oper) (a a':Act),builds P l a=some a'→wpList P ops Q rest a' w→wpList P ops Q (l ++ rest) a w:=by
 intro l
 induction l with
 | nil=>intro rest a a' h hr;simp [builds] at h;subst h;exact hr
 | cons o l ih =>
   intro rest a a' h hr
   unfold builds at h
   split at h
   ·rename_i t parts hg ho
    split at h
    ·rename_i cells hc
     exact wpList_buildTo hg t parts ho o.dst rfl cells hc (ih _ _ _ h hr)
    ·cases h
   ·cases h

end

end Go.Proofs.YtbajeckeeekhnaaGreat

namespace Go.Proofs.YtbajeckeeekhnaaGreat
open Go.RowKit
set_option linter.unusedVariables false

theorem run_zero {P:Program} {t:TypeId} {z:Value} (h:(P.info? t).bind (·.zero)=some z) (w:World):(zeroValue t).run P w=.ok z w:=by
 cases hi:P.info? t with
 | none=>rw [hi] at h;cases h
 | some i=>rw [hi] at h;simp at h;simp [zeroValue,typeInfo,hi,h]

theorem wpList_allocZ {P:Program} {ops:Array Oper} {rest:List Oper} {o:Oper} {a:Act} {w:World} {Q:Exit→Act→World→Prop} (hg:o.guard=none) (t:TypeId) (ho:o.op=.alloc t) (d:Option Tmp) (hd:o.dst=d) (z:Value) (hz:(P.info? t).bind (·.zero)=some z)
 (h:wpList P ops Q rest (a.put d (.pointer (some ⟨w.heap.size,0,none⟩))) (w.alloc (.cells z.cells t))):wpList P ops Q (o :: rest) a w:=by
 subst hd
 refine wpList_plain hg fun K hK=>?_
 have hrun:(execOp a.eval o).run P w=.ok (.value (.pointer (some ⟨w.heap.size,0,none⟩))) (w.alloc (.cells z.cells t)):=by
  simp [execOp,ho,Instr.alloc,Sem.run_bind,run_zero hz,newVar,newRow]
 unfold Oper.wp
 rw [hrun,Oper.upon_value]
 exact hK _ _ h

theorem wpList_valTo {P:Program} {ops:Array Oper} {rest:List Oper} {o:Oper} {a:Act} {w:World} {Q:Exit→Act→World→Prop} (hg:o.guard=none) (d:Option Tmp) (hd:o.dst=d)
 (v:Value) (hrun:(execOp a.eval o).run P w=.ok (.value v) w)
 (h:wpList P ops Q rest (a.put d v) w):wpList P ops Q (o :: rest) a w:=by
 subst hd
 refine wpList_plain hg fun K hK=>?_
 unfold Oper.wp
 rw [hrun,Oper.upon_value]
 exact hK _ _ h

theorem below_setRow {B:Nat} {a w:World} (h:Below B a w) {g:Nat} (hg:B≤g) (cs:Array Value):Below B a (w.setRow g cs) :=
 ⟨h.os,h.tape,h.output,by rw [setRow_size];exact h.size,fun k hk=>(setRow_other w g k cs (by omega)).trans (h.block k hk)⟩

theorem l2Row_info:(Tryz.prog.info? 87).map (fun i=>(i.zero,i.size,i.bytes))=some (some (.agg #[.string ⟨#[]⟩,.string ⟨#[]⟩,.int .u64 0,.int .i64 0,.int .u64 0]),5,56):=by kernel_rfl

def partsOf (rs:List (List Value)):List (Nat × Value):=(rs.map fun c=>Value.agg c.toArray).zipIdx.map fun (v,i)=>(i,v)

theorem fillS:Instr.fill (fun i=>some (i*5,5)) ((Array.range (98*5)).map ((Value.agg #[.string ⟨#[]⟩,.string ⟨#[]⟩,.int .u64 0,.int .i64 0,.int .u64 0]).cells[· % 5]!)) (partsOf (rows.map Row.cellsS))=some cellsS:=by kernel_rfl

theorem wpList_buildsSlice {P:Program} {ops:Array Oper} {Q:Exit→Act→World→Prop} {w:World} {l:List Oper} {a:Act} (n t e len:Nat) (d:Option Tmp) (ps:Array (Nat × Operand)) (vs:List (Nat × Value)) (cells:Array Value) (ie:TypeInfo) (z:Value)
 (h:(builds P (l.take n) a).map (fun a'=>((ps.map fun (i,x)=>(i,a'.eval x)).toList,a'.tmps.size,a'.defers))=some (vs,a.tmps.size,[]))
 (hu:P.underlying t=some (.slice e)) (hie:P.info? e=some ie) (hz:ie.zero=some z) (hsmall:¬ len*ie.size > 2 ^ 24) (hpos:¬ len*ie.size=0)
 (hf:Instr.fill (fun i=>some (i*ie.size,ie.size)) ((Array.range (len*ie.size)).map (z.cells[· % z.cells.size]!)) vs=some cells)
 (ho:((l.drop n)[0]?.map fun o=>(o.guard,o.op,o.dst))=some (none,.buildSlice t len ps,d))
 (hr:∀ a':Act,a'.tmps.size=a.tmps.size→a'.defers=[]→wpList P ops Q (l.drop (n+1)) (a'.put d (.slice (some ⟨w.heap.size,0,none⟩) len len)) (w.alloc (.cells cells e))):wpList P ops Q l a w:=by
 rw [← List.take_append_drop n l]
 cases hb:builds P (l.take n) a with
 | none=>rw [hb] at h;cases h
 | some a' =>
   rw [hb] at h
   simp only [Option.map_some,Option.some.injEq,Prod.mk.injEq] at h
   refine wpList_builds _ _ _ _ hb ?_
   cases hd:l.drop n with
   | nil=>rw [hd] at ho;cases ho
   | cons o rest =>
     rw [hd] at ho
     simp only [List.getElem?_cons_zero,Option.map_some,Option.some.injEq,Prod.mk.injEq] at ho
     have e1:l.drop (n+1)=rest:=by rw [← List.drop_drop,hd];rfl
     refine wpList_buildSlice ho.1 t e len ps ho.2.1 cells ie z hu hie hz hsmall hpos (by rw [h.1];exact hf) ?_
     rw [ho.2.2,← e1]
     exact hr a' h.2.1 h.2.2

set_option maxRecDepth 100000 in
set_option maxHeartbeats 4000000 in
theorem l2Rows_any (w:World):Calls Tryz.prog 49 #[] w fun e w'=>e=.returned (.slice (some ⟨w.heap.size,0,none⟩) 98 98)∧w'=w.alloc (.cells cellsS 87):=by
 obtain ⟨i0,hi,hz0,hz1,hz2⟩:=info_parts l2Row_info
 go_enter Tryz.func49,Tryz.ntmps49
 apply wp_seq_k;intro K0 hK0
 apply wp_region_list
 refine wpList_valTo rfl (some 0) rfl (.slice none 0 0) (by kernel_rfl) ?_
 apply wpList_nil
 refine hK0 _ _ ?_
 clear hK0 K0
 apply wp_seq_k;intro K0 hK0
 apply wp_region_lit
 refine wpList_buildsSlice 98 84 87 98 (some 99) ((List.range 98).map fun i=>(i,Operand.tmp (i+1))).toArray (partsOf (rows.map Row.cellsS)) cellsS i0 _ (by kernel_rfl) Tryz.underlying84 hi hz0 (by rw [hz1];decide) (by rw [hz1];decide) (by rw [hz1];exact fillS) (by kernel_rfl) ?_
 intro a' hs hd
 have hs2:a'.tmps.size=100:=hs
 clear hs
 refine wpList_valTo rfl (some 0) rfl (.slice (some ⟨w.heap.size,0,none⟩) 98 98) ?_ ?_
 ·have e:(a'.put (some 99) (.slice (some ⟨w.heap.size,0,none⟩) 98 98)).eval (.tmp 99)=.slice (some ⟨w.heap.size,0,none⟩) 98 98:=by
   simp [Act.put,Act.eval,hs2]
  simp [execOp,e]
 apply wpList_nil
 refine hK0 _ _ ?_
 clear hK0 K0
 apply wp_ret
 refine bodyPost_ret (results_tmp Tryz.results49 _ _ _) hd ⟨?_,rfl⟩
 simp [Act.put,hs2]

end Go.Proofs.YtbajeckeeekhnaaGreat

namespace Go.Proofs.YtbajeckeeekhnaaGreat
open Go.RowKit
set_option linter.unusedVariables false

def opB (op:Int):Bool:=decide (1≤op∧op≤98)

def nameOf (op:Int):ByteArray:=if opB op then (rowAt (op - 1).toNat).name else ⟨#[]⟩

def formOf (op:Int):ByteArray:=if opB op then (rowAt (op - 1).toNat).fm.str else ⟨#[]⟩

theorem results_row2 {P:Program} {fn:Func} {p u:Tmp} {ty:TypeId} (h:fn.results=#[.cell p ty,.tmp u]) (tmps:Array Value) (w:World) (g:Nat) (t:TypeId) (cs:Array Value) (fr:Nat × Nat) (d:TypeDesc)
 (hp:tmps.getD p undef=.pointer (some ⟨g,0,none⟩)) (hg:w.heap[g]?=some (.cells cs t fr))
 (hu:P.underlying ty=some d) (hd:(match d with | .struct _ | .array _ _=>true | _=>false)=true) (hi:(P.info? ty).map (·.size)=some cs.size) :
 (results fn tmps).run P w=.ok (.tuple #[.agg cs,tmps.getD u undef]) w:=by
 rw [results_cell_tmp h,hp]
 simp [asAddr,run_loadVar_row w g t ty cs fr d hg hu hd hi]

theorem l1In_any (x a b:Int) (w:World):Calls Tryz.prog 27 #[.int .i64 x,.int .i64 a,.int .i64 b] w fun e w'=>e=.returned (.bool (decide (a≤x∧x≤b)))∧w'=w:=by
 by_cases h1:a≤x
 ·by_cases h2:x≤b
  ·have F:Hid (decide (a≤x∧x≤b)=true):=by show decide (a≤x∧x≤b)=true;simp [h1,h2]
   have d1:decide (a≤x)=true:=by simpa using h1
   have d2:decide (x≤b)=true:=by simpa using h2
   clear h1 h2
   go_enter Tryz.func27,Tryz.ntmps27
   go_wp2
   go_ret
   exact ⟨by rw [F.out];rfl,rfl⟩
  ·have F:Hid (decide (a≤x∧x≤b)=false):=by show decide (a≤x∧x≤b)=false;simp [h2]
   have d1:decide (a≤x)=true:=by simpa using h1
   have d2:decide (x≤b)=false:=by simpa using h2
   clear h1 h2
   go_enter Tryz.func27,Tryz.ntmps27
   go_wp2
   go_ret
   exact ⟨by rw [F.out];rfl,rfl⟩
 ·have F:Hid (decide (a≤x∧x≤b)=false):=by show decide (a≤x∧x≤b)=false;simp [h1]
  have d1:decide (a≤x)=false:=by simpa using h1
  clear h1
  go_enter Tryz.func27,Tryz.ntmps27
  go_wp2
  go_ret
  exact ⟨by rw [F.out];rfl,rfl⟩

def TabS (w:World) (g:Nat):Prop:=g < w.heap.size∧∀ k,k < 98→∀ r,r=rowAt k→w.cell? ⟨g,k*5,none⟩=some (.string r.name)∧w.cell? ⟨g,k*5+1,none⟩=some (.string r.fm.str) ∧
 w.cell? ⟨g,k*5+2,none⟩=some (.int .u64 r.op)∧w.cell? ⟨g,k*5+3,none⟩=some (.int .i64 r.f3)∧w.cell? ⟨g,k*5+4,none⟩=some (.int .u64 r.more)

theorem TabS.below {w w':World} {g:Nat} (h:TabS w g) {B:Nat} (hg:g < B) (hb:Below B w w'):TabS w' g:=by
 refine ⟨Nat.lt_of_lt_of_le h.1 hb.size,fun k hk r hr=>?_⟩
 have H:=h.2 k hk r hr
 have e:∀ o,w'.cell? ⟨g,o,none⟩=w.cell? ⟨g,o,none⟩:=fun o=>hb.cell (p:=⟨g,o,none⟩) hg
 rw [e,e,e,e,e];exact H

theorem l2Rows_T (w:World):Calls Tryz.prog 49 #[] w fun e w'=>e=.returned (.slice (some ⟨w.heap.size,0,none⟩) 98 98)∧Hid (TabS w' w.heap.size)∧Below w.heap.size w w' :=
 (l2Rows_any w).mono fun e w' h=>by
  obtain ⟨h1,rfl⟩:=h
  refine ⟨h1,?_,(Below.refl _ _).alloc (Nat.le_refl _) _⟩
  show TabS _ _
  refine ⟨by simp,fun k hk r hr=>?_⟩
  subst hr
  have hg:(w.alloc (.cells cellsS 87)).heap[w.heap.size]?=some (.cells cellsS 87 (0,0)):=heap_alloc_new _ _
  have e:∀ j,j < 5→(w.alloc (.cells cellsS 87)).cell? ⟨w.heap.size,k*5+j,none⟩=(rowAt k).cellsS[j]?:=by
   intro j hj
   rw [cell_of_row _ _ _ _ _ _ hg]
   exact cellsS_at k hk j hj
  exact ⟨e 0 (by decide),e 1 (by decide),e 2 (by decide),e 3 (by decide),e 4 (by decide)⟩

set_option maxHeartbeats 400000 in
theorem specName_any (op:Int) (hw:(Lit.int .i64 op).wf=true) (w:World):Calls Tryz.prog 86 #[.int .i64 op] w fun e w'=>e=.returned (.string (nameOf op))∧Below w.heap.size w w':=by
 cases h:opB op with
 | false =>
   have F:Hid (opB op=false):=h
   have F2:decide (1≤op∧op≤98)=false:=h
   clear h
   go_enter Tryz.func86,Tryz.ntmps86
   go_wp2_with fail
   refine (l1In_any op 1 98 _).mono ?_
   rintro e w1 ⟨rfl,rfl⟩
   rw [F2]
   clear F2
   go_wp2_with fail
   go_ret
   exact ⟨by simp [nameOf,F.out],Below.refl _ _⟩
 | true =>
   have F2:decide (1≤op∧op≤98)=true:=h
   have F3:1≤op∧op≤98:=of_decide_eq_true F2
   obtain ⟨k,hk⟩:∃ k:Nat,op=(k:Int)+1:=⟨(op - 1).toNat,by omega⟩
   have hk2:k < 98:=by omega
   subst hk
   have F:Hid (opB ((k:Int)+1)=true):=h
   clear h F3
   go_enter Tryz.func86,Tryz.ntmps86
   go_wp2_with fail
   refine (l1In_any _ 1 98 _).mono ?_
   rintro e w1 ⟨rfl,hw'⟩
   have hw2:=hw'.symm
   subst hw2
   rw [F2]
   clear F2 hw'
   go_wp2_with fail
   refine (l2Rows_T _).mono ?_
   rintro e w2 ⟨rfl,hT,hb⟩
   obtain ⟨r,hr0⟩:∃ r,r=rowAt k:=⟨_,rfl⟩
   have hr:Hid (r=rowAt k):=hr0
   clear hr0
   obtain ⟨c0,c1,c2,c3,c4⟩:=hT.out.2 k hk2 r hr.out
   go_wp2_with fail
   go_ret
   exact ⟨by simp [nameOf,F.out,hr.out],hb⟩

set_option maxHeartbeats 400000 in
theorem specForm_any (op:Int) (hw:(Lit.int .i64 op).wf=true) (w:World):Calls Tryz.prog 52 #[.int .i64 op] w fun e w'=>e=.returned (.string (formOf op))∧Below w.heap.size w w':=by
 cases h:opB op with
 | false =>
   have F:Hid (opB op=false):=h
   have F2:decide (1≤op∧op≤98)=false:=h
   clear h
   go_enter Tryz.func52,Tryz.ntmps52
   go_wp2_with fail
   refine (l1In_any op 1 98 _).mono ?_
   rintro e w1 ⟨rfl,rfl⟩
   rw [F2]
   clear F2
   go_wp2_with fail
   go_ret
   exact ⟨by simp [formOf,F.out],Below.refl _ _⟩
 | true =>
   have F2:decide (1≤op∧op≤98)=true:=h
   have F3:1≤op∧op≤98:=of_decide_eq_true F2
   obtain ⟨k,hk⟩:∃ k:Nat,op=(k:Int)+1:=⟨(op - 1).toNat,by omega⟩
   have hk2:k < 98:=by omega
   subst hk
   have F:Hid (opB ((k:Int)+1)=true):=h
   clear h F3
   go_enter Tryz.func52,Tryz.ntmps52
   go_wp2_with fail
   refine (l1In_any _ 1 98 _).mono ?_
   rintro e w1 ⟨rfl,hw'⟩
   have hw2:=hw'.symm
   subst hw2
   rw [F2]
   clear F2 hw'
   go_wp2_with fail
   refine (l2Rows_T _).mono ?_
   rintro e w2 ⟨rfl,hT,hb⟩
   obtain ⟨r,hr0⟩:∃ r,r=rowAt k:=⟨_,rfl⟩
   have hr:Hid (r=rowAt k):=hr0
   clear hr0
   obtain ⟨c0,c1,c2,c3,c4⟩:=hT.out.2 k hk2 r hr.out
   go_wp2_with fail
   go_ret
   exact ⟨by simp [formOf,F.out,hr.out],hb⟩

def Fm.hasRd:Fm→Bool
 | .r=>true | .i=>true | .h=>true | .w=>true | .s=>false | .b=>false | .u=>true | .j=>true | .a=>true | .c=>true | .x=>false

def Fm.hasA:Fm→Bool
 | .r=>true | .i=>true | .h=>true | .w=>true | .s=>true | .b=>true | .u=>false | .j=>false | .a=>true | .c=>true | .x=>false

def Fm.hasB:Fm→Bool
 | .r=>true | .i=>false | .h=>false | .w=>false | .s=>true | .b=>true | .u=>false | .j=>false | .a=>true | .c=>false | .x=>false

def Fm.width:Fm→Nat
 | .r=>64 | .i=>12 | .h=>64 | .w=>64 | .s=>12 | .b=>13 | .u=>32 | .j=>21 | .a=>64 | .c=>64 | .x=>64

structure Ins where
 op:Int
 rd:Int
 a:Int
 b:Int
 imm:Int
deriving DecidableEq

def Ins.val (i:Ins):Value:=.agg #[.int .i64 i.op,.int .i64 i.rd,.int .i64 i.a,.int .i64 i.b,.int .i64 i.imm]

def fld (x:Int) (k n:Nat):Int:=x / 2 ^ k % 2 ^ n

theorem fld_bd (x:Int) (k n:Nat):0≤fld x k n∧fld x k n < 2 ^ n:=by
 have hp:(0:Int) < 2 ^ n:=Int.pow_pos (by omega)
 exact ⟨Int.emod_nonneg _ (by omega),Int.emod_lt_of_pos _ hp⟩

theorem pow_le (m n:Nat) (h:m≤n):(2:Int) ^ m≤2 ^ n:=by
 obtain ⟨d,rfl⟩:=Nat.exists_eq_add_of_le h
 rw [Int.pow_add]
 have h1:(0:Int) < 2 ^ m:=Int.pow_pos (by omega)
 have h2:(0:Int) < 2 ^ d:=Int.pow_pos (by omega)
 have h3:(2:Int) ^ m*1≤2 ^ m*2 ^ d:=Int.mul_le_mul_of_nonneg_left (by omega) (by omega)
 omega

theorem bitsAt_eq (x:Int) (k n:Nat) (h0:0≤x) (h1:x < 18446744073709551616) (hn:n < 64) :
 bits .and .u64 (x / 2 ^ k) (IntKind.u64.wrap (IntKind.u64.wrap (2 ^ n) - 1))=fld x k n:=by
 have hp:(0:Int) < 2 ^ n:=Int.pow_pos (by omega)
 have hk:(0:Int) < 2 ^ k:=Int.pow_pos (by omega)
 have hb:(2:Int) ^ n≤2 ^ 63:=pow_le n 63 (by omega)
 have e63:(2:Int) ^ 63=9223372036854775808:=by decide
 have e1:IntKind.u64.wrap (2 ^ n)=2 ^ n:=by rw [IntKind.wrap_u64];omega
 have e2:IntKind.u64.wrap (2 ^ n - 1)=2 ^ n - 1:=by rw [IntKind.wrap_u64];omega
 have d0:0≤x / 2 ^ k:=Int.ediv_nonneg h0 (by omega)
 have d1:x / 2 ^ k≤x:=Int.ediv_le_self _ h0
 rw [e1,e2,u64_and _ _ d0 (by omega) (by omega) (by omega)]
 have e3:(2 ^ n - 1:Int).toNat=2 ^ n - 1:=by
  have:(2:Int) ^ n=((2 ^ n:Nat):Int):=by simp
  rw [this];omega
 rw [e3,Nat.and_two_pow_sub_one_eq_mod]
 unfold fld
 have e4:((x / 2 ^ k).toNat:Int)=x / 2 ^ k:=Int.toNat_of_nonneg d0
 rw [Int.natCast_emod,e4]
 simp

theorem or_field (a x k m:Nat) (h:a / 2 ^ k % 2 ^ m=0) (hx:x < 2 ^ m):a ||| x*2 ^ k=a+x*2 ^ k:=by
 have hk:0 < 2 ^ k:=Nat.two_pow_pos k
 have hm:0 < 2 ^ m:=Nat.two_pow_pos m
 have e1:a=a / 2 ^ k / 2 ^ m*2 ^ (k+m)+a % 2 ^ k:=by
  have h1:=Nat.div_add_mod a (2 ^ k)
  have h2:=Nat.div_add_mod (a / 2 ^ k) (2 ^ m)
  rw [h,Nat.add_zero] at h2
  rw [← h2] at h1
  rw [Nat.pow_add,← Nat.mul_assoc,Nat.mul_right_comm,Nat.mul_comm _ (2 ^ k),Nat.mul_comm _ (2 ^ m)] 
  omega
 have hlo:a % 2 ^ k < 2 ^ k:=Nat.mod_lt _ hk
 have j1:a / 2 ^ k / 2 ^ m*2 ^ (k+m) ||| a % 2 ^ k=a / 2 ^ k / 2 ^ m*2 ^ (k+m)+a % 2 ^ k:=by
  refine nat_join k _ _ ?_ hlo
  rw [Nat.pow_add,Nat.mul_comm (2 ^ k),← Nat.mul_assoc];exact Nat.mul_mod_left _ _
 have j2:x*2 ^ k ||| a % 2 ^ k=x*2 ^ k+a % 2 ^ k:=nat_join k _ _ (Nat.mul_mod_left _ _) hlo
 have hsm:x*2 ^ k+a % 2 ^ k < 2 ^ (k+m):=by
  rw [Nat.pow_add,Nat.mul_comm (2 ^ k)]
  have:(x+1)*2 ^ k≤2 ^ m*2 ^ k:=Nat.mul_le_mul_right _ hx
  rw [Nat.add_mul] at this
  omega
 have j3:a / 2 ^ k / 2 ^ m*2 ^ (k+m) ||| (x*2 ^ k+a % 2 ^ k)=a / 2 ^ k / 2 ^ m*2 ^ (k+m)+(x*2 ^ k+a % 2 ^ k):=nat_join (k+m) _ _ (Nat.mul_mod_left _ _) hsm
 have e2:a ||| x*2 ^ k=a / 2 ^ k / 2 ^ m*2 ^ (k+m) ||| (x*2 ^ k ||| a % 2 ^ k):=by
  conv=>lhs;rw [e1,← j1]
  rw [Nat.or_assoc,Nat.or_comm (a % 2 ^ k)]
 rw [e2,j2,j3]
 omega

def matchP (i:Nat) (f:Fm) (o z m x:Int):Prop:=x % 128=o∧(0≤z→x / 4096 % 8=z) ∧
 (match f with
 | .r=>x / 33554432=m∧(i=97→x / 128 % 32=0)
 | .h=>x / 67108864=m
 | .w=>x / 33554432=m
 | .a=>x / 134217728=m∧(i=62∨i=73→x / 1048576 % 32=0)
 | .x=>x=m*1048576+o
 | _=>True)

instance (i:Nat) (f:Fm) (o z m x:Int):Decidable (matchP i f o z m x):=by
 unfold matchP;cases f<;>infer_instance

theorem and_low (x:Int) (k:Nat) (h0:0≤x) (h1:x < 18446744073709551616) (hk:k < 64):bits .and .u64 x (2 ^ k - 1)=x % 2 ^ k:=by
 have h:=bitsAt_eq x 0 k h0 h1 hk
 have hp:(0:Int) < 2 ^ k:=Int.pow_pos (by omega)
 have hb:(2:Int) ^ k≤2 ^ 63:=pow_le k 63 (by omega)
 have e63:(2:Int) ^ 63=9223372036854775808:=by decide
 have e1:IntKind.u64.wrap (2 ^ k)=2 ^ k:=by rw [IntKind.wrap_u64];omega
 have e2:IntKind.u64.wrap (2 ^ k - 1)=2 ^ k - 1:=by rw [IntKind.wrap_u64];omega
 rw [e1,e2] at h
 simpa [fld] using h

def widen (n:Nat) (x:Int):Int:=IntKind.u64.wrap (RowKit.wrap64 (IntKind.u64.wrap (x*2 ^ (64 - n))) / 2 ^ (64 - n))

def immU (f:Fm) (x:Int):Int :=
 match f with
 | .i=>x / 1048576
 | .h=>x / 1048576 % 64
 | .w=>x / 1048576 % 32
 | .s=>x / 33554432*32+x / 128 % 32
 | .b=>x / 2147483648*4096+x / 128 % 2*2048+x / 33554432 % 64*32+x / 256 % 16*2
 | .u=>x / 4096*4096
 | .j=>x / 2147483648*1048576+x / 4096 % 256*4096+x / 1048576 % 2*2048+x / 2097152 % 1024*2
 | .a=>x / 33554432 % 4
 | .c=>x / 1048576
 | .r=>0
 | .x=>0

def immV (f:Fm) (x:Int):Int:=RowKit.wrap64 (widen f.width (immU f x))

theorem widen64 (u:Int) (h0:0≤u) (h1:u < 9223372036854775808):RowKit.wrap64 (widen 64 u)=u:=by
 have e:(2:Int) ^ (64 - 64)=1:=by decide
 unfold widen
 rw [e,IntKind.wrap_u64,IntKind.wrap_u64]
 unfold RowKit.wrap64
 omega

theorem or64 (a x:Int) (k m:Nat) (h0:0≤a) (h1:a < 18446744073709551616) (hx:0≤x) (hx2:x < 2 ^ m) (hkm:k+m≤64) (h:a / 2 ^ k % 2 ^ m=0):bits .or .u64 a (x*2 ^ k)=a+x*2 ^ k:=by
 obtain ⟨A,rfl⟩:=Int.eq_ofNat_of_zero_le h0
 obtain ⟨X,rfl⟩:=Int.eq_ofNat_of_zero_le hx
 have hX:X < 2 ^ m:=by
  have:((X:Nat):Int) < ((2 ^ m:Nat):Int):=by simpa using hx2
  omega
 have hA:A / 2 ^ k % 2 ^ m=0:=by
  have:(((A / 2 ^ k % 2 ^ m:Nat)):Int)=0:=by simpa using h
  omega
 have e:((X:Int)*2 ^ k)=((X*2 ^ k:Nat):Int):=by simp
 have hb:X*2 ^ k < 18446744073709551616:=by
  have h2:X*2 ^ k < 2 ^ m*2 ^ k:=Nat.mul_lt_mul_of_pos_right hX (Nat.two_pow_pos k)
  rw [← Nat.pow_add] at h2
  have h3:2 ^ (m+k)≤2 ^ 64:=Nat.pow_le_pow_right (by omega) (by omega)
  have e64:2 ^ 64=18446744073709551616:=by decide
  omega
 rw [e,u64_or_nat A (X*2 ^ k) (by omega) hb,or_field A X k m hA hX]
 simp

end Go.Proofs.YtbajeckeeekhnaaGreat

namespace Go.Proofs.YtbajeckeeekhnaaGreat
open Go.RowKit
set_option linter.unusedVariables false

def bitAt (x:Int) (i:Nat):Int:=bits .and .u64 (x / 2 ^ i) 1

def toldV (k:Int) (intr:Bool):Int:=match intr with | true=>bits .or .u64 k 9223372036854775808 | false=>k

def delegB (l:List Int) (p:Int) (k:Nat) (intr:Bool):Bool:=!(p==3)&&(bitAt (match intr with | true=>l.getD 2 0 | false=>l.getD 1 0) k==1)

def statS (s:Int) (p1:Bool):Int:=match p1 with
 | true=>bits .or .u64 (bits .or .u64 (bits .andNot .u64 s 290) (IntKind.u64.wrap (bitAt s 1*32))) 256
 | false=>bits .or .u64 (bits .andNot .u64 s 290) (IntKind.u64.wrap (bitAt s 1*32))

def statM (s p:Int):Int:=bits .or .u64 (bits .or .u64 (bits .andNot .u64 s 6280) (IntKind.u64.wrap (bitAt s 3*128))) (IntKind.u64.wrap (p*2048))

def enterL (l:List Int) (d:Bool) (p t pc v:Int):List Int:=match d with
 | true=>(((l.set 13 t).set 12 (bits .andNot .u64 pc 3)).set 14 v).set 0 (statS (l.getD 0 0) (p==1))
 | false=>(((l.set 7 t).set 6 (bits .andNot .u64 pc 3)).set 8 v).set 0 (statM (l.getD 0 0) p)

def vecV (l:List Int) (d:Bool):Int:=match d with | true=>l.getD 10 0 | false=>l.getD 4 0

def enterAt (to k:Int) (jump:Bool):Int:=match jump with
 | true=>IntKind.u64.wrap (bits .andNot .u64 to 1+IntKind.u64.wrap (4*k))
 | false=>bits .andNot .u64 to 1

def nextV (d:Bool):Int:=match d with | true=>1 | false=>3

structure Fd where
 addr:Int
 code:Int
 marked:Bool
 at_:Int
 entry:Int

def Fd.cells (f:Fd):Array Value:=#[.int .u64 f.addr,.int .i64 f.code,.bool f.marked,.int .u64 f.at_,.int .u64 f.entry]

def pageC (k:Int):Int:=if k=1 then 12 else if k=2 then 13 else 15

def faultC (k:Int):Int:=if k=1 then 1 else if k=2 then 5 else 7

def pageF (k:Int):Fd:=⟨0,pageC k,false,0,0⟩

def faultF (k:Int):Fd:=⟨0,faultC k,false,0,0⟩

def pteAt (T va:Int) (lv:Nat):Int:=IntKind.u64.wrap (T+IntKind.u64.wrap (8*bits .and .u64 (va / 2 ^ (12+9*lv)) 511))

def pteV (zs:List Int) (x:Int):Int:=le zs (x - 2147483648).toNat 8

def badB (e:Int):Bool:=(bits .and .u64 e 1==0)||((bitAt e 1==0)&&(bitAt e 2==1))||(e / 18014398509481984 != 0)

def frameV (e:Int):Int:=bits .and .u64 (e / 1024) 17592186044415

def ptrB (e:Int):Bool:=(bitAt e 1==0)&&(bitAt e 3==0)

def stopB (e:Int) (lv:Nat):Bool:=((lv:Int)==0)||(bits .and .u64 (e / 16) 1==1)||(bits .and .u64 (e / 64) 3 != 0)

def lowM (m:Nat):Int:=IntKind.u64.wrap (IntKind.u64.wrap (2 ^ m) - 1)

def offB (e:Int) (lv:Nat):Bool:=bits .and .u64 (frameV e) (lowM (9*lv)) != 0

def noKind (l:List Int) (kind e:Int):Bool :=
 ((kind==1)&&(bitAt e 3==0))||((kind==2)&&(bitAt e 1==0)&&((bitAt e 3==0)||(bitAt (l.getD 0 0) 19==0)))||((kind==3)&&(bitAt e 2==0))

def noPriv (l:List Int) (p kind e:Int):Bool :=
 ((p==0)&&(bitAt e 4==0))||((p==1)&&(bitAt e 4==1)&&((kind==1)||(bitAt (l.getD 0 0) 18==0)))

def leadV (e va:Int) (lv:Nat):Int:=bits .or .u64 (bits .andNot .u64 (IntKind.u64.wrap (frameV e*4096)) (lowM (12+9*lv))) (bits .and .u64 va (lowM (12+9*lv)))

def wantV (e kind:Int):Int:=if (kind==3)=true then bits .or .u64 (bits .or .u64 e 64) 128 else bits .or .u64 e 64

def leafV (l:List Int) (p va kind e x:Int) (lv:Nat):Fd :=
 if offB e lv=true then pageF kind else if noKind l kind e=true then pageF kind else if noPriv l p kind e=true then pageF kind
 else if (wantV e kind != e)=true then (if permRest l 1 x (lastOf x 8) 3 4 0=true then ⟨leadV e va lv,0,true,x,wantV e kind⟩ else faultF kind) else ⟨leadV e va lv,0,false,0,0⟩

def walkL (zs:List Int) (n:Nat) (l:List Int) (p va kind:Int):Nat→Int→Fd
 | 0,T=>if okB n (pteAt T va 0) 8=true then (if permRest l 1 (pteAt T va 0) (lastOf (pteAt T va 0) 8) 2 4 0=true then
  (if badB (pteV zs (pteAt T va 0))=true then pageF kind else if ptrB (pteV zs (pteAt T va 0))=true then pageF kind else leafV l p va kind (pteV zs (pteAt T va 0)) (pteAt T va 0) 0) else faultF kind) else faultF kind
 | lv+1,T=>if okB n (pteAt T va (lv+1)) 8=true then (if permRest l 1 (pteAt T va (lv+1)) (lastOf (pteAt T va (lv+1)) 8) 2 4 0=true then
  (if badB (pteV zs (pteAt T va (lv+1)))=true then pageF kind else if ptrB (pteV zs (pteAt T va (lv+1)))=true then (if stopB (pteV zs (pteAt T va (lv+1))) (lv+1)=true then pageF kind else walkL zs n l p va kind lv (IntKind.u64.wrap (frameV (pteV zs (pteAt T va (lv+1)))*4096))) else leafV l p va kind (pteV zs (pteAt T va (lv+1))) (pteAt T va (lv+1)) (lv+1)) else faultF kind) else faultF kind

def topT (l:List Int):Int:=IntKind.u64.wrap (bits .and .u64 (l.getD 15 0) 17592186044415*4096)

def walkV (zs:List Int) (n:Nat) (l:List Int) (p va kind:Int):Fd :=
 if ((p==3)||(l.getD 15 0 / 1152921504606846976==0))=true then ⟨va,0,false,0,0⟩ else if (widen 39 va != va)=true then pageF kind else walkL zs n l p va kind 2 (topT l)

theorem walkL_step (zs:List Int) (n:Nat) (l:List Int) (p va kind:Int) (lv:Nat) (T:Int):walkL zs n l p va kind lv T =
 (if okB n (pteAt T va lv) 8=true then (if permRest l 1 (pteAt T va lv) (lastOf (pteAt T va lv) 8) 2 4 0=true then
  (if badB (pteV zs (pteAt T va lv))=true then pageF kind else if ptrB (pteV zs (pteAt T va lv))=true then (if stopB (pteV zs (pteAt T va lv)) lv=true then pageF kind else walkL zs n l p va kind (lv - 1) (IntKind.u64.wrap (frameV (pteV zs (pteAt T va lv))*4096))) else leafV l p va kind (pteV zs (pteAt T va lv)) (pteAt T va lv) lv) else faultF kind) else faultF kind):=by
 cases lv with
 | zero =>
   rw [walkL]
   have:stopB (pteV zs (pteAt T va 0)) 0=true:=rfl
   rw [this,if_pos rfl]
 | succ lv=>rw [walkL];rfl

end Go.Proofs.YtbajeckeeekhnaaGreat
