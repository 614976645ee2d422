/- Own lemmas. -/
import Derived.Test.YtjifdmoehfbihaaGreatDoorAut
import Derived.Test.YtjifdmoehfbihaaGreatDoorK02
import Derived.Great.BuildSlice
import Derived.Lib.Mul64
set_option maxRecDepth 100000
set_option maxHeartbeats 4000000
namespace Go.Proofs.YtjifdmoehfbihaaGreatDoor
set_option linter.unusedVariables false
inductive Fm where | r | i | h | w | s | b | u | j | a | c | x
deriving DecidableEq
def Fm.str:Fm->ByteArray
 | .r=>⟨#[82]⟩ | .i=>⟨#[73]⟩ | .h=>⟨#[72]⟩ | .w=>⟨#[87]⟩ | .s=>⟨#[83]⟩ | .b=>⟨#[66]⟩ | .u=>⟨#[85]⟩ | .j=>⟨#[74]⟩ | .a=>⟨#[65]⟩ | .c=>⟨#[67]⟩ | .x=>⟨#[88]⟩
structure Row where
 name:ByteArray
 fm:Fm
 op:Int
 f3:Int
 more:Int
def rows:List Row:=[
 ⟨⟨#[108,117,105]⟩,.u,55,(-1),0⟩,
 ⟨⟨#[97,117,105,112,99]⟩,.u,23,(-1),0⟩,
 ⟨⟨#[106,97,108]⟩,.j,111,(-1),0⟩,
 ⟨⟨#[106,97,108,114]⟩,.i,103,0,0⟩,
 ⟨⟨#[98,101,113]⟩,.b,99,0,0⟩,
 ⟨⟨#[98,110,101]⟩,.b,99,1,0⟩,
 ⟨⟨#[98,108,116]⟩,.b,99,4,0⟩,
 ⟨⟨#[98,103,101]⟩,.b,99,5,0⟩,
 ⟨⟨#[98,108,116,117]⟩,.b,99,6,0⟩,
 ⟨⟨#[98,103,101,117]⟩,.b,99,7,0⟩,
 ⟨⟨#[108,98]⟩,.i,3,0,0⟩,
 ⟨⟨#[108,104]⟩,.i,3,1,0⟩,
 ⟨⟨#[108,119]⟩,.i,3,2,0⟩,
 ⟨⟨#[108,100]⟩,.i,3,3,0⟩,
 ⟨⟨#[108,98,117]⟩,.i,3,4,0⟩,
 ⟨⟨#[108,104,117]⟩,.i,3,5,0⟩,
 ⟨⟨#[108,119,117]⟩,.i,3,6,0⟩,
 ⟨⟨#[115,98]⟩,.s,35,0,0⟩,
 ⟨⟨#[115,104]⟩,.s,35,1,0⟩,
 ⟨⟨#[115,119]⟩,.s,35,2,0⟩,
 ⟨⟨#[115,100]⟩,.s,35,3,0⟩,
 ⟨⟨#[97,100,100,105]⟩,.i,19,0,0⟩,
 ⟨⟨#[115,108,116,105]⟩,.i,19,2,0⟩,
 ⟨⟨#[115,108,116,105,117]⟩,.i,19,3,0⟩,
 ⟨⟨#[120,111,114,105]⟩,.i,19,4,0⟩,
 ⟨⟨#[111,114,105]⟩,.i,19,6,0⟩,
 ⟨⟨#[97,110,100,105]⟩,.i,19,7,0⟩,
 ⟨⟨#[115,108,108,105]⟩,.h,19,1,0⟩,
 ⟨⟨#[115,114,108,105]⟩,.h,19,5,0⟩,
 ⟨⟨#[115,114,97,105]⟩,.h,19,5,16⟩,
 ⟨⟨#[97,100,100,105,119]⟩,.i,27,0,0⟩,
 ⟨⟨#[115,108,108,105,119]⟩,.w,27,1,0⟩,
 ⟨⟨#[115,114,108,105,119]⟩,.w,27,5,0⟩,
 ⟨⟨#[115,114,97,105,119]⟩,.w,27,5,32⟩,
 ⟨⟨#[97,100,100]⟩,.r,51,0,0⟩,
 ⟨⟨#[115,117,98]⟩,.r,51,0,32⟩,
 ⟨⟨#[115,108,108]⟩,.r,51,1,0⟩,
 ⟨⟨#[115,108,116]⟩,.r,51,2,0⟩,
 ⟨⟨#[115,108,116,117]⟩,.r,51,3,0⟩,
 ⟨⟨#[120,111,114]⟩,.r,51,4,0⟩,
 ⟨⟨#[115,114,108]⟩,.r,51,5,0⟩,
 ⟨⟨#[115,114,97]⟩,.r,51,5,32⟩,
 ⟨⟨#[111,114]⟩,.r,51,6,0⟩,
 ⟨⟨#[97,110,100]⟩,.r,51,7,0⟩,
 ⟨⟨#[97,100,100,119]⟩,.r,59,0,0⟩,
 ⟨⟨#[115,117,98,119]⟩,.r,59,0,32⟩,
 ⟨⟨#[115,108,108,119]⟩,.r,59,1,0⟩,
 ⟨⟨#[115,114,108,119]⟩,.r,59,5,0⟩,
 ⟨⟨#[115,114,97,119]⟩,.r,59,5,32⟩,
 ⟨⟨#[109,117,108]⟩,.r,51,0,1⟩,
 ⟨⟨#[109,117,108,104]⟩,.r,51,1,1⟩,
 ⟨⟨#[109,117,108,104,115,117]⟩,.r,51,2,1⟩,
 ⟨⟨#[109,117,108,104,117]⟩,.r,51,3,1⟩,
 ⟨⟨#[100,105,118]⟩,.r,51,4,1⟩,
 ⟨⟨#[100,105,118,117]⟩,.r,51,5,1⟩,
 ⟨⟨#[114,101,109]⟩,.r,51,6,1⟩,
 ⟨⟨#[114,101,109,117]⟩,.r,51,7,1⟩,
 ⟨⟨#[109,117,108,119]⟩,.r,59,0,1⟩,
 ⟨⟨#[100,105,118,119]⟩,.r,59,4,1⟩,
 ⟨⟨#[100,105,118,117,119]⟩,.r,59,5,1⟩,
 ⟨⟨#[114,101,109,119]⟩,.r,59,6,1⟩,
 ⟨⟨#[114,101,109,117,119]⟩,.r,59,7,1⟩,
 ⟨⟨#[108,114,46,119]⟩,.a,47,2,2⟩,
 ⟨⟨#[115,99,46,119]⟩,.a,47,2,3⟩,
 ⟨⟨#[97,109,111,115,119,97,112,46,119]⟩,.a,47,2,1⟩,
 ⟨⟨#[97,109,111,97,100,100,46,119]⟩,.a,47,2,0⟩,
 ⟨⟨#[97,109,111,120,111,114,46,119]⟩,.a,47,2,4⟩,
 ⟨⟨#[97,109,111,97,110,100,46,119]⟩,.a,47,2,12⟩,
 ⟨⟨#[97,109,111,111,114,46,119]⟩,.a,47,2,8⟩,
 ⟨⟨#[97,109,111,109,105,110,46,119]⟩,.a,47,2,16⟩,
 ⟨⟨#[97,109,111,109,97,120,46,119]⟩,.a,47,2,20⟩,
 ⟨⟨#[97,109,111,109,105,110,117,46,119]⟩,.a,47,2,24⟩,
 ⟨⟨#[97,109,111,109,97,120,117,46,119]⟩,.a,47,2,28⟩,
 ⟨⟨#[108,114,46,100]⟩,.a,47,3,2⟩,
 ⟨⟨#[115,99,46,100]⟩,.a,47,3,3⟩,
 ⟨⟨#[97,109,111,115,119,97,112,46,100]⟩,.a,47,3,1⟩,
 ⟨⟨#[97,109,111,97,100,100,46,100]⟩,.a,47,3,0⟩,
 ⟨⟨#[97,109,111,120,111,114,46,100]⟩,.a,47,3,4⟩,
 ⟨⟨#[97,109,111,97,110,100,46,100]⟩,.a,47,3,12⟩,
 ⟨⟨#[97,109,111,111,114,46,100]⟩,.a,47,3,8⟩,
 ⟨⟨#[97,109,111,109,105,110,46,100]⟩,.a,47,3,16⟩,
 ⟨⟨#[97,109,111,109,97,120,46,100]⟩,.a,47,3,20⟩,
 ⟨⟨#[97,109,111,109,105,110,117,46,100]⟩,.a,47,3,24⟩,
 ⟨⟨#[97,109,111,109,97,120,117,46,100]⟩,.a,47,3,28⟩,
 ⟨⟨#[102,101,110,99,101]⟩,.i,15,0,0⟩,
 ⟨⟨#[102,101,110,99,101,46,105]⟩,.i,15,1,0⟩,
 ⟨⟨#[99,115,114,114,119]⟩,.c,115,1,0⟩,
 ⟨⟨#[99,115,114,114,115]⟩,.c,115,2,0⟩,
 ⟨⟨#[99,115,114,114,99]⟩,.c,115,3,0⟩,
 ⟨⟨#[99,115,114,114,119,105]⟩,.c,115,5,0⟩,
 ⟨⟨#[99,115,114,114,115,105]⟩,.c,115,6,0⟩,
 ⟨⟨#[99,115,114,114,99,105]⟩,.c,115,7,0⟩,
 ⟨⟨#[101,99,97,108,108]⟩,.x,115,0,0⟩,
 ⟨⟨#[101,98,114,101,97,107]⟩,.x,115,0,1⟩,
 ⟨⟨#[115,114,101,116]⟩,.x,115,0,258⟩,
 ⟨⟨#[109,114,101,116]⟩,.x,115,0,770⟩,
 ⟨⟨#[119,102,105]⟩,.x,115,0,261⟩,
 ⟨⟨#[115,102,101,110,99,101,46,118,109,97]⟩,.r,115,0,9⟩]
def Row.f3z (r:Row):Int:=if r.f3<0 then 0 else r.f3
def Row.cellsI (r:Row):List Value:=[.string r.name,.string r.fm.str,.u r.op,.u r.f3z,.u r.more]
def Row.cellsS (r:Row):List Value:=[.string r.name,.string r.fm.str,.u r.op,.i r.f3,.u r.more]
def hH:Array Value:=(rows.flatMap Row.cellsI).toArray
def cellsS:Array Value:=(rows.flatMap Row.cellsS).toArray
theorem pi:rows.length=98:=by rfl
theorem qo {α g:Type} (f:α->List g) (m:Nat):∀ (l:List α),(∀ x ∈ l,(f x).length=m)->∀ k (h:k<l.length),((l.flatMap f).drop (k*m)).take m=f l[k]:=by
 intro l;induction l with
 | nil=>intro _ k h;simp at h
 | cons x l d =>
   intro a k h;have b:(f x).length=m:=a x bc;cases k with
   | zero=>simp [<- b]
   | succ k =>have e:(k+1)*m=(f x).length+k*m:=(by rw [b,Nat.succ_mul];omega);rw [e,List.flatMap_cons,List.drop_append,List.drop_of_length_le al,Nat.add_sub_cancel_left];exact d (λy c=>a y (by simp [c])) k dn
theorem tl {α b:Type} (f:α->List b) (m:Nat) (l:List α) (hl:∀ x ∈ l,(f x).length=m) (k:Nat) (h:k<l.length) (j:Nat) (a:j<m):(l.flatMap f)[k*m+j]?=(f l[k])[j]?:=by rw [<- qo f m l hl k h];simp [a]
def bN (k:Nat):Row:=rows.getD k ⟨⟨#[]⟩,.x,0,0,0⟩
theorem vS (k:Nat) (h:k<98):rows[k]'(by rw [pi];exact h)=bN k:=by simp [bN,List.getD,List.getElem?_eq_getElem (show k<rows.length by rw [pi];exact h)]
theorem zj (k:Nat) (h:k<98):hH.extract (k*5) (k*5+5)=(bN k).cellsI.toArray:=by have:=qo Row.cellsI 5 rows (by intro x _;rfl) k (by rw [pi];exact h);rw [vS k h] at this;rw [<- this];simp [hH]
theorem ny:hH.size=490:=by kernel_rfl
theorem Fx (k:Nat) (h:k<98) (j:Nat) (a:j<5):cellsS[k*5+j]?=(bN k).cellsS[j]?:=by have:=tl Row.cellsS 5 rows (by intro x _;rfl) k (by rw [pi];exact h) j a;rw [vS k h] at this;rw [<- this];simp [cellsS]
section
variable {P : Program}
def nz (P:Program):List Oper->Act->Option Act
 | [],a=>some a
 | o::l,a =>
   match o.guard,o.op with
   | none,.build t parts =>
     match P.built t (parts.map λ(i,x)=>(i,a.eval x)).toList with
     | some cells=>nz P l (a.put o.dst (.agg cells))
     | none=>none
   | _,_=>none
theorem oA {b:Array Oper} {Q:Exit->Act->World->Prop} {w:World}:∀ (l rest:List Oper) (a c:Act),nz P l a=some c->wpList P b Q rest c w->wpList P b Q (l++rest) a w:=by
 intro l;induction l with
 | nil=>intro rest a c h d;simp [nz] at h;subst h;exact d
 | cons o l i =>
   intro rest a c h d;unfold nz at h;split at h
   ·rename_i t parts f g;split at h;·rename_i cells e;exact wpList_buildTo f t parts g o.dst rfl cells e (i _ _ _ h d)
    ·cases h
   ·cases h
theorem jM {c:Array Oper} {Q:Exit->Act->World->Prop} {w:World} {l:List Oper} {a:Act} (n s t:Nat) (v x:Value) (h:(nz P (l.take n) a).map (λb=>(b.tmps.getD s undef,b.tmps.getD t undef,b.defers))=some (v,x,[])) (hr:∀ b:Act,b.tmps.getD s undef=v->b.tmps.getD t undef=x->b.defers=[]->wpList P c Q (l.drop n) b w):wpList P c Q l a w:=by
 rw [<- List.take_append_drop n l];cases d:nz P (l.take n) a with
 | none=>rw [d] at h;cases h
 | some b =>rw [d] at h;simp only [Option.map_some,Option.some.injEq,Prod.mk.injEq] at h;exact oA _ _ _ _ d (hr b h.1 h.2.1 h.2.2)
end
end Go.Proofs.YtjifdmoehfbihaaGreatDoor
namespace Go.Proofs.YtjifdmoehfbihaaGreatDoor
open Go.RowKit Tryz
set_option linter.unusedVariables false
def zk:Array Value:=(List.replicate 98 [Value.string ⟨#[]⟩,.string ⟨#[]⟩,.u 0,.u 0,.u 0]).flatten.toArray
theorem BX:zk.size=490:=by kernel_rfl
theorem BY:(prog.info? 233).bind (·.zero)=some (.agg zk):=by kernel_rfl
theorem Iq {P:Program} {t:TypeId} {z:Value} (h:(P.info? t).bind (·.zero)=some z) (w:World):(zeroValue t).run P w=.ok z w:=by
 cases a:P.info? t with
 | none=>rw [a] at h;cases h
 | some i=>rw [a] at h;simp at h;simp [zeroValue,typeInfo,a,h]
theorem cy {P:Program} {c:Array Oper} {rest:List Oper} {o:Oper} {a:Act} {w:World} {Q:Exit->Act->World->Prop} (f:o.guard=none) (t:TypeId) (g:o.op=.alloc t) (d:Option Tmp) (hd:o.dst=d) (z:Value) (hz:(P.info? t).bind (·.zero)=some z) (h:wpList P c Q rest (a.put d (.p w.heap.size 0)) (w.alloc (.cells z.cells t))):wpList P c Q (o::rest) a w:=by
 subst hd;refine wpList_plain f λK e=>?_;have b:(execOp a.eval o).run P w=.ok (.value (.p w.heap.size 0)) (w.alloc (.cells z.cells t)):=by simp [execOp,g,Instr.alloc,Sem.run_bind,Iq hz,newVar,newRow]
 unfold Oper.wp;rw [b,Oper.upon_value];exact e _ _ h
theorem mx {P:Program} {c:Array Oper} {rest:List Oper} {o:Oper} {a:Act} {w:World} {Q:Exit->Act->World->Prop} (f:o.guard=none) (d:Option Tmp) (hd:o.dst=d) (v:Value) (b:(execOp a.eval o).run P w=.ok (.value v) w) (h:wpList P c Q rest (a.put d v) w):wpList P c Q (o::rest) a w:=by subst hd;refine wpList_plain f λK e=>?_;unfold Oper.wp;rw [b,Oper.upon_value];exact e _ _ h
theorem aD {B:Nat} {a w:World} (h:Below B a w) {g:Nat} (c:B<=g) (cs:Array Value):Below B a (w.setRow g cs):=
 ⟨h.os,h.tape,h.output,by rw [setRow_size];exact h.size,λk b=>(setRow_other w g k cs al).trans (h.block k b)⟩
theorem BZ:hH.all (·.oneCell')=true:=by kernel_rfl
theorem tq:(prog.info? 233).map (·.size)=some 490:=by kernel_rfl
theorem Ca (w:World):CB 202 #[] w (.agg hH):=by go_enter func202,ntmps202;apply wp_seq_k;intro c b;apply wp_region_list;refine cy rfl 233 rfl (some 0) rfl _ BY ?_;apply wpList_nil;refine b _ _ ?_;clear b c;apply wp_seq_k;intro c b;apply wp_region_lit;refine jM 99 0 99 (.p w.heap.size 0) (.agg hH) a3 ?_;intro m f d j;have g:(w.alloc (.cells (Value.agg zk).cells 233)).heap[w.heap.size]?=some (.cells zk 233 (0,0)):=heap_alloc_new _ _;refine wpList_store_rowTo rfl 233 (.tmp 0) (.tmp 99) rfl rfl w.heap.size hH f d 233 zk g (by rw [tq,ny]) (by rw [BX,ny]) BZ ?_;apply wpList_nil;refine b _ _ ?_;clear b c;apply wp_ret;refine bodyPost_ret (results_cell_row results202 _ _ _ _ _ _ _ f (setRow_heap _ _ _ _ _ _ g) underlying233 rfl (by rw [tq,ny])) j ⟨rfl,?_⟩;exact aD (bal _ _) (Nat.le_refl _) _
theorem Cb:(prog.info? 152).map (λi=>(i.zero,i.size,i.bytes))=some (some (.agg #[.string ⟨#[]⟩,.string ⟨#[]⟩,.u 0,.i 0,.u 0]),5,56):=by kernel_rfl
def DS (rs:List (List Value)):List (Nat × Value):=(rs.map λc=>Value.agg c.toArray).zipIdx.map λ(v,i)=>(i,v)
theorem Pn:Instr.fill (λi=>some (i*5,5)) ((Array.range (98*5)).map ((Value.agg #[.string ⟨#[]⟩,.string ⟨#[]⟩,.u 0,.i 0,.u 0]).cells[· % 5]!)) (DS (rows.map Row.cellsS))=some cellsS:=by kernel_rfl
theorem oL {P:Program} {k:Array Oper} {Q:Exit->Act->World->Prop} {w:World} {l:List Oper} {a:Act} (n t e len:Nat) (d:Option Tmp) (r:Array (Nat × Operand)) (s:List (Nat × Value)) (cells:Array Value) (f:TypeInfo) (z:Value) (h:(nz P (l.take n) a).map (λb=>((r.map λ(i,x)=>(i,b.eval x)).toList,b.tmps.size,b.defers))=some (s,a.tmps.size,[])) (y:P.underlying t=some (.slice e)) (q:P.info? e=some f) (hz:f.zero=some z) (c:¬ len*f.size>2^24) (j:¬ len*f.size=0) (v:Instr.fill (λi=>some (i*f.size,f.size)) ((Array.range (len*f.size)).map (z.cells[· % z.cells.size]!)) s=some cells) (g:((l.drop n)[0]?.map λo=>(o.guard,o.op,o.dst))=some (none,.buildSlice t len r,d)) (hr:∀ b:Act,b.tmps.size=a.tmps.size->b.defers=[]->wpList P k Q (l.drop (n+1)) (b.put d (.slice (some ⟨w.heap.size,0,none⟩) len len)) (w.alloc (.cells cells e))):wpList P k Q l a w:=by
 rw [<- List.take_append_drop n l];cases m:nz P (l.take n) a with
 | none=>rw [m] at h;cases h
 | some b =>
   rw [m] at h;simp only [Option.map_some,Option.some.injEq,Prod.mk.injEq] at h;refine oA _ _ _ _ m ?_;cases p:l.drop n with
   | nil=>rw [p] at g;cases g
   | cons o rest =>rw [p] at g;simp only [List.getElem?_cons_zero,Option.map_some,Option.some.injEq,Prod.mk.injEq] at g;have u:l.drop (n+1)=rest:=(by rw [<- List.drop_drop,p];rfl);refine wpList_buildSlice g.1 t e len r g.2.1 cells f z y q hz c j (by rw [h.1];exact v) ?_;rw [g.2.2,<- u];exact hr b h.2.1 h.2.2
theorem Cc (w:World):Calls prog 123 #[] w λe r=>e=.returned (.slice (some ⟨w.heap.size,0,none⟩) 98 98)/\r=w.alloc (.cells cellsS 152):=by
 obtain ⟨q,o,g,c,p⟩:=info_parts Cb;go_enter func123,ntmps123;apply wp_seq_k;intro f b;apply wp_region_list;refine mx rfl (some 0) rfl (.slice none 0 0) a3 ?_;apply wpList_nil;refine b _ _ ?_;clear b f;apply wp_seq_k;intro f b;apply wp_region_lit;refine oL 98 149 152 98 (some 99) ((List.range 98).map λi=>(i,Operand.tmp (i+1))).toArray (DS (rows.map Row.cellsS)) cellsS q _ a3 underlying149 o g (by rw [c];decide) (by rw [c];decide) (by rw [c];exact Pn) a3 ?_;intro j l m;have d:j.tmps.size=100:=l;clear l;refine mx rfl (some 0) rfl (.slice (some ⟨w.heap.size,0,none⟩) 98 98) ?_ ?_;·have e:(j.put (some 99) (.slice (some ⟨w.heap.size,0,none⟩) 98 98)).eval (.tmp 99)=.slice (some ⟨w.heap.size,0,none⟩) 98 98:=(by simp [Act.put,Act.eval,d]);simp [execOp,e]
 apply wpList_nil;refine b _ _ ?_;clear b f;apply wp_ret;refine bodyPost_ret (results_tmp results123 _ _ _) m ⟨?_,rfl⟩;simp [Act.put,d]
end Go.Proofs.YtjifdmoehfbihaaGreatDoor
namespace Go.Proofs.YtjifdmoehfbihaaGreatDoor
open Go.RowKit Tryz
set_option linter.unusedVariables false
def rk (op:Int):Bool:=decide (1<=op/\op<=98)
def jl (op:Int):ByteArray:=if rk op then (bN (op-1).toNat).name else ⟨#[]⟩
def fg (op:Int):ByteArray:=if rk op then (bN (op-1).toNat).fm.str else ⟨#[]⟩
def Row.val (r:Row):Value:=.agg #[.string r.name,.string r.fm.str,.u r.op,.u r.f3z,.u r.more]
def noRow:Value:=.agg #[.string ⟨#[]⟩,.string ⟨#[]⟩,.u 0,.u 0,.u 0]
def u9 (op:Int):Value:=if rk op then (bN (op-1).toNat).val else noRow
theorem tu {op:Int} (h:rk op=false):u9 op=noRow:=by simp [u9,h]
theorem Fy {k:Nat} (h:rk ((k:Int)+1)=true):u9 ((k:Int)+1)=(bN k).val:=by simp [u9,h]
theorem fW {P:Program} {fn:Func} {p u:Tmp} {ty:TypeId} (h:fn.results=#[.cell p ty,.tmp u]) (tmps:Array Value) (w:World) (g:Nat) (t:TypeId) (cs:Array Value) (a:Nat × Nat) (d:TypeDesc) (e:tmps.getD p undef=.p g 0) (b:w.heap[g]?=some (.cells cs t a)) (f:P.underlying ty=some d) (hd:(match d with | .struct _ | .array _ _=>true | _=>false)=true) (c:(P.info? ty).map (·.size)=some cs.size):(results fn tmps).run P w=.ok (.tuple #[.agg cs,tmps.getD u undef]) w:=by rw [results_cell_tmp h,e];simp [asAddr,run_loadVar_row w g t ty cs a d b f hd c]
theorem Cd (op:Int):∃ a b c d e,u9 op=.agg #[.string a,.string b,.u c,.u d,.u e]/\Hid (a=jl op)/\Hid (b=fg op):=by
 cases h:rk op with
 | true=>exact ⟨_,_,_,_,_,by simp [u9,h];rfl,(by simp [jl,h]:(bN (op-1).toNat).name=jl op),(by simp [fg,h]:(bN (op-1).toNat).fm.str=fg op)⟩
 | false=>exact ⟨_,_,_,_,_,by simp [u9,h];rfl,(by simp [jl,h]:(⟨#[]⟩:ByteArray)=jl op),(by simp [fg,h]:(⟨#[]⟩:ByteArray)=fg op)⟩
theorem zl:(prog.info? 232).map (·.size)=some 5:=by kernel_rfl
theorem Li (r:Row):(#[Value.string r.name,.string r.fm.str,.u r.op,.u r.f3z,.u r.more]:Array Value).all (·.oneCell')=true:=by simp [Value.oneCell']
theorem Fz (w:World) (kk:IntKind) (k:Nat) (hk:k<98):(Instr.index 233 (.agg hH) (.int kk (k:Int))).run prog w=.ok (bN k).val w:=by
 have f:(sizeOf 232).run prog w=.ok 5 w:=by
  obtain ⟨g,e,a⟩:∃ i,prog.info? 232=some i/\i.size=5:=by
   have h:(prog.info? 232).map (·.size)=some 5:=a3;cases b:prog.info? 232 with
   | none=>rw [b] at h;cases h
   | some i=>rw [b] at h;exact ⟨i,rfl,dn⟩
  simp [sizeOf,typeInfo,e,a]
 have c:(isAgg 232).run prog w=.ok true w:=by simp [isAgg,run_underlying underlying232]
 have d:(0:Int)<=(k:Int)/\(k:Int)<((98:Nat):Int):=al
 unfold Instr.index;simp only [asIntOf,Sem.run_bind,Sem.run_pure,Result.andThen_ok,run_underlying underlying233];rw [if_pos d];simp only [Sem.run_bind,f,Result.andThen_ok,part,c,Int.toNat_natCast,if_true,Sem.run_pure];rw [zj k hk];rfl
theorem rl {T:Value} (a:Hid (T=.agg hH)) (kk:IntKind) (k:Nat) (hk:k<98) (r:Row) (hr:Hid (r=bN k)) (w:World):(Instr.index 233 T (.int kk (k:Int))).run prog w=.ok (.agg #[.string r.name,.string r.fm.str,.u r.op,.u r.f3z,.u r.more]) w:=by rw [a.out,hr.out];exact Fz w kk k hk
theorem vb {c:Array Oper} {rest:List Oper} {o:Oper} {a:Act} {w:World} {Q:Exit->Act->World->Prop} {T:Value} (e:Hid (T=.agg hH)) (kk:IntKind) (k:Nat) (hk:k<98) (r:Row) (hr:Hid (r=bN k)) (f:o.guard=none) (x i:Operand) (j:o.op=.index 233 x i) (hx:a.eval x=T) (g:a.eval i=.int kk (k:Int)) (h:wpList prog c Q rest (a.put o.dst (.agg #[.string r.name,.string r.fm.str,.u r.op,.u r.f3z,.u r.more])) w):wpList prog c Q (o::rest) a w:=by
 refine wpList_plain f λK d=>?_;have b:(execOp a.eval o).run prog w=.ok (.value (.agg #[.string r.name,.string r.fm.str,.u r.op,.u r.f3z,.u r.more])) w:=by simp [execOp,j,hx,g,rl e kk k hk r hr]
 unfold Oper.wp;rw [b,Oper.upon_value];exact d _ _ h
theorem zm (w:World):Calls prog 202 #[] w λe a=>∃ T,e=.returned T/\Hid (T=.agg hH)/\Bw w a :=
 (Ca w).mono λe a h=>⟨.agg hH,h.1,(rfl:Value.agg hH=.agg hH),h.2⟩
theorem il (x a b:Int) (w:World):CE 51 #[.i x,.i a,.i b] w (.bool (decide (a<=x/\x<=b))):=by
 by_cases c:a<=x
 ·by_cases d:x<=b;·have F:Hid (decide (a<=x/\x<=b)=true):=(by show decide (a<=x/\x<=b)=true;simp [c,d]);have f:decide (a<=x)=true:=tk;have g:decide (x<=b)=true:=py;clear c d;go_enter func51,ntmps51;go_wp2;go_ret;exact ⟨a6,rfl⟩
  ·have F:Hid (decide (a<=x/\x<=b)=false):=(by show decide (a<=x/\x<=b)=false;simp [d]);have f:decide (a<=x)=true:=tk;have g:decide (x<=b)=false:=py;clear c d;exact a04
 ·have F:Hid (decide (a<=x/\x<=b)=false):=(by show decide (a<=x/\x<=b)=false;simp [c]);have f:decide (a<=x)=false:=tk;clear c;exact a04
theorem vT (op:Int) (y:(Lit.int .i64 op).wf=true) (w:World):CB 238 #[.i op] w (.tuple #[u9 op,.bool (rk op)]):=by
 by_cases b:op<1;·have F:Hid (rk op=false):=(by show rk op=false;simp [rk];omega);have j:decide (op<1)=true:=i3;clear b;go_enter func238,ntmps238;go_wp2;refine bodyPost_ret (v:=.tuple #[noRow,.bool false]) (by simp [results,results238,go_sem];rfl) rfl ⟨by rw [tu F.out,F.out],?_⟩;exact bal _ _
 ·by_cases d:98<op;·have F:Hid (rk op=false):=(by show rk op=false;simp [rk];omega);have j:decide (op<1)=false:=i3;have q:decide (98<op)=true:=py;clear b d;go_enter func238,ntmps238;go_wp2;refine bodyPost_ret (v:=.tuple #[noRow,.bool false]) (by simp [results,results238,go_sem];rfl) rfl ⟨by rw [tu F.out,F.out],?_⟩;exact bal _ _
  ·have g:rk op=true:=(by show rk op=true;simp [rk];omega);have j:decide (op<1)=false:=i3;have q:decide (98<op)=false:=py;obtain ⟨k,s⟩:∃ k:Nat,op=(k:Int)+1:=⟨(op-1).toNat,al⟩;have f:k<98:=al;subst s;have F:Hid (rk ((k:Int)+1)=true):=g;clear b d g;go_enter func238,ntmps238;go_wp2_with fail;refine (zm _).mono ?_;rintro e u ⟨T,rfl,p,l⟩;obtain ⟨r,c⟩:∃ r,r=bN k:=⟨_,rfl⟩;have o:Hid (r=bN k):=c;clear c;have m:u.heap[w.heap.size]?=some (.cells #[.string ⟨#[]⟩,.string ⟨#[]⟩,.u 0,.u 0,.u 0] 232 (0,0)):=(by rw [l.block _ bc];exact heap_alloc_new _ _);go_wp2_with (first | refine vb p .i64 k f r o rfl _ _ rfl rfl rfl ?_ | refine wpList_store_rowTo rfl 232 _ _ rfl rfl w.heap.size #[.string r.name,.string r.fm.str,.u r.op,.u r.f3z,.u r.more] rfl rfl 232 _ m zl rfl (Li r) ?_);refine bodyPost_ret (fW results238 _ _ _ _ _ _ _ rfl (setRow_heap _ _ _ _ _ _ m) underlying232 rfl zl) rfl ⟨?_,?_⟩;·rw [Fy F.out,F.out,<- o.out];rfl
   ·exact aD ((bal _ _).trans (l.mono bc)) (Nat.le_refl _) _
theorem xy (op:Int) (f:(Lit.int .i64 op).wf=true) (w:World):CB 207 #[.i op] w (.string (fg op)):=by go_enter func207,ntmps207;go_wp2_with fail;refine (vT op f _).mono ?_;rintro e r ⟨rfl,b⟩;obtain ⟨l,m,o,p,q,d,j,c⟩:=Cd op;rw [d];go_wp2_with fail;go_ret;exact ⟨by rw [<- c.out];rfl,b.alloc b.size _⟩
def zn (w:World) (g:Nat):Prop:=g<w.heap.size/\∀ k,k<98->∀ r,r=bN k->w.cell? ⟨g,k*5,none⟩=some (.string r.name)/\w.cell? ⟨g,k*5+1,none⟩=some (.string r.fm.str) /\
 w.cell? ⟨g,k*5+2,none⟩=some (.u r.op)/\w.cell? ⟨g,k*5+3,none⟩=some (.i r.f3)/\w.cell? ⟨g,k*5+4,none⟩=some (.u r.more)
theorem zn.below {w w':World} {g:Nat} (h:zn w g) {B:Nat} (a:g<B) (hb:Below B w w'):zn w' g:=by refine ⟨Nat.lt_of_lt_of_le h.1 hb.size,λk b r c=>?_⟩;have H:=h.2 k b r c;have e:∀ o,w'.cell? ⟨g,o,none⟩=w.cell? ⟨g,o,none⟩:=λo=>hb.cell (p:=⟨g,o,none⟩) a;rw [e,e,e,e,e];exact H
theorem tw (w:World):Calls prog 123 #[] w λe a=>e=.returned (.slice (some ⟨w.heap.size,0,none⟩) 98 98)/\Hid (zn a w.heap.size)/\Bw w a :=
 (Cc w).mono λe a h=>by
  obtain ⟨b,rfl⟩:=h
  refine ⟨b,?_,bal _ _⟩
  show zn _ _
  refine ⟨bc,λk f r g=>?_⟩
  subst g
  have c:(w.alloc (.cells cellsS 152)).heap[w.heap.size]?=some (.cells cellsS 152 (0,0)):=heap_alloc_new _ _
  have e:∀ j,j<5->(w.alloc (.cells cellsS 152)).cell? ⟨w.heap.size,k*5+j,none⟩=(bN k).cellsS[j]?:=by
   intro j d
   rw [cell_of_row _ _ _ _ _ _ c]
   exact Fx k f j d
  exact ⟨e 0 a5,e 1 a5,e 2 a5,e 3 a5,e 4 a5⟩
theorem xz (op:Int) (B:(Lit.int .i64 op).wf=true) (w:World):CB 129 #[.i op] w (.string (jl op)):=by
 cases h:rk op with
 | false =>have F:Hid (rk op=false):=h;have b:decide (1<=op/\op<=98)=false:=h;clear h;go_enter func129,ntmps129;go_wp2_with fail;refine (il op 1 98 _).mono ?_;rintro e s ⟨rfl,rfl⟩;rw [b];clear b;go_wp2_with fail;go_ret;exact ⟨by simp [jl,F.out],Below.refl _ _⟩
 | true =>have b:decide (1<=op/\op<=98)=true:=h;have l:1<=op/\op<=98:=of_decide_eq_true b;obtain ⟨k,p⟩:∃ k:Nat,op=(k:Int)+1:=⟨(op-1).toNat,al⟩;have f:k<98:=al;subst p;have F:Hid (rk ((k:Int)+1)=true):=h;clear h l;go_enter func129,ntmps129;go_wp2_with fail;refine (il _ 1 98 _).mono ?_;rintro e s ⟨rfl,d⟩;have g:=d.symm;subst g;rw [b];clear b d;go_wp2_with fail;refine (tw _).mono ?_;rintro e C ⟨rfl,m,o⟩;obtain ⟨r,c⟩:∃ r,r=bN k:=⟨_,rfl⟩;have j:Hid (r=bN k):=c;clear c;obtain ⟨t,u,y,z,A⟩:=m.out.2 k f r j.out;go_wp2_with fail;go_ret;exact ⟨by simp [jl,F.out,j.out],o⟩
theorem xA (op:Int) (B:(Lit.int .i64 op).wf=true) (w:World):CB 83 #[.i op] w (.string (fg op)):=by
 cases h:rk op with
 | false =>have F:Hid (rk op=false):=h;have b:decide (1<=op/\op<=98)=false:=h;clear h;go_enter func83,ntmps83;go_wp2_with fail;refine (il op 1 98 _).mono ?_;rintro e s ⟨rfl,rfl⟩;rw [b];clear b;go_wp2_with fail;go_ret;exact ⟨by simp [fg,F.out],Below.refl _ _⟩
 | true =>have b:decide (1<=op/\op<=98)=true:=h;have l:1<=op/\op<=98:=of_decide_eq_true b;obtain ⟨k,p⟩:∃ k:Nat,op=(k:Int)+1:=⟨(op-1).toNat,al⟩;have f:k<98:=al;subst p;have F:Hid (rk ((k:Int)+1)=true):=h;clear h l;go_enter func83,ntmps83;go_wp2_with fail;refine (il _ 1 98 _).mono ?_;rintro e s ⟨rfl,d⟩;have g:=d.symm;subst g;rw [b];clear b d;go_wp2_with fail;refine (tw _).mono ?_;rintro e C ⟨rfl,m,o⟩;obtain ⟨r,c⟩:∃ r,r=bN k:=⟨_,rfl⟩;have j:Hid (r=bN k):=c;clear c;obtain ⟨t,u,y,z,A⟩:=m.out.2 k f r j.out;go_wp2_with fail;go_ret;exact ⟨by simp [fg,F.out,j.out],o⟩
def Fm.mask:Fm->Int
 | .r=>4261441663 | .w=>4261441663 | .h=>4227887231 | .a=>4160778367 | .x=>4294967295 | .u=>127 | .j=>127 | .i=>28799 | .s=>28799 | .b=>28799 | .c=>28799
def Fm.at:Fm->Nat
 | .r=>25 | .w=>25 | .h=>26 | .a=>27 | .x=>20 | .u=>0 | .j=>0 | .i=>0 | .s=>0 | .b=>0 | .c=>0
def Fm.hasRd:Fm->Bool
 | .r=>true | .i=>true | .h=>true | .w=>true | .s=>false | .b=>false | .u=>true | .j=>true | .a=>true | .c=>true | .x=>false
def Fm.hasA:Fm->Bool
 | .r=>true | .i=>true | .h=>true | .w=>true | .s=>true | .b=>true | .u=>false | .j=>false | .a=>true | .c=>true | .x=>false
def Fm.hasB:Fm->Bool
 | .r=>true | .i=>false | .h=>false | .w=>false | .s=>true | .b=>true | .u=>false | .j=>false | .a=>true | .c=>false | .x=>false
def Fm.pcs:Fm->List (Nat × Nat × Nat)
 | .r=>[] | .i=>[(20,12,0)] | .h=>[(20,6,0)] | .w=>[(20,5,0)] | .s=>[(25,7,5),(7,5,0)] | .b=>[(31,1,12),(7,1,11),(25,6,5),(8,4,1)]
 | .u=>[(12,20,12)] | .j=>[(31,1,20),(12,8,12),(20,1,11),(21,10,1)] | .a=>[(25,2,0)] | .c=>[(20,12,0)] | .x=>[]
def Fm.width:Fm->Nat
 | .r=>64 | .i=>12 | .h=>64 | .w=>64 | .s=>12 | .b=>13 | .u=>32 | .j=>21 | .a=>64 | .c=>64 | .x=>64
structure Ins where
 op:Int
 rd:Int
 a:Int
 b:Int
 imm:Int
deriving DecidableEq
def Ins.val (i:Ins):Value:=.agg #[.i i.op,.i i.rd,.i i.a,.i i.b,.i i.imm]
def cI (x:Int) (k n:Nat):Int:=x/2^k%2^n
theorem jN (x:Int) (k n:Nat):0<=cI x k n/\cI x k n<2^n:=by have a:(0:Int)<2^n:=Int.pow_pos al;exact ⟨Int.emod_nonneg _ al,Int.emod_lt_of_pos _ a⟩
theorem Ce (m n:Nat) (h:m<=n):(2:Int)^m<=2^n:=by obtain ⟨d,rfl⟩:=Nat.exists_eq_add_of_le h;rw [Int.pow_add];have a:(0:Int)<2^m:=Int.pow_pos al;have b:(0:Int)<2^d:=Int.pow_pos al;have c:(2:Int)^m*1<=2^m*2^d:=Int.mul_le_mul_of_nonneg_left al al;omega
theorem gQ (x:Int) (k n:Nat) (b:0<=x) (i:x<18446744073709551616) (hn:n<64):bits .and .u64 (x/2^k) (IntKind.u64.wrap (IntKind.u64.wrap (2^n)-1))=cI x k n:=by
 have m:(0:Int)<2^n:=Int.pow_pos al;have l:(0:Int)<2^k:=Int.pow_pos al;have j:(2:Int)^n<=2^63:=Ce n 63 al;have g:(2:Int)^63=9223372036854775808:=a5
 have c:IntKind.u64.wrap (2^n)=2^n:=by rw [IntKind.wrap_u64];omega
 have d:IntKind.u64.wrap (2^n-1)=2^n-1:=by rw [IntKind.wrap_u64];omega
 have a:0<=x/2^k:=Int.ediv_nonneg b al;have h:x/2^k<=x:=Int.ediv_le_self _ b;rw [c,d,u64_and _ _ a al al al];have e:(2^n-1:Int).toNat=2^n-1:=by
  have:(2:Int)^n=((2^n:Nat):Int):=bc
  rw [this];omega
 rw [e,Nat.and_two_pow_sub_one_eq_mod];unfold cI;have f:((x/2^k).toNat:Int)=x/2^k:=Int.toNat_of_nonneg a;rw [Int.natCast_emod,f];simp
theorem FA (n m k:Nat):n &&& m=2^k*(n/2^k &&& m/2^k)+(n%2^k &&& m%2^k):=by rw [<- Nat.and_div_two_pow,<- Nat.and_mod_two_pow];exact (Nat.div_add_mod _ _).symm
theorem Ir (n k:Nat):n &&& (2^k-1)=n%2^k:=Nat.and_two_pow_sub_one_eq_mod n k
theorem Is (a x k m:Nat) (h:a/2^k%2^m=0) (hx:x<2^m):a ||| x*2^k=a+x*2^k:=by
 have i:0<2^k:=Nat.two_pow_pos k;have o:0<2^m:=Nat.two_pow_pos m;have e:a=a/2^k/2^m*2^(k+m)+a%2^k:=by have g:=Nat.div_add_mod a (2^k);have d:=Nat.div_add_mod (a/2^k) (2^m);rw [h,Nat.add_zero] at d;rw [<- d] at g;rw [Nat.pow_add,<- Nat.mul_assoc,Nat.mul_right_comm,Nat.mul_comm _ (2^k),Nat.mul_comm _ (2^m)] ;omega
 have b:a%2^k<2^k:=Nat.mod_lt _ i;have j:a/2^k/2^m*2^(k+m) ||| a%2^k=a/2^k/2^m*2^(k+m)+a%2^k:=by refine nat_join k _ _ ?_ b;rw [Nat.pow_add,Nat.mul_comm (2^k),<- Nat.mul_assoc];exact Nat.mul_mod_left _ _
 have l:x*2^k ||| a%2^k=x*2^k+a%2^k:=nat_join k _ _ (Nat.mul_mod_left _ _) b
 have c:x*2^k+a%2^k<2^(k+m):=by rw [Nat.pow_add,Nat.mul_comm (2^k)];have:(x+1)*2^k<=2^m*2^k:=Nat.mul_le_mul_right _ hx;rw [Nat.add_mul] at this;omega
 have n:a/2^k/2^m*2^(k+m) ||| (x*2^k+a%2^k)=a/2^k/2^m*2^(k+m)+(x*2^k+a%2^k):=nat_join (k+m) _ _ (Nat.mul_mod_left _ _) c
 have f:a ||| x*2^k=a/2^k/2^m*2^(k+m) ||| (x*2^k ||| a%2^k):=by
  conv=>lhs;rw [e,<- j]
  rw [Nat.or_assoc,Nat.or_comm (a%2^k)]
 rw [f,l,n];omega
def fh (i:Nat) (f:Fm) (o z m x:Int):Prop:=x%128=o/\(0<=z->x/4096%8=z) /\
 (match f with
 | .r=>x/33554432=m/\(i=97->x/128%32=0)
 | .h=>x/67108864=m
 | .w=>x/33554432=m
 | .a=>x/134217728=m/\(i=62\/i=73->x/1048576%32=0)
 | .x=>x=m*1048576+o
 | _=>True)
instance (i:Nat) (f:Fm) (o z m x:Int):Decidable (fh i f o z m x):=by
 unfold fh;cases f<;>infer_instance
theorem cj (x:Int) (k:Nat) (d:0<=x) (e:x<18446744073709551616) (hk:k<64):bits .and .u64 x (2^k-1)=x%2^k:=by
 have h:=gQ x 0 k d e hk;have g:(0:Int)<2^k:=Int.pow_pos al;have f:(2:Int)^k<=2^63:=Ce k 63 al;have c:(2:Int)^63=9223372036854775808:=a5
 have a:IntKind.u64.wrap (2^k)=2^k:=by rw [IntKind.wrap_u64];omega
 have b:IntKind.u64.wrap (2^k-1)=2^k-1:=by rw [IntKind.wrap_u64];omega
 rw [a,b] at h;simpa [cI] using h
def aq (n:Nat) (x:Int):Int:=IntKind.u64.wrap (RowKit.wrap64 (IntKind.u64.wrap (x*2^(64-n)))/2^(64-n))
def xB (f:Fm) (x:Int):Int :=
 match f with
 | .i=>x/1048576
 | .h=>x/1048576%64
 | .w=>x/1048576%32
 | .s=>x/33554432*32+x/128%32
 | .b=>x/2147483648*4096+x/128%2*2048+x/33554432%64*32+x/256%16*2
 | .u=>x/4096*4096
 | .j=>x/2147483648*1048576+x/4096%256*4096+x/1048576%2*2048+x/2097152%1024*2
 | .a=>x/33554432%4
 | .c=>x/1048576
 | .r=>0
 | .x=>0
def mW (f:Fm) (x:Int):Int:=RowKit.wrap64 (aq f.width (xB f x))
theorem n9 (u:Int) (a:0<=u) (b:u<9223372036854775808):RowKit.wrap64 (aq 64 u)=u:=by
 have e:(2:Int)^(64-64)=1:=a5
 unfold aq;exact a0e
theorem lO (a x:Int) (k m:Nat) (f:0<=a) (n:a<18446744073709551616) (hx:0<=x) (b:x<2^m) (l:k+m<=64) (h:a/2^k%2^m=0):bits .or .u64 a (x*2^k)=a+x*2^k:=by
 obtain ⟨A,rfl⟩:=Int.eq_ofNat_of_zero_le f;obtain ⟨X,rfl⟩:=Int.eq_ofNat_of_zero_le hx;have c:X<2^m:=by
  have:((X:Nat):Int)<((2^m:Nat):Int):=i3
  omega
 have i:A/2^k%2^m=0:=by
  have:(((A/2^k%2^m:Nat)):Int)=0:=dn
  omega
 have e:((X:Int)*2^k)=((X*2^k:Nat):Int):=bc
 have j:X*2^k<18446744073709551616:=by have g:X*2^k<2^m*2^k:=Nat.mul_lt_mul_of_pos_right c (Nat.two_pow_pos k);rw [<- Nat.pow_add] at g;have o:2^(m+k)<=2^64:=Nat.pow_le_pow_right al al;have d:2^64=18446744073709551616:=a5;omega
 rw [e,u64_or_nat A (X*2^k) al j,Is A X k m i c];simp
end Go.Proofs.YtjifdmoehfbihaaGreatDoor
namespace Go.Proofs.YtjifdmoehfbihaaGreatDoor
open Go.RowKit Tryz
set_option linter.unusedVariables false
def U (x:Int):Prop:=0<=x/\x<18446744073709551616
def bt (x:Int) (i:Nat):Bool:=(BitVec.ofInt 64 x).getLsbD i
theorem bG (x:Int):U (IntKind.u64.wrap x):=by rw [IntKind.wrap_u64];exact ⟨Int.emod_nonneg _ al,Int.emod_lt_of_pos _ al⟩
theorem aj (o:BinOp) (x y:Int):U (bits o .u64 x y):=bG _
theorem Cf (x:Int):BitVec.ofInt 64 (IntKind.u64.wrap x)=BitVec.ofInt 64 x:=by rw [IntKind.wrap_u64];apply BitVec.eq_of_toInt_eq;rw [BitVec.toInt_ofInt,BitVec.toInt_ofInt];exact Int.emod_bmod x (2^64)
theorem pj (v:BitVec 64):BitVec.ofInt 64 (IntKind.u64.wrap (v.toNat:Int))=v:=by rw [Cf];simp
theorem az (x y:Int) (i:Nat):bt (bits .and .u64 x y) i=(bt x i&&bt y i):=by show (BitVec.ofInt 64 (IntKind.u64.wrap ((BitVec.ofInt 64 x &&& BitVec.ofInt 64 y).toNat:Int))).getLsbD i=_;rw [pj];simp [bt]
theorem bZ (x y:Int) (i:Nat):bt (bits .or .u64 x y) i=(bt x i||bt y i):=by show (BitVec.ofInt 64 (IntKind.u64.wrap ((BitVec.ofInt 64 x ||| BitVec.ofInt 64 y).toNat:Int))).getLsbD i=_;rw [pj];simp [bt]
theorem aA (x y:Int) (i:Nat) (a:i<64):bt (bits .andNot .u64 x y) i=(bt x i&&!bt y i):=by show (BitVec.ofInt 64 (IntKind.u64.wrap ((BitVec.ofInt 64 x &&& ~~~BitVec.ofInt 64 y).toNat:Int))).getLsbD i=_;rw [pj];simp [bt,a]
theorem nB (x:Int) (h:U x) (i:Nat):bt x i=x.toNat.testBit i:=by
 obtain ⟨a,b⟩:=h;obtain ⟨n,rfl⟩:=Int.eq_ofNat_of_zero_le a;have c:n<2^64:=al
 unfold bt;rw [<- BitVec.testBit_toNat,ofInt_u64 n al,Int.toNat_natCast]
theorem bg (x y:Int) (hx:U x) (hy:U y) (h:∀ i,i<64->bt x i=bt y i):x=y:=by have e:BitVec.ofInt 64 x=BitVec.ofInt 64 y:=BitVec.eq_of_getLsbD_eq (λi d=>h i d);have a:=congrArg BitVec.toNat e;obtain ⟨b,f⟩:=hx;obtain ⟨c,g⟩:=hy;obtain ⟨n,rfl⟩:=Int.eq_ofNat_of_zero_le b;obtain ⟨m,rfl⟩:=Int.eq_ofNat_of_zero_le c;rw [ofInt_u64 n al,ofInt_u64 m al] at a;rw [a]
theorem kT (x:Int) (h:U x) (k:Nat):U (x/2^k):=by have a:(0:Int)<2^k:=Int.pow_pos al;exact ⟨Int.ediv_nonneg h.1 al,Int.lt_of_le_of_lt (Int.ediv_le_self _ h.1) h.2⟩
theorem FC (x:Int) (h:0<=x) (k:Nat):(x/2^k).toNat=x.toNat/2^k:=by
 obtain ⟨n,rfl⟩:=Int.eq_ofNat_of_zero_le h;have:((n:Int)/2^k)=((n/2^k:Nat):Int):=bc
 rw [this,Int.toNat_natCast,Int.toNat_natCast]
theorem iT (x:Int) (h:U x) (k i:Nat):bt (x/2^k) i=bt x (i+k):=by rw [nB _ (kT x h k),nB _ h,FC _ h.1,Nat.testBit_div_two_pow]
theorem sp (x:Int) (i:Nat) (a:64<=i):bt x i=false:=by unfold bt;exact BitVec.getLsbD_of_ge _ _ a
theorem pk (x:Int) (k n:Nat) (hn:n<64):U (cI x k n):=by
 have:=jN x k n;have b:=Ce n 63 al;have a:(2:Int)^63=9223372036854775808:=a5
 exact ⟨this.1,al⟩
theorem jO (x:Int) (h:U x) (k n i:Nat) (hn:n<64):bt (cI x k n) i=(decide (i<n)&&bt x (i+k)):=by
 rw [nB _ (pk x k n hn),<- iT x h,nB _ (kT x h k)];unfold cI;have a:=(kT x h k).1;obtain ⟨m,b⟩:=Int.eq_ofNat_of_zero_le a;rw [b];have:((m:Int)%2^n)=((m%2^n:Nat):Int):=bc
 rw [this,Int.toNat_natCast,Int.toNat_natCast,Nat.testBit_mod_two_pow]
theorem mz (y:Int) (h:U y) (k i:Nat):bt (IntKind.u64.wrap (y*2^k)) i=(decide (k<=i)&&decide (i<64)&&bt y (i-k)):=by
 rw [nB _ (bG _),nB _ h];obtain ⟨n,rfl⟩:=Int.eq_ofNat_of_zero_le h.1;rw [IntKind.wrap_u64];have e:((n:Int)*2^k)%18446744073709551616=((n*2^k%2^64:Nat):Int):=bc
 rw [e,Int.toNat_natCast,Int.toNat_natCast,Nat.testBit_mod_two_pow,Nat.testBit_mul_two_pow];cases decide (i<64)<;>cases decide (k<=i)<;>simp
def sh (b:Int):Nat:=(b%64).toNat
def It (b:Int):Nat:=(b%32).toNat
theorem Nj (b:Int):b%64=(sh b:Int):=by unfold sh;omega
theorem N0 (b:Int):b%32=(It b:Int):=by unfold It;omega
theorem Cg (b:Int):sh (b%32)=It b:=by unfold sh It;omega
theorem DT (b:Int):sh b<64:=by unfold sh;omega
theorem N5 (b:Int):It b<32:=by unfold It;omega
inductive AF where | sum | slt | sltu | xor | or | and | sl | sr | sra | sub | mul | mulh | mulhsu | high | div | divu | rem | remu
deriving DecidableEq
def Ch (b:Bool):Int:=if b then 1 else 0
def jX (a b:Int):Int:=a*b/18446744073709551616
def fI (a b:Int):Int:=if wrap64 a<0 then IntKind.u64.wrap (jX a b-b) else jX a b
def lu (a b:Int):Int:=if wrap64 b<0 then IntKind.u64.wrap (fI a b-a) else fI a b
def AF.v:AF->Int->Int->Int
 | .sum,a,b=>IntKind.u64.wrap (a+b)
 | .sub,a,b=>IntKind.u64.wrap (a-b)
 | .xor,a,b=>bits .xor .u64 a b
 | .or,a,b=>bits .or .u64 a b
 | .and,a,b=>bits .and .u64 a b
 | .sl,a,b=>IntKind.u64.wrap (a*2^sh b)
 | .sr,a,b=>a/2^sh b
 | .sra,a,b=>IntKind.u64.wrap (wrap64 a/2^sh b)
 | .slt,a,b=>Ch (decide (wrap64 a<wrap64 b))
 | .sltu,a,b=>Ch (decide (a<b))
 | .mul,a,b=>IntKind.u64.wrap (a*b)
 | .high,a,b=>jX a b
 | .mulhsu,a,b=>fI a b
 | .mulh,a,b=>lu a b
 | .div,a,b=>if b=0 then 18446744073709551615 else IntKind.u64.wrap (wrap64 ((wrap64 a).tdiv (wrap64 b)))
 | .rem,a,b=>if b=0 then a else IntKind.u64.wrap ((wrap64 a).tmod (wrap64 b))
 | .divu,a,b=>if b=0 then 18446744073709551615 else IntKind.u64.wrap (a.tdiv b)
 | .remu,a,b=>if b=0 then a else a.tmod b
theorem eH {b:Int} (a:0<=b) (c:b<18446744073709551616):wrap64 b=0↔b=0:=by unfold wrap64;omega
theorem iJ {b:Int} (a:0<=b) (c:b<18446744073709551616):wrap64 b=-1↔b=18446744073709551615:=by unfold wrap64;omega
theorem Iu (a:Int) (b:0<=a) (c:a<18446744073709551616):IntKind.u64.wrap (wrap64 ((wrap64 a).tdiv (-1)))=IntKind.u64.wrap (-a):=by rw [Int.tdiv_neg,Int.tdiv_one,IntKind.wrap_u64,IntKind.wrap_u64];unfold wrap64;omega
theorem Iw (a:Int):IntKind.u64.wrap ((wrap64 a).tmod (-1))=0:=by rw [Int.tmod_neg,Int.tmod_one];rfl
theorem kU (x:Int):aq 32 x=if x%4294967296<2147483648 then x%4294967296 else x%4294967296+18446744069414584320:=by
 have e:(2:Int)^(64-32)=4294967296:=a5
 unfold aq;rw [e,IntKind.wrap_u64,IntKind.wrap_u64];unfold wrap64;split<;>omega
theorem jG {x y:Int} (h:x%4294967296=y%4294967296):aq 32 x=aq 32 y:=by rw [kU,kU,h]
theorem aS (x:Int):0<=aq 32 x/\aq 32 x<18446744073709551616:=by rw [kU];split<;>omega
theorem zp (x:Int):-2147483648<=wrap64 (aq 32 x)/\wrap64 (aq 32 x)<2147483648:=by rw [kU];unfold wrap64;split<;>omega
theorem vc (z:Int) (a : -2147483648<=z) (b:z<2147483648):aq 32 (IntKind.u64.wrap z)=IntKind.u64.wrap z:=by rw [kU,IntKind.wrap_u64];split<;>omega
theorem qp (a p:Int):(a%4294967296*p)%4294967296=a*p%4294967296:=by rw [Int.mul_emod,Int.emod_emod_of_dvd _ (Int.dvd_refl _),<- Int.mul_emod]
theorem jm (x:Int):IntKind.u64.wrap x%4294967296=x%4294967296:=by rw [IntKind.wrap_u64];omega
theorem Ci (z:Int) (c : -2147483648<=z) (d:z<2147483648) (n:Nat):-2147483648<=z/2^n/\z/2^n<2147483648:=by
 have a:(0:Int)<2^n:=Int.pow_pos al;constructor
 ·refine (Int.le_ediv_iff_mul_le a).mpr ?_;have:(1:Int)<=2^n:=by omega
  have b:(2147483648:Int)*1<=2147483648*2^n:=Int.mul_le_mul_of_nonneg_left this al;omega
 ·refine Int.ediv_lt_of_lt_mul a ?_;have:(1:Int)<=2^n:=by omega
  have b:(2147483648:Int)*1<=2147483648*2^n:=Int.mul_le_mul_of_nonneg_left this al;omega
inductive SD where | low | sgn | five
deriving DecidableEq
def SD.v:SD->Int->Int
 | .low,x=>x%4294967296
 | .sgn,x=>aq 32 x
 | .five,x=>x%32
theorem SD.bd (s:SD) (x:Int) (a:0<=x):0<=s.v x/\s.v x<18446744073709551616:=by
 cases s;·simp only [SD.v];omega
 ·exact aS x
 ·simp only [SD.v];omega
inductive AO where | d (f:AF) | w (f:AF) (l r:SD)
deriving DecidableEq
def Pd:List AO:=[
 .d .sum,.d .slt,.d .sltu,.d .xor,.d .or,.d .and,.d .sl,.d .sr,.d .sra,
 .w .sum .low .low,.w .sl .low .five,.w .sr .low .five,.w .sra .sgn .five,
 .d .sum,.d .sub,.d .sl,.d .slt,.d .sltu,.d .xor,.d .sr,.d .sra,.d .or,.d .and,
 .w .sum .low .low,.w .sub .low .low,.w .sl .low .five,.w .sr .low .five,.w .sra .sgn .five,
 .d .mul,.d .mulh,.d .mulhsu,.d .high,.d .div,.d .divu,.d .rem,.d .remu,
 .w .mul .low .low,.w .div .sgn .sgn,.w .divu .low .low,.w .rem .sgn .sgn,.w .remu .low .low]
def nC (k:Nat):AO:=Pd.getD k (.d .sum)
def AO.v:AO->Int->Int->Int
 | .d f,a,b=>f.v a b
 | .w f l r,a,b=>aq 32 (f.v (l.v a) (r.v b))
def xC (op:Int):Bool:=decide (22<=op/\op<=62)
def mA (op a b:Int):Int:=if xC op then (nC (op-22).toNat).v a b else 0
/- The Ops of 32 bits,as the model reckons them. -/
theorem Po (a b:Int):aq 32 (IntKind.u64.wrap (a+b))=(AO.w .sum .low .low).v a b:=by refine jG ?_;simp only [AF.v,SD.v,jm];omega
theorem Pp (a b:Int):aq 32 (IntKind.u64.wrap (a-b))=(AO.w .sub .low .low).v a b:=by refine jG ?_;simp only [AF.v,SD.v,jm];omega
theorem Pq (a b:Int):aq 32 (IntKind.u64.wrap (a*b))=(AO.w .mul .low .low).v a b:=by refine jG ?_;simp only [AF.v,SD.v,jm];rw [qp,Int.mul_comm a (b%_),qp,Int.mul_comm]
theorem Qi (a b:Int):aq 32 (IntKind.u64.wrap (a*2^It b))=(AO.w .sl .low .five).v a b:=by refine jG ?_;simp only [AF.v,SD.v,jm,Cg];rw [qp]
theorem Qj (a b:Int):aq 32 (a%4294967296/2^It b)=(AO.w .sr .low .five).v a b:=by simp only [AO.v,AF.v,SD.v,Cg]
theorem Ps (a b:Int):IntKind.u64.wrap (wrap64 (aq 32 a)/2^It b)=(AO.w .sra .sgn .five).v a b:=by simp only [AO.v,AF.v,SD.v,Cg];have h:=zp a;have c:=Ci _ h.1 h.2 (It b);exact (vc _ c.1 c.2).symm
theorem ky (a:Int) (b:0<=a) (c:a<18446744073709551616):bits .and .u64 a 4294967295=a%4294967296:=cj a 32 b c al
theorem rm {x:Int} (a:0<=x) (b:x<18446744073709551616):IntKind.u64.wrap x=x:=by rw [IntKind.wrap_u64];omega
theorem tz (a b:Int) (h:0<=a) (q:a<18446744073709551616) (i:0<=b) (r:b<18446744073709551616):∃ d f c e t u v:Int, IntKind.u64.wrap (a%4294967296*(b%4294967296))=d/\IntKind.u64.wrap (a%4294967296*(b/4294967296))=f /\ IntKind.u64.wrap (a/4294967296*(b%4294967296))=c/\IntKind.u64.wrap (a/4294967296*(b/4294967296))=e /\ IntKind.u64.wrap (c+d/4294967296)=t/\bits .and .u64 t 4294967295=t%4294967296/\IntKind.u64.wrap (t%4294967296+f)=u /\ IntKind.u64.wrap (e+t/4294967296)=v/\IntKind.u64.wrap (v+u/4294967296)=jX a b:=by
 obtain ⟨A,rfl⟩:=Int.eq_ofNat_of_zero_le h
 obtain ⟨B,rfl⟩:=Int.eq_ofNat_of_zero_le i
 have o:A<18446744073709551616:=al
 have p:B<18446744073709551616:=al
 obtain ⟨y,bt,z,g⟩:=Lib.mul64_hi A B o p
 have s:=Lib.half_mul_le (a:=A/4294967296) (b:=B/4294967296) al al
 have w:=Lib.half_mul_le (a:=A/4294967296) (b:=B%4294967296) al al
 have x:=Lib.half_mul_le (a:=A%4294967296) (b:=B/4294967296) al al
 have j:((A:Int)%4294967296*((B:Int)%4294967296))=((A%4294967296*(B%4294967296):Nat):Int):=bc
 have k:((A:Int)%4294967296*((B:Int)/4294967296))=((A%4294967296*(B/4294967296):Nat):Int):=bc
 have l:((A:Int)/4294967296*((B:Int)%4294967296))=((A/4294967296*(B%4294967296):Nat):Int):=bc
 have m:((A:Int)/4294967296*((B:Int)/4294967296))=((A/4294967296*(B/4294967296):Nat):Int):=bc
 have n:jX A B=((A*B/18446744073709551616:Nat):Int):=by simp [jX]
 rw [j,k,l,m,n,<- g]
 generalize A%4294967296*(B%4294967296)=d at *
 generalize A%4294967296*(B/4294967296)=f at *
 generalize A/4294967296*(B%4294967296)=c at *
 generalize A/4294967296*(B/4294967296)=e at *
 refine ⟨(d:Int),(f:Int),(c:Int),(e:Int),(c:Int)+(d:Int)/4294967296,((c:Int)+(d:Int)/4294967296)%4294967296+(f:Int),(e:Int)+((c:Int)+(d:Int)/4294967296)/4294967296,
  rm al al,rm al al,rm al al,rm al al,rm al al,ky _ al al,rm al al,rm al al,?_⟩
 rw [rm al al]
 simp
theorem Lj (zs:List Int) (f:Nat) (x:Int) (j:Nat):∀ k,j<k->f+k<=zs.length->(jZ zs f x k).getD (f+j) 0=x/256^j%256:=by
 intro k;induction k with
 | zero=>intro h;omega
 | succ k b =>
   intro c d;rw [jZ];by_cases e:j=k
   ·subst e;have:f+j<(jZ zs f x j).length:=by rw [ju];omega
    simp [List.getD,this]
   ·have a:((jZ zs f x k).set (f+k) (x/256^k%256)).getD (f+j) 0=(jZ zs f x k).getD (f+j) 0:=by
     have:f+k≠f+j:=al
     simp only [List.getD,List.getElem?_set_ne this]
    rw [a];exact b al al
theorem Ll (xs:List Int) (x:Int):∀ (m f d:Nat),(∀ j,j<m->xs.getD (f+j) 0=x/256^(d+j)%256)->le xs f m=x/256^d%256^m:=by
 intro m;induction m with
 | zero=>intro f d _;simp [le,Int.emod_one]
 | succ m o =>
   intro f d h;rw [le,o (f+1) (d+1) (λj u=>by have:=h (j+1) al;rw [show f+(j+1)=f+1+j from al,show d+(j+1)=d+1+j from al] at this;exact this)];have b:=h 0 al;rw [Nat.add_zero,Nat.add_zero] at b;rw [b];have c:x/256^(d+1)=x/256^d/256:=(by rw [Int.pow_succ,Int.ediv_ediv_of_nonneg (Int.le_of_lt (Int.pow_pos al))]);have e:(256:Int)^(m+1)=256*256^m:=(by rw [Int.pow_succ,Int.mul_comm]);rw [c,e];generalize x/256^d=y;have l:(0:Int)<256^m:=Int.pow_pos al;generalize (256:Int)^m=N at *;have n:=Int.emod_add_mul_ediv (y/256) N;have v:=Int.emod_add_mul_ediv y 256;have t:=Int.emod_nonneg (y/256) (show N≠0 by omega);have k:=Int.emod_lt_of_pos (y/256) l;have g:y=(y%256+256*(y/256%N))+(256*N)*(y/256/N):=(by have r:256*(y/256)=256*(y/256%N)+256*(N*(y/256/N)):=(by rw [<- Int.mul_add,n]);rw [Int.mul_assoc];omega);have s:256*(y/256%N)+256<=256*N:=al;have i:∀ (A K M:Int),0<=A->A<M->(A+M*K)%M=A:=λA K M p q=>by rw [Int.add_mul_emod_self_left,Int.emod_eq_of_lt p q]
   have a:=i (y%256+256*(y/256%N)) (y/256/N) (256*N) al al;rw [<- g] at a;exact a.symm
theorem N6 (zs:List Int) (f m:Nat) (x:Int) (h:f+m<=zs.length):le (jZ zs f x m) f m=x%256^m:=by have:=Ll (jZ zs f x m) x m f 0 (λj a=>by rw [Nat.zero_add];exact Lj zs f x j m a h);simpa using this
theorem Lm (zs:List Int) (f:Nat) (x:Int) (j:Nat):∀ k,(j<f\/f+k<=j)->(jZ zs f x k).getD j 0=zs.getD j 0:=by
 intro k;induction k with
 | zero=>intro h;rfl
 | succ k b =>intro h;have e:(jZ zs f x (k+1)).getD j 0=(jZ zs f x k).getD j 0:=(by show ((jZ zs f x k).set (f+k) (x/256^k%256)).getD j 0=_;have a:f+k≠j:=al;simp [List.getD,List.getElem?_set_ne a]);rw [e];exact b al
theorem Ln (zs ys:List Int):∀ m g,(∀ j,j<m->ys.getD (g+j) 0=zs.getD (g+j) 0)->le ys g m=le zs g m:=by
 intro m;induction m with
 | zero=>intro g h;rfl
 | succ m b =>intro g h;show ys.getD g 0+256*le ys (g+1) m=zs.getD g 0+256*le zs (g+1) m;have a:=h 0 al;rw [Nat.add_zero] at a;rw [a,b (g+1) (λj c=>by have:=h (j+1) al;rw [show g+1+j=g+(j+1) from al];exact this)]
theorem Cj (zs:List Int) (f g m:Nat) (x:Int) (h:g+m<=f\/f+m<=g):le (jZ zs f x m) g m=le zs g m :=
 Ln _ _ m g λj a=>Lm zs f x (g+j) m al
end Go.Proofs.YtjifdmoehfbihaaGreatDoor
