/- Own lemmas. -/
import Derived.Test.YtkhofppmeoooaaaGreatDoorK02
import Derived.Test.YtkhofppmeoooaaaGreatDoorK07
import Derived.Test.YtkhofppmeoooaaaGreatDoorK08
import Derived.Conc.LoneCalls
import Derived.Tactics2
import Derived.Deep.Cut
import Derived.Laws.Cover3
namespace Go.Proofs.YtkhofppmeoooaaaGreatDoor
open Go.Conc Go.RowKit

def RunsIn (P:Program) (ops:Array Oper) (Q:Exit→Act→World→Prop) (l:List Nat) (a:Act) (w:World):Prop :=
 ∀ (b:Frame) (k:List Item) (cs:List Frame),∃ e a' w',Q e a' w'∧Arrives P (lone (b.at a (.inRegion ops l :: k)) cs w) b k cs e a' w'

section
variable {P : Program} {ops : Array Oper} {Q : Exit → Act → World → Prop} {a : Act} {w w₁ : World} {i : Nat} {rest : List Nat} {o : Oper}

theorem wp_region_runs {id:Nat} (h:RunsIn P ops Q (List.range ops.size) a w):(Code.region id ops false).wp P Q a w :=
 fun b k cs=>let ⟨e,a',w',q,r⟩:=h b k cs;⟨e,a',w',q,.of_steps (.one step_region) r⟩

theorem runs_nil (h:Q .normal a w):RunsIn P ops Q [] a w:=fun _ _ _=>⟨.normal,a,w,h,.one step_region_end⟩

theorem runs_head {a':Act} (hs:∀ (b:Frame) (k:List Item) (cs:List Frame),step P (lone (b.at a (.inRegion ops (i :: rest) :: k)) cs w)=.next (lone (b.at a' (.inRegion ops rest :: k)) cs w₁))
 (h:RunsIn P ops Q rest a' w₁):RunsIn P ops Q (i :: rest) a w :=
 fun b k cs=>let ⟨e,a',w',q,r⟩:=h b k cs;⟨e,a',w',q,.of_steps (.one (hs b k cs)) r⟩

theorem fin (ho:ops[i]?=some o) (b:Frame) (k:List Item) (v:Value):(b.at a (.inRegion ops (i :: rest) :: k)).finish v=b.at (a.put o.dst v) (.inRegion ops rest :: k):=by
 rw [Frame.finish_at,ho];rfl

theorem runs_value {v:Value} (ho:ops[i]?=some o) (hw:Region.wanted o (yielded ops a.tmps)=true) (hr:(execOp a.eval o).run P w=.ok (.value v) w₁)
 (h:RunsIn P ops Q rest (a.put o.dst v) w₁):RunsIn P ops Q (i :: rest) a w:=by
 refine runs_head (fun b k cs=>step_lone_go ?_) h
 rw [stepG_op ho hw,← fin ho];simp [stepG.apply,hr]

theorem runs_none (ho:ops[i]?=some o) (hw:Region.wanted o (yielded ops a.tmps)=true) (hr:(execOp a.eval o).run P w=.ok .skip w₁)
 (h:RunsIn P ops Q rest (a.put o.dst undef) w₁):RunsIn P ops Q (i :: rest) a w:=by
 refine runs_head (fun b k cs=>step_lone_go ?_) h
 rw [stepG_op ho hw,← fin ho];simp [stepG.apply,hr]

def upon (P:Program) (ops:Array Oper) (Q:Exit→Act→World→Prop) (rest:List Nat) (a:Act) (o:Oper):Result Next→Prop
 | .ok (.value v) w'=>RunsIn P ops Q rest (a.put o.dst v) w'
 | .ok .skip w'=>RunsIn P ops Q rest (a.put o.dst undef) w'
 | _=>False
@[simp] theorem upon_value (v:Value) (w':World):upon P ops Q rest a o (.ok (.value v) w')=RunsIn P ops Q rest (a.put o.dst v) w':=rfl
@[simp] theorem upon_skip (w':World):upon P ops Q rest a o (.ok .skip w')=RunsIn P ops Q rest (a.put o.dst undef) w':=rfl

theorem runs_op (ho:ops[i]?=some o) (hw:Region.wanted o (yielded ops a.tmps)=true) (h:upon P ops Q rest a o ((execOp a.eval o).run P w)):RunsIn P ops Q (i :: rest) a w:=by
 generalize hr:(execOp a.eval o).run P w=r at h
 match r,h with
 | .ok (.value v) w',h=>exact runs_value ho hw hr h
 | .ok .skip w',h=>exact runs_none ho hw hr h

theorem comm_up {cases:Array CommCase} {blocking:Bool} {shape:CommShape} (ho:ops[i]?=some o) (hw:Region.wanted o (yielded ops a.tmps)=true)
 (hr:(execOp a.eval o).run P w=.ok (.comm cases blocking shape) w₁) (b:Frame) (k:List Item) (cs:List Frame) :
 ∃ es,stepG P true (G (b.at a (.inRegion ops (i :: rest) :: k)) cs) w=.comm (G (b.at a (.inRegion ops (i :: rest) :: k)) cs) cases blocking shape w₁ es:=by
 have hg:=stepG_op (P:=P) (b:=b) (k:=k) (cs:=cs) (w:=w) (rest:=rest) ho hw
 rw [show G (b.at a (.inRegion ops (i :: rest) :: k)) cs={ frame:=b.at a (.inRegion ops (i :: rest) :: k),callers:=cs,status:=.running,dying:=none } from rfl,hg]
 simp [stepG.apply,hr,GStep.after]

variable {c cap s r : Nat} {buf : Array Value} {z v : Value} {tm closed : Bool}

theorem runs_send (ho:ops[i]?=some o) (hw:Region.wanted o (yielded ops a.tmps)=true) (hr:(execOp a.eval o).run P w=.ok (.comm #[scase c v z] true .send) w₁)
 (hc:w₁.heap[c]?=some (.chan cap buf false s r tm)) (hroom:buf.size < cap)
 (h:RunsIn P ops Q rest (a.put o.dst undef) (w₁.setChan c cap (buf.push v) false (s+1) r tm)):RunsIn P ops Q (i :: rest) a w:=by
 refine runs_head (fun b k cs=>?_) h
 obtain ⟨es,he⟩:=comm_up (rest:=rest) ho hw hr b k cs
 rw [lone_eq_solo,lone_eq_solo,← fin ho]
 exact step_lone_send_room he hc hroom

theorem runs_recv_buf (ok:Bool) (ho:ops[i]?=some o) (hw:Region.wanted o (yielded ops a.tmps)=true) (hr:(execOp a.eval o).run P w=.ok (.comm #[rcase c z] true (.recv ok)) w₁)
 (hc:w₁.heap[c]?=some (.chan cap buf closed s r tm)) (hsome:0 < buf.size)
 (h:RunsIn P ops Q rest (a.put o.dst (got ok (buf.getD 0 undef) true)) (w₁.setChan c cap (buf.extract 1 buf.size) closed s (r+1) tm)):RunsIn P ops Q (i :: rest) a w:=by
 refine runs_head (fun b k cs=>?_) h
 obtain ⟨es,he⟩:=comm_up (rest:=rest) ho hw hr b k cs
 rw [lone_eq_solo,lone_eq_solo,← fin ho]
 exact step_lone_recv_buf ok he hc hsome

theorem runs_recv_shut (ok:Bool) (ho:ops[i]?=some o) (hw:Region.wanted o (yielded ops a.tmps)=true) (hr:(execOp a.eval o).run P w=.ok (.comm #[rcase c z] true (.recv ok)) w₁)
 (hc:w₁.heap[c]?=some (.chan cap #[] true s r tm))
 (h:RunsIn P ops Q rest (a.put o.dst (got ok z false)) w₁):RunsIn P ops Q (i :: rest) a w:=by
 refine runs_head (fun b k cs=>?_) h
 obtain ⟨es,he⟩:=comm_up (rest:=rest) ho hw hr b k cs
 rw [lone_eq_solo,lone_eq_solo,← fin ho]
 exact step_lone_recv_shut ok he hc

def RunsAll (P:Program) (ops:Array Oper) (Q:Exit→Act→World→Prop) (a:Act) (w:World):Prop:=RunsIn P ops Q (List.range ops.size) a w
structure Way (Q Q':Exit→Act→World→Prop):Type where
 out:∀ e a w,Q e a w→Q' e a w
theorem wp_region_all {id:Nat} (h:∀ Q':Exit→Act→World→Prop,Way Q Q'→RunsAll P ops Q' a w):(Code.region id ops false).wp P Q a w:=wp_region_runs (h Q ⟨fun _ _ _ h=>h⟩)
end

def ChanAt (w:World) (c cap:Nat) (buf:List Value) (closed:Bool):Prop:=∃ s r,w.heap[c]?=some (.chan cap buf.toArray closed s r false)
section
variable {w : World} {c cap : Nat} {buf : List Value} {closed : Bool}
theorem ChanAt.lt (h:ChanAt w c cap buf closed):c < w.heap.size:=by
 obtain ⟨s,r,h⟩:=h
 rcases Nat.lt_or_ge c w.heap.size with h' | h'
 ·exact h'
 ·simp [Array.getElem?_eq_none h'] at h
theorem chanAt_set (hlt:c < w.heap.size) {a:Array Value} (cap':Nat) (buf':List Value) (cl':Bool) (s r:Nat) (ha:a=buf'.toArray):ChanAt (w.setChan c cap' a cl' s r false) c cap' buf' cl' :=
 ⟨s,r,by subst ha;exact heap_setChan w c cap' _ cl' s r false hlt⟩
theorem chanAt_of_eq {w':World} (h:ChanAt w c cap buf closed) (he:w'.heap[c]?=w.heap[c]?):ChanAt w' c cap buf closed:=by
 obtain ⟨s,r,h⟩:=h
 exact ⟨s,r,he.trans h⟩
theorem chanAt_alloc (h:ChanAt w c cap buf closed) (x:Obj):ChanAt (w.alloc x) c cap buf closed :=
 chanAt_of_eq h (by have:=h.lt;show (w.heap.push x)[c]?=_;rw [Array.getElem?_push_lt this,Array.getElem?_eq_getElem this])
theorem heap_setChan_ne {j:Nat} (hj:j≠c) (cap':Nat) (a:Array Value) (cl:Bool) (s r:Nat) (tm:Bool):(w.setChan c cap' a cl s r tm).heap[j]?=w.heap[j]?:=by
 simp [World.setChan,Ne.symm hj]

def chanLen (w:World) (c:Nat):Nat:=match w.heap[c]? with | some (.chan _ buf _ _ _ _)=>buf.size | _=>0
theorem ChanAt.len (h:ChanAt w c cap buf closed):chanLen w c=buf.length:=by
 obtain ⟨s,r,h⟩:=h
 simp [chanLen,h]

structure Only (c:Nat) (w w':World):Prop where
 size:w'.heap.size=w.heap.size
 else_:∀ j,j≠c→w'.heap[j]?=w.heap[j]?
 below:∀ (B:Nat) (a:World),B≤c→Below B a w→Below B a w'
theorem only_set (cap':Nat) (a:Array Value) (cl:Bool) (s r:Nat) (tm:Bool):Only c w (w.setChan c cap' a cl s r tm) :=
 ⟨size_setChan _ _ _ _ _ _ _ _,fun _ hj=>heap_setChan_ne hj _ _ _ _ _ _,fun _ _ hB h=>below_setChan h hB _ _ _ _ _ _⟩

variable {P : Program} {ops : Array Oper} {Q : Exit → Act → World → Prop} {a : Act} {i : Nat} {rest : List Nat} {o : Oper} {v z : Value}
theorem runs_sendA (ho:ops[i]?=some o) (hw:Region.wanted o (yielded ops a.tmps)=true) (hr:(execOp a.eval o).run P w=.ok (.comm #[scase c v z] true .send) w)
 (hc:ChanAt w c cap buf false) (hroom:buf.length < cap)
 (h:∀ w',ChanAt w' c cap (buf ++ [v]) false→Only c w w'→RunsIn P ops Q rest (a.put o.dst undef) w'):RunsIn P ops Q (i :: rest) a w:=by
 have hlt:=hc.lt
 obtain ⟨s,r,hc⟩:=hc
 exact runs_send ho hw hr hc (by simpa using hroom) (h _ (chanAt_set hlt _ _ _ _ _ (by simp)) (only_set _ _ _ _ _ _))
theorem runs_recvA (ok:Bool) (ho:ops[i]?=some o) (hw:Region.wanted o (yielded ops a.tmps)=true) (hr:(execOp a.eval o).run P w=.ok (.comm #[rcase c z] true (.recv ok)) w)
 (hc:ChanAt w c cap (v :: buf) closed)
 (h:∀ w',ChanAt w' c cap buf closed→Only c w w'→RunsIn P ops Q rest (a.put o.dst (got ok v true)) w'):RunsIn P ops Q (i :: rest) a w:=by
 have hlt:=hc.lt
 obtain ⟨s,r,hc⟩:=hc
 have h':=h _ (chanAt_set (a:=(v :: buf).toArray.extract 1 (v :: buf).toArray.size) hlt cap buf closed s (r+1) (by simp)) (only_set _ _ _ _ _ _)
 exact runs_recv_buf ok ho hw hr hc (by simp) (by simpa using h')
theorem runs_shutA (ok:Bool) (ho:ops[i]?=some o) (hw:Region.wanted o (yielded ops a.tmps)=true) (hr:(execOp a.eval o).run P w=.ok (.comm #[rcase c z] true (.recv ok)) w)
 (hc:ChanAt w c cap [] true) (h:RunsIn P ops Q rest (a.put o.dst (got ok z false)) w):RunsIn P ops Q (i :: rest) a w:=by
 obtain ⟨s,r,hc⟩:=hc
 exact runs_recv_shut ok ho hw hr hc h
theorem closeA (hc:ChanAt w c cap buf false):∃ w',(∀ ats ty,(Builtin.close_ ats ty #[.chan (some c)]).run P w=.ok (.tuple #[]) w')∧ChanAt w' c cap buf true∧Only c w w':=by
 have hlt:=hc.lt
 obtain ⟨s,r,hc⟩:=hc
 exact ⟨w.setChan c cap buf.toArray true s r false,fun ats ty=>run_close_open ats ty hc,chanAt_set hlt _ _ _ _ _ rfl,only_set _ _ _ _ _ _⟩
end

end Go.Proofs.YtkhofppmeoooaaaGreatDoor

namespace Go.Proofs.YtkhofppmeoooaaaGreatDoor
open Go.RowKit Go.Conc
set_option linter.unusedVariables false

theorem Only.refl (c:Nat) (w:World):Only c w w:=⟨rfl,fun _ _=>rfl,fun _ _ _ h=>h⟩

theorem Only.trans {c:Nat} {w w1 w2:World} (h:Only c w w1) (k:Only c w1 w2):Only c w w2:=⟨k.size.trans h.size,fun j hj=>(k.else_ j hj).trans (h.else_ j hj),fun B a hB hb=>k.below B a hB (h.below B a hB hb)⟩

theorem Keep.push {c:Nat} {w wr w1 w3:World} {o:Obj} {row:Option Nat} (h:Keep c (c+1) w wr) (hc:c < w.heap.size) (ho:Only c wr w1) (gr:(w1.alloc o).grownBy w3 row) (hr:∀ k,row=some k→w.heap.size≤k):Keep c (c+1) w w3:=by
 have hb:=ho.below c wr (Nat.le_refl _) (Below.refl _ _)
 have hs:=gr.size
 have hs1:=ho.size
 have hs2:=h.size
 rw [World.size_alloc] at hs
 refine ⟨gr.os.trans (hb.os.trans h.os),gr.tape.trans (hb.tape.trans h.tape),gr.output.trans (hb.output.trans h.output),by omega,fun k hk hne=>?_⟩
 rw [gr.block k (by rw [World.size_alloc];omega) (fun e=>by have:=hr k e.symm;omega),Below.heap_alloc w1 o k (by omega),ho.else_ k (by omega),h.block k hk hne]

theorem chan_push {c cap:Nat} {buf:List Value} {cl:Bool} {w1 w3:World} {o:Obj} {row:Option Nat} (h:ChanAt w1 c cap buf cl) (gr:(w1.alloc o).grownBy w3 row) (hr:∀ k,row=some k→c < k):ChanAt w3 c cap buf cl :=
 chanAt_of_eq h ((gr.block c (by rw [World.size_alloc];have:=h.lt;omega) (fun e=>by have:=hr c e.symm;omega)).trans (Below.heap_alloc w1 o c h.lt))

theorem take_more (zs:List Int) (k:Nat) (h:k < zs.length):(zs.take k).map (Value.int .u8) ++ [.int .u8 (zs.getD k 0)]=(zs.take (k+1)).map (Value.int .u8):=by
 have h1:zs.take (k+1)=zs.take k ++ [zs.getD k 0]:=by
  rw [List.take_succ_eq_append_getElem h]
  simp [List.getD,List.getElem?_eq_getElem h]
 rw [h1,List.map_append]
 rfl

theorem drop_more (zs:List Int) (k:Nat) (h:k < zs.length):(zs.drop k).map (Value.int .u8)=.int .u8 (zs.getD k 0) :: (zs.drop (k+1)).map (Value.int .u8):=by
 rw [List.drop_eq_getElem_cons h,List.map_cons]
 simp [List.getD,List.getElem?_eq_getElem h]

set_option maxRecDepth 100000 in
set_option maxHeartbeats 1600000 in
theorem sendAll_any (c cap:Nat) (a:Option Addr) (n k0:Nat) (zs:List Int) (w0 w:World) (hz:zs.length=n) (hn:n≤1048576) (hroom:n≤cap) (hsl:Sl .u8 w0 a zs) (hb0:Below w0.heap.size w0 w) (hc0:w0.heap.size≤c) (hc:ChanAt w c cap [] false) :
 Calls Tryz.prog 143 #[.chan (some c),.slice a n k0] w fun e w'=>e=.returned (.tuple #[])∧ChanAt w' c cap (zs.map (Value.int .u8)) false∧Only c w w':=by
 have HB:Hid (Below w0.heap.size w0 w∧w0.heap.size≤c):=⟨hb0,hc0⟩
 have HS:Hid (Sl .u8 w0 a zs):=hsl
 have HC:Hid (ChanAt w c cap [] false):=hc
 have HZ:Hid (zs.length=n):=hz
 have HR:Hid (n≤cap):=hroom
 clear hb0 hc0 hsl hc hz hroom
 go_enter Tryz.func143,Tryz.ntmps143
 go_wp2_with fail
 go_loopw [8] (fun i wr=>∃ k:Nat,k≤n∧i=.int .i64 k∧Hid (ChanAt wr c cap ((zs.take k).map (Value.int .u8)) false)∧Hid (Only c w wr))
  (fun i _=>n - (intOf i).toNat)
 case atStart=>exact ⟨0,Nat.zero_le _,rfl,HC.out,Only.refl _ _⟩
 case round =>
  obtain ⟨k,hk,rfl,hch,hon⟩:=hrel
  by_cases hlt:k < n
  ·obtain ⟨b,off,rfl,hb,hcl⟩:=HS.out k (by rw [HZ.out];exact hlt)
   have KC:wr.cell? ⟨b,off+k,none⟩=some (.int .u8 (zs.getD k 0)):=((hon.out.below _ _ HB.out.2 HB.out.1).cell (by exact hb)).trans hcl
   clear hcl
   have HE:Hid ((zs.take k).map (Value.int .u8) ++ [.int .u8 (zs.getD k 0)]=(zs.take (k+1)).map (Value.int .u8)):=by
    exact take_more zs k (by have:=HZ.out;omega)
   have HL:((zs.take k).map (Value.int .u8)).length < cap:=by have:=HZ.out;have:=HR.out;simp;omega
   go_upto_region 3 with fail
   refine wp_region_all ?_
   intro QC hQC
   unfold RunsAll
   refine runs_op rfl rfl ?_
   simp [go_sem,Act.put]
   refine runs_op rfl rfl ?_
   simp [go_sem,Act.put]
   refine runs_sendA (c:=c) (v:=.int .u8 (zs.getD k 0)) (z:=.tuple #[]) rfl rfl (by simp [go_sem,scase]) hch.out HL ?_
   intro w1 hc1 ho1
   simp only [Act.put]
   refine runs_nil (hQC.out _ _ _ ?_)
   clear hQC
   go_wp2_with fail
   go_roundw
   case rel=>exact ⟨k+1,by omega,by go_num,by rw [← HE.out];exact hc1,hon.out.trans ho1⟩
   case measure=>simp [intOf];omega
  ·have hkn:k=n:=by omega
   subst hkn
   rw [← HZ.out,List.take_length] at hch
   go_wp2_with fail
   refine bodyPost_end (results_none rfl _ _ _) rfl ?_
   exact ⟨rfl,hch.out,hon.out⟩

set_option maxRecDepth 100000 in
set_option maxHeartbeats 1600000 in
theorem received_any (c cap:Nat) (zs:List Int) (w:World) (hn:zs.length≤1048576) (hc:ChanAt w c cap (zs.map (Value.int .u8)) true) :
 Calls Tryz.prog 144 #[.chan (some c)] w fun e w'=>∃ (a':Option Addr) (c':Nat),e=.returned (.slice a' zs.length c')∧w'.ownsRow w.heap.size 5 1 (.slice a' zs.length c') zs.length (zs.map (Value.int .u8))∧Keep c (c+1) w w':=by
 have HC:Hid (ChanAt w c cap (zs.map (Value.int .u8)) true):=hc
 have HN:Hid (zs.length≤1048576):=hn
 clear hc hn
 go_enter Tryz.func144,Tryz.ntmps144
 go_wp2_with fail
 go_loopw [3] (fun y wr=>∃ (k:Nat) (a':Option Addr) (c':Nat),k≤zs.length∧y=.slice a' k c'∧Hid (wr.ownsRow w.heap.size 5 1 (.slice a' k c') k ((zs.take k).map (Value.int .u8)))∧Hid (ChanAt wr c cap ((zs.drop k).map (Value.int .u8)) true)∧Hid (Keep c (c+1) w wr))
  (fun _ wr=>chanLen wr c)
 case atStart=>exact ⟨0,none,0,Nat.zero_le _,rfl,⟨rfl,.inl ⟨rfl,rfl⟩⟩,HC.out,Keep.refl _ _ _⟩
 case round =>
  obtain ⟨k,a',c',hk,rfl,how,hch,hkp⟩:=hrel
  by_cases hlt:k < zs.length
  ·have HT:=dhid (take_more zs k hlt)
   have hch2:ChanAt wr c cap (.int .u8 (zs.getD k 0) :: (zs.drop (k+1)).map (Value.int .u8)) true:=by rw [← drop_more zs k hlt];exact hch.out
   have HCH:=dhid hch2
   clear hch2 hch
   have HLC:=dhid (HC.out.lt)
   generalize zs.getD k 0=b at *
   refine wp_seq (wp_region_all ?_)
   intro QC hQC
   unfold RunsAll
   refine runs_recvA (c:=c) (z:=.int .u8 0) true rfl rfl (by simp [go_sem,rcase]) HCH.out ?_
   intro w1 hc1 ho1
   simp only [got,if_true]
   refine runs_op rfl rfl ?_
   simp [go_sem,Act.put]
   refine runs_nil (hQC.out _ _ _ ?_)
   clear hQC
   simp only [Exit.then]
   have HO:Hid ((w1.alloc (.cells #[.int .u8 b] 5)).ownsRow w.heap.size 5 1 (.slice a' k c') k ((zs.take k).map (Value.int .u8))):=ownsRow_below (fown_of how.out (fun q e=>ho1.else_ q (by have:=(how.out.lt q e).1;have:=HLC.out;omega))) ((Below.refl _ _).alloc (Nat.le_refl _) _)
   have HNEW:=dhid (one_new8 w1 b)
   have Z1:=dhid (show w.heap.size≤w1.heap.size by rw [ho1.size];exact hkp.out.size)
   have HC1:=dhid hc1
   have HO1:=dhid ho1
   clear hc1 ho1
   go_wp2_with (first
    | (at_builtin;refine wpList_push8 rfl (.tmp 9) (.tmp 11) rfl w.heap.size k (.slice a' k c') (zs.take k) rfl HO.out (by have:=HN.out;omega) ⟨w1.heap.size,0,none⟩ 1 b rfl HNEW.out (by have:=Z1.out;simp only [World.size_alloc];omega) ?_;intro f1 g1 w3 ow3 gr3 hw3;have OW:=dhid ow3;have GR:=dhid gr3;clear ow3 gr3 hw3))
   have hlow:∀ q,(Value.slice a' k c').ownBlock=some q→w.heap.size≤q:=fun q e=>(how.out.lt q e).1
   have hc3:=chan_push HC1.out GR.out (fun q e=>Nat.lt_of_lt_of_le HLC.out (hlow q e))
   go_roundw
   case rel=>exact ⟨k+1,f1,g1,by omega,rfl,(by rw [← HT.out];have h:=OW.out;rw [List.map_append] at h;exact h),hc3,hkp.out.push HLC.out HO1.out GR.out hlow⟩
   case measure=>rw [hc3.len,HCH.out.len];simp
  ·have hkn:zs.length=k:=by omega
   have hch2:ChanAt wr c cap [] true:=by
    have h:=hch.out
    rw [← hkn,List.drop_length] at h
    exact h
   have HCH:=dhid hch2
   clear hch2 hch
   refine wp_seq (wp_region_all ?_)
   intro QC hQC
   unfold RunsAll
   refine runs_shutA (c:=c) (z:=.int .u8 0) true rfl rfl (by simp [go_sem,rcase]) HCH.out ?_
   simp only [got,if_true]
   refine runs_op rfl rfl ?_
   simp [go_sem,Act.put]
   refine runs_nil (hQC.out _ _ _ ?_)
   clear hQC
   simp only [Exit.then]
   go_wp2_with fail
   go_ret
   refine ⟨a',c',(by rw [hkn];rfl),?_,hkp.out⟩
   have h:=how.out
   rw [← hkn,List.take_length] at h
   exact h

theorem mkLine (most:Nat) (hm:most≤1048576) (w:World):(Instr.makeChan 184 (.int .i64 most)).run Tryz.prog w=.ok (.chan (some w.heap.size)) (w.alloc (.chan most #[] false 0 0 false)):=by
 obtain ⟨i0,hi,hz0,hz1,hz2⟩:=info_parts Tryz.info5
 exact run_makeChan Tryz.underlying184 hi .i64 most (by omega) (by rw [hz2];omega)

def behind (zs:List Int) (b:Int) (most:Nat):List Int:=if zs.length < most then zs ++ [b] else zs

theorem line_own {w w1 w2 w3:World} {o:Obj} {v:Value} {n:Nat} {xs:List Value} {c:Nat} (hc:c=w.heap.size) (h1:Only c (w.alloc o) w1) (h2:Only c w1 w2) (h3:Keep c (c+1) w2 w3) (ho:w3.ownsRow w2.heap.size 5 1 v n xs):w3.ownsRow w.heap.size 5 1 v n xs∧Below w.heap.size w w3:=by
 subst hc
 have s1:=h1.size
 have s2:=h2.size
 have s3:=h3.size
 rw [World.size_alloc] at s1
 have hb:=h2.below _ _ (Nat.le_refl _) (h1.below _ _ (Nat.le_refl _) ((Below.refl w.heap.size w).alloc (Nat.le_refl _) o))
 exact ⟨own_low ho (by omega),hb.trans (h3.below (Nat.le_refl _) (by omega))⟩

set_option maxRecDepth 100000 in
set_option maxHeartbeats 1600000 in
theorem withBehind_any (a:Option Addr) (n k0 most:Nat) (zs:List Int) (b:Int) (w:World) (hz:zs.length=n) (hm:most≤4096) (hn:n≤most) (hsl:Sl .u8 w a zs) :
 Calls Tryz.prog 142 #[.slice a n k0,.int .u8 b,.int .i64 most] w fun e w'=>∃ (a':Option Addr) (c':Nat),e=.returned (.slice a' (behind zs b most).length c')∧w'.ownsRow w.heap.size 5 1 (.slice a' (behind zs b most).length c') (behind zs b most).length ((behind zs b most).map (Value.int .u8))∧Below w.heap.size w w':=by
 have HS:Hid (∀ w1,Below w.heap.size w w1→ChanAt w1 w.heap.size most [] false→Calls Tryz.prog 143 #[.chan (some w.heap.size),.slice a n k0] w1 fun e w'=>e=.returned (.tuple #[])∧ChanAt w' w.heap.size most (zs.map (Value.int .u8)) false∧Only w.heap.size w1 w'):=fun w1 hb hc=>sendAll_any _ _ _ _ _ zs w w1 hz (by omega) hn hsl hb (Nat.le_refl _) hc
 have hmk:=mkLine most (by omega)
 have HB:Hid (∀ o,Below w.heap.size w (w.alloc o)):=fun o=>(Below.refl _ _).alloc (Nat.le_refl _) o
 have HC:Hid (∀ m,ChanAt (w.alloc (.chan m #[] false 0 0 false)) w.heap.size m [] false):=fun m=>⟨0,0,heap_alloc_new _ _⟩
 by_cases hl:n < most
 ·have HE:Hid (behind zs b most=zs ++ [b]):=by show _=_;unfold behind;rw [hz,if_pos hl]
  have HN:Hid ((behind zs b most).length≤1048576):=by show _≤_;rw [HE.out];simp;omega
  have HL:Hid ((zs.map (Value.int .u8)).length < most):=by show _ < _;simp;omega
  have HM:Hid (zs.map (Value.int .u8) ++ [.int .u8 b]=(behind zs b most).map (Value.int .u8)):=by show _=_;rw [HE.out,List.map_append];rfl
  clear HE
  generalize behind zs b most=V at *
  have dl:decide (n < most)=true:=by simp;omega
  clear hl hsl hz hn hm
  go_enter Tryz.func142,Tryz.ntmps142
  go_wp2_with fail
  refine (HS.out _ (HB.out _) (HC.out _)).mono ?_
  rintro e w1 ⟨rfl,hc1,ho1⟩
  have HC1:=dhid hc1
  have HO1:=dhid ho1
  clear hc1 ho1
  go_upto_region 4 with fail
  refine wp_region_all ?_
  intro QC hQC
  unfold RunsAll
  refine runs_op rfl rfl ?_
  simp [go_sem,Act.put]
  refine runs_op rfl rfl ?_
  simp [go_sem,Act.put]
  refine runs_sendA (c:=w.heap.size) (v:=.int .u8 b) (z:=.tuple #[]) rfl rfl (by simp [go_sem,scase]) HC1.out HL.out ?_
  intro w2 hc2 ho2
  simp only [Act.put]
  refine runs_nil (hQC.out _ _ _ ?_)
  clear hQC
  obtain ⟨w3,hcl,hc3,ho3⟩:=closeA (P:=Tryz.prog) hc2
  rw [HM.out] at hc3
  have HO2:=dhid (HO1.out.trans (ho2.trans ho3))
  have HR:=dhid (received_any w.heap.size most V w3 HN.out hc3)
  clear hc2 ho2 hc3 ho3
  try simp only [Exit.then]
  go_wp2_with fail
  refine (HR.out).mono ?_
  rintro e w4 ⟨a',c',rfl,ow,hk⟩
  have OW:=dhid (line_own rfl HO2.out (Only.refl _ _) hk ow)
  clear ow hk
  go_wp2_with fail
  go_ret
  exact ⟨a',c',rfl,OW.out.1,OW.out.2⟩
 ·have HE:Hid (behind zs b most=zs):=by show _=_;unfold behind;rw [hz,if_neg hl]
  have HN:Hid (zs.length≤1048576):=by show _≤_;omega
  generalize behind zs b most=V at *
  have dl:decide (n < most)=false:=by simp;omega
  have HZ:Hid (zs.length=n):=hz
  clear hl hsl hz hn hm
  go_enter Tryz.func142,Tryz.ntmps142
  go_wp2_with fail
  refine (HS.out _ (HB.out _) (HC.out _)).mono ?_
  rintro e w1 ⟨rfl,hc1,ho1⟩
  obtain ⟨w3,hcl,hc3,ho3⟩:=closeA (P:=Tryz.prog) hc1
  have HO2:=dhid (ho1.trans ho3)
  have HR:=dhid (received_any w.heap.size most zs w3 HN.out hc3)
  clear hc1 ho1 hc3 ho3
  go_wp2_with fail
  refine (HR.out).mono ?_
  rintro e w4 ⟨a',c',rfl,ow,hk⟩
  have OW:=dhid (line_own rfl HO2.out (Only.refl _ _) hk ow)
  clear ow hk
  go_wp2_with fail
  go_ret
  exact ⟨a',c',(by rw [HE.out];rfl),(by rw [HE.out];exact OW.out.1),OW.out.2⟩

set_option maxRecDepth 100000 in
set_option maxHeartbeats 1600000 in
theorem firstAndRest_any (a:Option Addr) (n k0:Nat) (zs:List Int) (w:World) (hz:zs.length=n) (hn:n≤4096) (hsl:Sl .u8 w a zs) :
 Calls Tryz.prog 137 #[.slice a n k0] w fun e w'=>∃ (a':Option Addr) (c':Nat),e=.returned (.tuple #[.int .u8 (zs.getD 0 0),.slice a' (zs.drop 1).length c'])∧w'.ownsRow w.heap.size 5 1 (.slice a' (zs.drop 1).length c') (zs.drop 1).length ((zs.drop 1).map (Value.int .u8))∧Below w.heap.size w w':=by
 have HS:Hid (∀ w1,Below w.heap.size w w1→ChanAt w1 w.heap.size n [] false→Calls Tryz.prog 143 #[.chan (some w.heap.size),.slice a n k0] w1 fun e w'=>e=.returned (.tuple #[])∧ChanAt w' w.heap.size n (zs.map (Value.int .u8)) false∧Only w.heap.size w1 w'):=fun w1 hb hc=>sendAll_any _ _ _ _ _ zs w w1 hz (by omega) (Nat.le_refl _) hsl hb (Nat.le_refl _) hc
 have hmk:=mkLine n (by omega)
 have HB:Hid (∀ o,Below w.heap.size w (w.alloc o)):=fun o=>(Below.refl _ _).alloc (Nat.le_refl _) o
 have HC:Hid (∀ m,ChanAt (w.alloc (.chan m #[] false 0 0 false)) w.heap.size m [] false):=fun m=>⟨0,0,heap_alloc_new _ _⟩
 have HN:Hid ((zs.drop 1).length≤1048576):=by show _≤_;simp;omega
 clear hsl
 cases zs with
 | nil =>
  clear hz hn
  go_enter Tryz.func137,Tryz.ntmps137
  go_wp2_with fail
  refine (HS.out _ (HB.out _) (HC.out _)).mono ?_
  rintro e w1 ⟨rfl,hc1,ho1⟩
  obtain ⟨w3,hcl,hc3,ho3⟩:=closeA (P:=Tryz.prog) hc1
  have HO2:=dhid (ho1.trans ho3)
  have HC3:=dhid hc3
  clear hc1 ho1 hc3 ho3
  go_upto_region 4 with fail
  refine wp_region_all ?_
  intro QC hQC
  unfold RunsAll
  refine runs_op rfl rfl ?_
  simp [go_sem,Act.put]
  refine runs_shutA (c:=w.heap.size) (z:=.int .u8 0) false rfl rfl (by simp [go_sem,rcase]) HC3.out ?_
  simp [got]
  refine runs_op rfl rfl ?_
  simp [go_sem,Act.put]
  refine runs_nil (hQC.out _ _ _ ?_)
  clear hQC
  have HR:=dhid (received_any w.heap.size n [] w3 (by simp) HC3.out)
  try simp only [Exit.then]
  go_wp2_with fail
  refine (HR.out).mono ?_
  rintro e w4 ⟨a',c',rfl,ow,hk⟩
  have OW:=dhid (line_own rfl HO2.out (Only.refl _ _) hk ow)
  clear ow hk
  go_wp2_with fail
  refine bodyPost_ret (results_tmp2 rfl _ _ _) rfl ?_
  exact ⟨a',c',rfl,OW.out.1,OW.out.2⟩
 | cons z zs =>
  clear hz hn
  go_enter Tryz.func137,Tryz.ntmps137
  go_wp2_with fail
  refine (HS.out _ (HB.out _) (HC.out _)).mono ?_
  rintro e w1 ⟨rfl,hc1,ho1⟩
  obtain ⟨w3,hcl,hc3,ho3⟩:=closeA (P:=Tryz.prog) hc1
  have HO2:=dhid (ho1.trans ho3)
  have HC3:=dhid hc3
  clear hc1 ho1 hc3 ho3
  go_upto_region 4 with fail
  refine wp_region_all ?_
  intro QC hQC
  unfold RunsAll
  refine runs_op rfl rfl ?_
  simp [go_sem,Act.put]
  refine runs_recvA (c:=w.heap.size) (z:=.int .u8 0) false rfl rfl (by simp [go_sem,rcase]) HC3.out ?_
  intro w2 hc2 ho2
  have HO3:=dhid (HO2.out.trans ho2)
  have HR:=dhid (received_any w.heap.size n zs w2 HN.out hc2)
  clear hc2 ho2
  simp [got]
  refine runs_op rfl rfl ?_
  simp [go_sem,Act.put]
  refine runs_nil (hQC.out _ _ _ ?_)
  clear hQC
  try simp only [Exit.then]
  go_wp2_with fail
  refine (HR.out).mono ?_
  rintro e w4 ⟨a',c',rfl,ow,hk⟩
  have OW:=dhid (line_own rfl HO3.out (Only.refl _ _) hk ow)
  clear ow hk
  go_wp2_with fail
  refine bodyPost_ret (results_tmp2 rfl _ _ _) rfl ?_
  exact ⟨a',c',rfl,OW.out.1,OW.out.2⟩

end Go.Proofs.YtkhofppmeoooaaaGreatDoor

namespace Go.Proofs.YtkhofppmeoooaaaGreatDoor
open Go.RowKit
set_option linter.unusedVariables false

set_option maxRecDepth 100000 in
set_option maxHeartbeats 1600000 in
theorem implDevOk_any (t cm:Int) (so:Bool) (a1:Option Addr) (n1 c1:Nat) (a2:Option Addr) (n2 c2:Nat) (ir:Int) (w:World) (hn1:n1≤1048576) (hn2:n2≤1048576) :
 Calls Tryz.prog 32 #[.agg #[.int .u64 t,.int .u64 cm,.bool so,.slice a1 n1 c1,.slice a2 n2 c2,.int .i64 ir]] w fun e w'=>e=.returned (.bool (okD n1 n2 ir))∧Below w.heap.size w w':=by
 have hB:∀ o,Below w.heap.size w (w.alloc o):=fun o=>(Below.refl _ _).alloc (Nat.le_refl _) o
 have F:okD n1 n2 ir=(decide (n1≤16)&&decide (n2≤4096)&&decide (0≤ir∧ir≤1)):=rfl
 by_cases h1:n1≤16
 ·have d1:decide ((n1:Int)≤16)=true:=by simp;omega
  by_cases h2:n2≤4096
  ·have d2:decide ((n2:Int)≤4096)=true:=by simp;omega
   by_cases h3:ir=0
   ·have F2:Hid (okD n1 n2 ir=true):=by show _=_;rw [F,decide_eq_true h1,decide_eq_true h2,h3];rfl
    subst h3
    generalize okD n1 n2 0=v at *
    clear F h1 h2 hn1 hn2
    go_enter Tryz.func32,Tryz.ntmps32
    go_wp2_with fail
    go_ret
    exact ⟨by rw [F2.out];rfl,hB _⟩
   ·by_cases h4:ir=1
    ·have F2:Hid (okD n1 n2 ir=true):=by show _=_;rw [F,decide_eq_true h1,decide_eq_true h2,h4];rfl
     subst h4
     generalize okD n1 n2 1=v at *
     clear F h1 h2 h3 hn1 hn2
     go_enter Tryz.func32,Tryz.ntmps32
     go_wp2_with fail
     go_ret
     exact ⟨by rw [F2.out];rfl,hB _⟩
    ·have F2:Hid (okD n1 n2 ir=false):=by show _=_;rw [F,decide_eq_true h1,decide_eq_true h2,decide_eq_false (by omega)];rfl
     have d3:(ir==0)=false:=by simpa using h3
     have d4:(ir==1)=false:=by simpa using h4
     generalize okD n1 n2 ir=v at *
     clear F h1 h2 h3 h4 hn1 hn2
     go_enter Tryz.func32,Tryz.ntmps32
     go_wp2_with fail
     go_ret
     exact ⟨by rw [F2.out];rfl,hB _⟩
  ·have d2:decide ((n2:Int)≤4096)=false:=by simp;omega
   have F2:Hid (okD n1 n2 ir=false):=by show _=_;rw [F,decide_eq_true h1,decide_eq_false h2];rfl
   generalize okD n1 n2 ir=v at *
   clear F h1 h2 hn1 hn2
   go_enter Tryz.func32,Tryz.ntmps32
   go_wp2_with fail
   go_ret
   exact ⟨by rw [F2.out];rfl,hB _⟩
 ·have d1:decide ((n1:Int)≤16)=false:=by simp;omega
  have F2:Hid (okD n1 n2 ir=false):=by show _=_;rw [F,decide_eq_false h1];rfl
  generalize okD n1 n2 ir=v at *
  clear F h1 hn1 hn2
  go_enter Tryz.func32,Tryz.ntmps32
  go_wp2_with fail
  go_ret
  exact ⟨by rw [F2.out];rfl,hB _⟩

theorem isPort_0 (w:World):Calls Tryz.prog 136 #[.int .u64 33554432,.int .i64 4] w fun e w'=>e=.returned (.bool true)∧w'=w:=by
 go_enter Tryz.func136,Tryz.ntmps136
 go_wp2_with fail
 go_ret
 exact ⟨rfl,rfl⟩

theorem isPort_1 (w:World):Calls Tryz.prog 136 #[.int .u64 33570816,.int .i64 8] w fun e w'=>e=.returned (.bool true)∧w'=w:=by
 go_enter Tryz.func136,Tryz.ntmps136
 go_wp2_with fail
 go_ret
 exact ⟨rfl,rfl⟩

theorem isPort_2 (w:World):Calls Tryz.prog 136 #[.int .u64 33603576,.int .i64 8] w fun e w'=>e=.returned (.bool true)∧w'=w:=by
 go_enter Tryz.func136,Tryz.ntmps136
 go_wp2_with fail
 go_ret
 exact ⟨rfl,rfl⟩

theorem isPort_3 (w:World):Calls Tryz.prog 136 #[.int .u64 268435456,.int .i64 1] w fun e w'=>e=.returned (.bool true)∧w'=w:=by
 go_enter Tryz.func136,Tryz.ntmps136
 go_wp2_with fail
 go_ret
 exact ⟨rfl,rfl⟩

theorem isPort_4 (w:World):Calls Tryz.prog 136 #[.int .u64 268435457,.int .i64 1] w fun e w'=>e=.returned (.bool true)∧w'=w:=by
 go_enter Tryz.func136,Tryz.ntmps136
 go_wp2_with fail
 go_ret
 exact ⟨rfl,rfl⟩

theorem isPort_5 (w:World):Calls Tryz.prog 136 #[.int .u64 268435461,.int .i64 1] w fun e w'=>e=.returned (.bool true)∧w'=w:=by
 go_enter Tryz.func136,Tryz.ntmps136
 go_wp2_with fail
 go_ret
 exact ⟨rfl,rfl⟩

set_option maxHeartbeats 1600000 in
theorem isPort_6 (addr size:Int) (k0:addr=33554432→¬ size=4) (k1:addr=33570816→¬ size=8) (k2:addr=33603576→¬ size=8) (k3:addr=268435456→¬ size=1) (k4:addr=268435457→¬ size=1) (k5:addr=268435461→¬ size=1) (w:World) :
 Calls Tryz.prog 136 #[.int .u64 addr,.int .i64 size] w fun e w'=>e=.returned (.bool false)∧w'=w:=by
 cases h0:(addr==33554432) with
 | true =>
  have e0:addr=33554432:=by simpa using h0
  have ds:(size==4)=false:=by simpa using k0 e0
  clear k0 k1 k2 k3 k4 k5 e0
  go_enter Tryz.func136,Tryz.ntmps136
  go_wp2_with fail
  go_ret
  exact ⟨rfl,rfl⟩
 | false =>
  cases h1:(addr==33570816) with
  | true =>
   have e0:addr=33570816:=by simpa using h1
   have ds:(size==8)=false:=by simpa using k1 e0
   clear k0 k1 k2 k3 k4 k5 e0
   go_enter Tryz.func136,Tryz.ntmps136
   go_wp2_with fail
   go_ret
   exact ⟨rfl,rfl⟩
  | false =>
   cases h2:(addr==33603576) with
   | true =>
    have e0:addr=33603576:=by simpa using h2
    have ds:(size==8)=false:=by simpa using k2 e0
    clear k0 k1 k2 k3 k4 k5 e0
    go_enter Tryz.func136,Tryz.ntmps136
    go_wp2_with fail
    go_ret
    exact ⟨rfl,rfl⟩
   | false =>
    cases h3:(addr==268435456) with
    | true =>
     have e0:addr=268435456:=by simpa using h3
     have ds:(size==1)=false:=by simpa using k3 e0
     clear k0 k1 k2 k3 k4 k5 e0
     go_enter Tryz.func136,Tryz.ntmps136
     go_wp2_with fail
     go_ret
     exact ⟨rfl,rfl⟩
    | false =>
     cases h4:(addr==268435457) with
     | true =>
      have e0:addr=268435457:=by simpa using h4
      have ds:(size==1)=false:=by simpa using k4 e0
      clear k0 k1 k2 k3 k4 k5 e0
      go_enter Tryz.func136,Tryz.ntmps136
      go_wp2_with fail
      go_ret
      exact ⟨rfl,rfl⟩
     | false =>
      cases h5:(addr==268435461) with
      | true =>
       have e0:addr=268435461:=by simpa using h5
       have ds:(size==1)=false:=by simpa using k5 e0
       clear k0 k1 k2 k3 k4 k5 e0
       go_enter Tryz.func136,Tryz.ntmps136
       go_wp2_with fail
       go_ret
       exact ⟨rfl,rfl⟩
      | false =>
       clear k0 k1 k2 k3 k4 k5
       go_enter Tryz.func136,Tryz.ntmps136
       go_wp2_with fail
       go_ret
       exact ⟨rfl,rfl⟩

theorem implBit_8 (x:Int) (w:World):Calls Tryz.prog 28 #[.int .u64 x,.int .i64 0,.int .i64 1] w fun e w'=>e=.returned (.int .u64 (bits .and .u64 x 1))∧w'=w.drew:=by
 go_enter Tryz.func28,Tryz.ntmps28
 go_wp2_with fail
 go_region
 all_goals go_wp2_with fail
 all_goals go_ret
 all_goals exact ⟨rfl,rfl⟩

theorem implBitOf_8 (b:Bool) (w:World):Calls Tryz.prog 145 #[.bool b] w fun e w'=>e=.returned (.int .u64 (oneIf b))∧w'=w:=by
 cases b with
 | false =>
  go_enter Tryz.func145,Tryz.ntmps145
  go_wp2_with fail
  go_ret
  exact ⟨rfl,rfl⟩
 | true =>
  go_enter Tryz.func145,Tryz.ntmps145
  go_wp2_with fail
  go_ret
  exact ⟨rfl,rfl⟩

theorem eql_nil8 (a:Option Addr) (n c:Nat) (w:World):(binOp .eql 22 (.slice a n c) (.slice none 0 0)).run Tryz.prog w=.ok (.bool a.isNone) w:=by
 simp only [binOp]
 simp [run_equal_slice_nil w 22 5 a n c Tryz.underlying22]

set_option maxRecDepth 100000 in
set_option maxHeartbeats 1600000 in
theorem clone_any (a:Option Addr) (n c:Nat) (zs:List Int) (w:World) (hz:zs.length=n) (hn:n≤1048576) (hsl:Sl .u8 w a zs) :
 Calls Tryz.prog 41 #[.slice a n c] w fun e w'=>∃ (a':Option Addr) (c':Nat),e=.returned (.slice a' n c')∧w'.ownsRow w.heap.size 5 1 (.slice a' n c') n (zs.map (Value.int .u8))∧Below w.heap.size w w':=by
 cases a with
 | none =>
  have h0:zs=[]:=by
   cases zs with
   | nil=>rfl
   | cons z zs=>obtain ⟨b,off,e,_⟩:=hsl 0 (by simp);cases e
  subst h0
  simp only [List.length_nil] at hz
  subst hz
  clear hsl hn
  have hnil:=eql_nil8 none 0 c
  simp only [Option.isNone] at hnil
  go_enter Tryz.func41,Tryz.ntmps41
  go_wp2_with fail
  go_ret
  exact ⟨none,0,rfl,⟨rfl,.inl ⟨rfl,rfl⟩⟩,Below.refl _ _⟩
 | some p =>
  have hE:=own_empty8 w w.heap.size (Nat.le_refl _) (.cells #[] 5 (0,0)) rfl
  have HS:Hid (Sl .u8 (w.alloc (.cells #[] 5 (0,0))) (some p) zs):=hsl.below ((Below.refl _ _).alloc (Nat.le_refl _) _)
  have HX:Hid (zs.length=n∧n≤1048576):=⟨hz,hn⟩
  clear hsl hz hn
  have hnil:=eql_nil8 (some p) n c
  simp only [Option.isNone] at hnil
  go_enter Tryz.func41,Tryz.ntmps41
  go_wp2_with (first
   | (at_builtin;refine wpList_app8 rfl (.tmp 5) (.tmp 6) rfl w.heap.size _ rfl hE (some p) n c zs rfl HX.out.1 HX.out.2 HS.out (by simp) ?_;intro b1 d1 w1 ow1 gr1;have B1:=dhid (app1 gr1 rfl);have OW:=dhid ow1;clear ow1 gr1))
  go_ret
  exact ⟨b1,d1,rfl,OW.out,B1.out⟩

set_option maxRecDepth 100000 in
set_option maxHeartbeats 1600000 in
theorem copied_any (t cm:Int) (so:Bool) (a1:Option Addr) (n1 c1:Nat) (a2:Option Addr) (n2 c2:Nat) (ir:Int) (xs ys:List Int) (w:World) (hx:xs.length=n1) (hy:ys.length=n2) (hn1:n1≤1048576) (hn2:n2≤1048576) (hs1:Sl .u8 w a1 xs) (hs2:Sl .u8 w a2 ys) :
 Calls Tryz.prog 76 #[.agg #[.int .u64 t,.int .u64 cm,.bool so,.slice a1 n1 c1,.slice a2 n2 c2,.int .i64 ir]] w fun e w'=>∃ (b1:Option Addr) (d1:Nat) (b2:Option Addr) (d2:Nat),e=.returned (.agg #[.int .u64 t,.int .u64 cm,.bool so,.slice b1 n1 d1,.slice b2 n2 d2,.int .i64 ir]) ∧
  Fam w.heap.size w'.heap.size w' (devF b1 n1 d1 xs b2 n2 d2 ys)∧Below w.heap.size w w':=by
 have HC1:Hid (∀ w',Below w.heap.size w w'→Calls Tryz.prog 41 #[.slice a1 n1 c1] w' fun e w''=>∃ (a':Option Addr) (c':Nat),e=.returned (.slice a' n1 c')∧w''.ownsRow w'.heap.size 5 1 (.slice a' n1 c') n1 (xs.map (Value.int .u8))∧Below w'.heap.size w' w''):=fun w' hb=>clone_any _ _ _ xs w' hx hn1 (hs1.below hb)
 have HC2:Hid (∀ w',Below w.heap.size w w'→Calls Tryz.prog 41 #[.slice a2 n2 c2] w' fun e w''=>∃ (a':Option Addr) (c':Nat),e=.returned (.slice a' n2 c')∧w''.ownsRow w'.heap.size 5 1 (.slice a' n2 c') n2 (ys.map (Value.int .u8))∧Below w'.heap.size w' w''):=fun w' hb=>clone_any _ _ _ ys w' hy hn2 (hs2.below hb)
 have hB2:∀ o1 o2,Below w.heap.size w ((w.alloc o1).alloc o2):=fun o1 o2=>((Below.refl _ _).alloc (Nat.le_refl _) o1).alloc (by simp) o2
 clear hs1 hs2 hx hy hn1 hn2
 go_enter Tryz.func76,Tryz.ntmps76
 go_wp2_with fail
 refine (HC1.out _ (hB2 _ _)).mono ?_
 rintro e w1 ⟨b1,d1,rfl,ow1,hb1⟩
 obtain ⟨r0,r1⟩:=rows2 hb1
 have R0:=dhid r0
 have R1:=dhid r1
 have B1:=dhid (below_trans (hB2 _ _) hb1)
 have z1:=hb1.size
 simp only [World.size_alloc] at z1 ow1
 have Z1:=dhid z1
 have A1:=dhid ((Fam.nil (w.heap.size+1+1) (w.heap.size+1+1) w1).snoc (bRow b1 n1 d1 xs) _ w1.heap.size ow1 (Nat.le_refl _) (Nat.le_refl _) (Nat.le_refl _) (by omega))
 obtain ⟨p0,p1,p2,p3,p4,p5⟩:=cells6 r0
 have f3:=froz r0 3
 have R0':(w1.setCell ⟨w.heap.size,3,none⟩ (.slice b1 n1 d1)).heap[w.heap.size]?=some (.cells #[.int .u64 t,.int .u64 cm,.bool so,.slice b1 n1 d1,.slice a2 n2 c2,.int .i64 ir] 27 (0,0)):=row_set R0.out 3 (.slice b1 n1 d1)
 have p4':=(cells6 R0').2.2.2.2.1
 have BS:=dhid (B1.out.setCell (p:=⟨w.heap.size,3,none⟩) (Nat.le_refl _) (.slice b1 n1 d1))
 clear r0 r1 hb1 z1 ow1 R0'
 go_wp2_with fail
 refine (HC2.out _ BS.out).mono ?_
 rintro e w2 ⟨b2,d2,rfl,ow2,hb2⟩
 have z2:=hb2.size
 rw [size_set] at z2 ow2
 have S0:Hid (w2.heap[w.heap.size]?=some (.cells #[.int .u64 t,.int .u64 cm,.bool so,.slice b1 n1 d1,.slice a2 n2 c2,.int .i64 ir] 27 (0,0))):=dstays hb2 (row_set R0.out 3 (.slice b1 n1 d1))
 have S1:=dhid (dstays hb2 (row_far R1.out ⟨w.heap.size,3,none⟩ (.slice b1 n1 d1) (by dsimp only;omega)))
 have B2:=dhid (below_trans BS.out hb2)
 have A2:=dhid (((A1.out.set ⟨w.heap.size,3,none⟩ (.slice b1 n1 d1) (.inl (by dsimp only;omega))).below hb2).snoc (bRow b2 n2 d2 ys) _ w2.heap.size ow2 (Nat.le_refl _) (by have:=Z1.out;omega) (Nat.le_refl _) z2)
 clear p0 p1 p2 p3 p4 p5 f3 p4'
 obtain ⟨p0,p1,p2,p3,p4,p5⟩:=cells6 S0.out
 have f4:=froz S0.out 4
 obtain ⟨s0,s1,s2,s3,s4,s5⟩:=cells6 S1.out
 obtain ⟨y0,y1,y2,y3,y4,y5⟩:=froz6 S1.out
 clear ow2 hb2 z2
 go_wp2_with fail
 have T1:=row_far S1.out ⟨w.heap.size,4,none⟩ (.slice b2 n2 d2) (by dsimp only;omega)
 have A3:=(A2.out.set ⟨w.heap.size,4,none⟩ (.slice b2 n2 d2) (.inl (by dsimp only;omega))).put6 (w.heap.size+1) (.inl (by omega)) (.int .u64 t) (.int .u64 cm) (.bool so) (.slice b1 n1 d1) (.slice b2 n2 d2) (.int .i64 ir)
 have B3:=below_put6 (B2.out.setCell (p:=⟨w.heap.size,4,none⟩) (Nat.le_refl _) (.slice b2 n2 d2)) (g:=w.heap.size+1) (by omega) (.int .u64 t) (.int .u64 cm) (.bool so) (.slice b1 n1 d1) (.slice b2 n2 d2) (.int .i64 ir)
 exact bodyPost_ret (results_cell_row Tryz.results76 _ _ _ _ _ _ _ rfl (row_put6 T1 _ _ _ _ _ _) Tryz.underlying27 rfl dev_size) rfl ⟨b1,d1,b2,d2,rfl,A3.low (by omega) (by simp only [size_set];exact Nat.le_refl _),B3⟩

theorem told_0 (t cm:Int) (so:Bool) (a1:Option Addr) (n1 c1:Nat) (a2:Option Addr) (n2 c2:Nat) (ir:Int) (w:World) :
 Calls Tryz.prog 138 #[.agg #[.int .u64 t,.int .u64 cm,.bool so,.slice a1 n1 c1,.slice a2 n2 c2,.int .i64 ir],.int .u64 33554432] w fun e w'=>e=.returned (.int .u64 (oneIf so))∧Below w.heap.size w w':=by
 have hB:∀ o,Below w.heap.size w (w.alloc o):=fun o=>(Below.refl _ _).alloc (Nat.le_refl _) o
 have HB:Hid (∀ w,Calls Tryz.prog 145 #[.bool so] w fun e w'=>e=.returned (.int .u64 (oneIf so))∧w'=w):=implBitOf_8 so
 generalize oneIf so=v at *
 go_enter Tryz.func138,Tryz.ntmps138
 go_wp2_with fail
 refine (HB.out _).mono ?_
 rintro e w1 ⟨rfl,hw1⟩
 subst hw1
 go_wp2_with fail
 go_ret
 exact ⟨rfl,hB _⟩

theorem told_1 (t cm:Int) (so:Bool) (a1:Option Addr) (n1 c1:Nat) (a2:Option Addr) (n2 c2:Nat) (ir:Int) (w:World) :
 Calls Tryz.prog 138 #[.agg #[.int .u64 t,.int .u64 cm,.bool so,.slice a1 n1 c1,.slice a2 n2 c2,.int .i64 ir],.int .u64 33570816] w fun e w'=>e=.returned (.int .u64 cm)∧Below w.heap.size w w':=by
 have hB:∀ o,Below w.heap.size w (w.alloc o):=fun o=>(Below.refl _ _).alloc (Nat.le_refl _) o
 go_enter Tryz.func138,Tryz.ntmps138
 go_wp2_with fail
 go_ret
 exact ⟨rfl,hB _⟩

theorem told_2 (t cm:Int) (so:Bool) (a1:Option Addr) (n1 c1:Nat) (a2:Option Addr) (n2 c2:Nat) (ir:Int) (w:World) :
 Calls Tryz.prog 138 #[.agg #[.int .u64 t,.int .u64 cm,.bool so,.slice a1 n1 c1,.slice a2 n2 c2,.int .i64 ir],.int .u64 33603576] w fun e w'=>e=.returned (.int .u64 t)∧Below w.heap.size w w':=by
 have hB:∀ o,Below w.heap.size w (w.alloc o):=fun o=>(Below.refl _ _).alloc (Nat.le_refl _) o
 go_enter Tryz.func138,Tryz.ntmps138
 go_wp2_with fail
 go_ret
 exact ⟨rfl,hB _⟩

theorem told_4 (t cm:Int) (so:Bool) (a1:Option Addr) (n1 c1:Nat) (a2:Option Addr) (n2 c2:Nat) (ir:Int) (w:World) :
 Calls Tryz.prog 138 #[.agg #[.int .u64 t,.int .u64 cm,.bool so,.slice a1 n1 c1,.slice a2 n2 c2,.int .i64 ir],.int .u64 268435457] w fun e w'=>e=.returned (.int .u64 (IntKind.u64.wrap ir))∧Below w.heap.size w w':=by
 have hB:∀ o,Below w.heap.size w (w.alloc o):=fun o=>(Below.refl _ _).alloc (Nat.le_refl _) o
 go_enter Tryz.func138,Tryz.ntmps138
 go_wp2_with fail
 go_ret
 exact ⟨rfl,hB _⟩

theorem told_5 (t cm:Int) (so:Bool) (a1:Option Addr) (n1 c1:Nat) (a2:Option Addr) (n2 c2:Nat) (ir:Int) (w:World) :
 Calls Tryz.prog 138 #[.agg #[.int .u64 t,.int .u64 cm,.bool so,.slice a1 n1 c1,.slice a2 n2 c2,.int .i64 ir],.int .u64 268435461] w fun e w'=>e=.returned (.int .u64 (IntKind.u64.wrap (32+oneIf (decide (0 < n1)))))∧Below w.heap.size w w':=by
 have hB:∀ o,Below w.heap.size w (w.alloc o):=fun o=>(Below.refl _ _).alloc (Nat.le_refl _) o
 rcases Nat.eq_zero_or_pos n1 with h0 | h0
 ·subst h0
  go_enter Tryz.func138,Tryz.ntmps138
  go_wp2_with fail
  go_ret
  exact ⟨rfl,hB _⟩
 ·have F:Hid (IntKind.u64.wrap (32+oneIf (decide (0 < n1)))=33):=by show _=_;rw [decide_eq_true h0];rfl
  generalize IntKind.u64.wrap (32+oneIf (decide (0 < n1)))=v at *
  have d0:decide (0 < n1)=true:=by simp;omega
  clear h0
  go_enter Tryz.func138,Tryz.ntmps138
  go_wp2_with fail
  go_ret
  exact ⟨by rw [F.out];rfl,hB _⟩

theorem belowi {w:World} {o1 o2:Obj}:Below w.heap.size w ((w.alloc o1).alloc o2):=((Below.refl _ _).alloc (Nat.le_refl _) o1).alloc (by simp) o2

theorem okD_bdi {n1 n2:Nat} {ir:Int} (h:okD n1 n2 ir=true):n1≤16∧n2≤4096∧0≤ir∧ir≤1:=by
 unfold okD at h
 simp only [Bool.and_eq_true,decide_eq_true_eq] at h
 exact ⟨h.1.1,h.1.2,h.2.1,h.2.2⟩

theorem byte_u64 (v:Int) (h0:0≤v) (h1:v≤255):IntKind.u64.wrap v=v:=by
 simp [IntKind.wrap,IntKind.signed,IntKind.bits]
 omega

theorem row_drew8 {W:World} {g:Nat} {o:Obj} (h:W.heap[g]?=some o):W.drew.heap[g]?=some o:=h

theorem size_drew8 (W:World):W.drew.heap.size=W.heap.size:=rfl

theorem own_setNe {w:World} {B n:Nat} {t:TypeId} {v:Value} {xs:List Value} (h:w.ownsRow B t 1 v n xs) (p:Addr) (x:Value) (hp:p.block < B):(w.setCell p x).ownsRow B t 1 v n xs :=
 fown_of h (fun k e=>Below.heap_setCell w p x k (by have:=(h.lt k e).1;omega))

theorem eql_nil64 (a:Option Addr) (n c:Nat) (w:World):(binOp .eql 25 (.slice a n c) (.slice none 0 0)).run Tryz.prog w=.ok (.bool a.isNone) w:=by
 simp only [binOp]
 simp [run_equal_slice_nil w 25 24 a n c Tryz.underlying25]

set_option maxRecDepth 100000 in
set_option maxHeartbeats 1600000 in
theorem clone64_any (a:Option Addr) (n c:Nat) (zs:List Int) (w:World) (hz:zs.length=n) (hn:n≤1048576) (hsl:Sl .u64 w a zs) :
 Calls Tryz.prog 75 #[.slice a n c] w fun e w'=>∃ (a':Option Addr) (c':Nat),e=.returned (.slice a' n c')∧w'.ownsRow w.heap.size 24 1 (.slice a' n c') n (zs.map (Value.int .u64))∧Below w.heap.size w w':=by
 cases a with
 | none =>
  have h0:zs=[]:=by
   cases zs with
   | nil=>rfl
   | cons z zs=>obtain ⟨b,off,e,_⟩:=hsl 0 (by simp);cases e
  subst h0
  simp only [List.length_nil] at hz
  subst hz
  clear hsl hn
  have hnil:=eql_nil64 none 0 c
  simp only [Option.isNone] at hnil
  go_enter Tryz.func75,Tryz.ntmps75
  go_wp2_with fail
  go_ret
  exact ⟨none,0,rfl,⟨rfl,.inl ⟨rfl,rfl⟩⟩,Below.refl _ _⟩
 | some p =>
  have hE:=own_empty64 w w.heap.size (Nat.le_refl _) (.cells #[] 24 (0,0)) rfl
  have HS:Hid (Sl .u64 (w.alloc (.cells #[] 24 (0,0))) (some p) zs):=hsl.below ((Below.refl _ _).alloc (Nat.le_refl _) _)
  have HX:Hid (zs.length=n∧n≤1048576):=⟨hz,hn⟩
  clear hsl hz hn
  have hnil:=eql_nil64 (some p) n c
  simp only [Option.isNone] at hnil
  go_enter Tryz.func75,Tryz.ntmps75
  go_wp2_with (first
   | (at_builtin;refine wpList_app64 rfl (.tmp 5) (.tmp 6) rfl w.heap.size _ rfl hE (some p) n c zs rfl HX.out.1 HX.out.2 HS.out (by simp) ?_;intro b1 d1 w1 ow1 gr1;have B1:=dhid (app1 gr1 rfl);have OW:=dhid ow1;clear ow1 gr1))
  go_ret
  exact ⟨b1,d1,rfl,OW.out,B1.out⟩

theorem My.addC {w wr wx:World} {r b:Nat} {T:TypeId} {rs cs:Array Value} {L:List FRow} (h:My w r b T rs cs L wr) (q:FRow) (ho:wx.ownsRow wr.heap.size q.t 1 q.v q.n q.xs) (hb:Below wr.heap.size wr wx):My w r b T rs cs (L ++ [q]) wx:=by
 have h4:=h.lt
 exact ⟨dstays hb h.row,dstays hb h.res,(h.fam.below hb).snoc q _ wx.heap.size ho (Nat.le_refl _) h4 (Nat.le_refl _) hb.size,below_trans h.below hb,h.hb,h.hr,h.ne⟩

theorem Fam.mid {B E B1 E1:Nat} {w:World} {L1 L2:List FRow} {q:FRow} (h:Fam B1 E1 w (L1 ++ L2)) (hq:Fam B E w [q]) (h1:E≤B1) (h2:B≤B1) (h3:E≤E1):Fam B E1 w (L1 ++ q :: L2):=by
 have hm:q ∈ [q]:=List.mem_singleton.2 rfl
 have hne:=List.pairwise_append.1 h.ne
 have lo:∀ s ∈ L1 ++ L2,∀ k,s.v.ownBlock=some k→B1≤k:=fun s hs k e=>((h.own s hs).lt k e).1
 have qh:∀ k,q.v.ownBlock=some k→k < E:=fun k e=>hq.hi q hm k e
 refine ⟨fun s hs=>?_,fun s hs k e=>?_,List.pairwise_append.2 ⟨hne.1,List.pairwise_cons.2 ⟨fun s hs k e e2=>?_,hne.2.1⟩,fun s hs t ht k e e2=>?_⟩⟩
 ·rcases List.mem_append.1 hs with hs | hs
  ·exact own_low (h.own s (List.mem_append_left _ hs)) h2
  ·rcases List.mem_cons.1 hs with rfl | hs
   ·exact hq.own s hm
   ·exact own_low (h.own s (List.mem_append_right _ hs)) h2
 ·rcases List.mem_append.1 hs with hs | hs
  ·exact h.hi s (List.mem_append_left _ hs) k e
  ·rcases List.mem_cons.1 hs with rfl | hs
   ·have:=qh k e;omega
   ·exact h.hi s (List.mem_append_right _ hs) k e
 ·have:=qh k e
  have:=lo s (List.mem_append_right _ hs) k e2
  omega
 ·rcases List.mem_cons.1 ht with rfl | ht
  ·have:=qh k e2
   have:=lo s (List.mem_append_left _ hs) k e
   omega
  ·exact hne.2.2 s hs t ht k e e2

def ramM (M:MV) (R:List Int):MV:=⟨M.pc,M.x,M.pr,M.cs,R,M.d,M.hd,M.hl,M.wt⟩

set_option maxRecDepth 100000 in
set_option maxHeartbeats 3200000 in
theorem apart_any (M:MV) (A:MA) (R:List Int) (ar2:Option Addr) (nr cr2 B:Nat) (w:World) (hl:MLen M) (hs:MSl w M A) (hR:Fam B w.heap.size w [bRow ar2 nr cr2 R]) (hB:B≤w.heap.size) (hnr:R.length=nr) :
 Calls Tryz.prog 40 #[.agg #[.int .u64 M.pc,.slice A.ax M.x.length A.cx,.int .i64 M.pr,.slice A.ac M.cs.length A.cc,.slice A.ar M.ram.length A.cr,.int .u64 M.d.t,.int .u64 M.d.cm,.bool M.d.so,.slice A.ai M.d.xs.length A.ci,.slice A.ao M.d.ys.length A.co,.int .i64 M.d.ir,.int .u64 M.hd,.bool M.hl,.bool M.wt],.slice ar2 nr cr2] w fun e w'=>∃ C:MA,C.ar=ar2∧C.cr=cr2∧e=.returned (.agg (mvc (ramM M R) C))∧Fam B w'.heap.size w' (mvF (ramM M R) C)∧(∀ q ∈ mvF (ramM M R) C,∀ k,q.v.ownBlock=some k→w.heap.size≤k∨(Value.slice ar2 nr cr2).ownBlock=some k)∧Below w.heap.size w w':=by
 have HX:Hid (∀ w',Below w.heap.size w w'→Calls Tryz.prog 75 #[.slice A.ax M.x.length A.cx] w' fun e w''=>∃ (a':Option Addr) (c':Nat),e=.returned (.slice a' M.x.length c')∧w''.ownsRow w'.heap.size 24 1 (.slice a' M.x.length c') M.x.length (M.x.map (Value.int .u64))∧Below w'.heap.size w' w''):=fun w' hb=>clone64_any _ _ _ M.x w' rfl hl.x (hs.x.below hb)
 have HC:Hid (∀ w',Below w.heap.size w w'→Calls Tryz.prog 75 #[.slice A.ac M.cs.length A.cc] w' fun e w''=>∃ (a':Option Addr) (c':Nat),e=.returned (.slice a' M.cs.length c')∧w''.ownsRow w'.heap.size 24 1 (.slice a' M.cs.length c') M.cs.length (M.cs.map (Value.int .u64))∧Below w'.heap.size w' w''):=fun w' hb=>clone64_any _ _ _ M.cs w' rfl hl.cs (hs.cs.below hb)
 have HD:Hid (∀ w',Below w.heap.size w w'→Calls Tryz.prog 76 #[.agg #[.int .u64 M.d.t,.int .u64 M.d.cm,.bool M.d.so,.slice A.ai M.d.xs.length A.ci,.slice A.ao M.d.ys.length A.co,.int .i64 M.d.ir]] w' fun e w''=>∃ (b1:Option Addr) (d1:Nat) (b2:Option Addr) (d2:Nat),e=.returned (.agg #[.int .u64 M.d.t,.int .u64 M.d.cm,.bool M.d.so,.slice b1 M.d.xs.length d1,.slice b2 M.d.ys.length d2,.int .i64 M.d.ir])∧Fam w'.heap.size w''.heap.size w'' (devF b1 M.d.xs.length d1 M.d.xs b2 M.d.ys.length d2 M.d.ys)∧Below w'.heap.size w' w''):=fun w' hb=>copied_any _ _ _ _ _ _ _ _ _ _ M.d.xs M.d.ys w' rfl rfl hl.xs hl.ys (hs.xs.below hb) (hs.ys.below hb)
 have HR:=dhid hR
 have HB:=dhid hB
 have HN:=dhid hnr
 clear hl hs hR hB hnr
 go_enter Tryz.func40,Tryz.ntmps40
 obtain ⟨r0,r1⟩:=rows2 (w:=w) (o1:=.cells #[.int .u64 M.pc,.slice A.ax M.x.length A.cx,.int .i64 M.pr,.slice A.ac M.cs.length A.cc,.slice A.ar M.ram.length A.cr,.int .u64 M.d.t,.int .u64 M.d.cm,.bool M.d.so,.slice A.ai M.d.xs.length A.ci,.slice A.ao M.d.ys.length A.co,.int .i64 M.d.ir,.int .u64 M.hd,.bool M.hl,.bool M.wt] 29) (o2:=.cells #[.int .u64 0,.slice none 0 0,.int .i64 0,.slice none 0 0,.slice none 0 0,.int .u64 0,.int .u64 0,.bool false,.slice none 0 0,.slice none 0 0,.int .i64 0,.int .u64 0,.bool false,.bool false] 29) (Below.refl _ _)
 have M0:Hid (My w (w.heap.size+1) w.heap.size 29 #[.int .u64 0,.slice none 0 0,.int .i64 0,.slice none 0 0,.slice none 0 0,.int .u64 0,.int .u64 0,.bool false,.slice none 0 0,.slice none 0 0,.int .i64 0,.int .u64 0,.bool false,.bool false] #[.int .u64 M.pc,.slice A.ax M.x.length A.cx,.int .i64 M.pr,.slice A.ac M.cs.length A.cc,.slice A.ar M.ram.length A.cr,.int .u64 M.d.t,.int .u64 M.d.cm,.bool M.d.so,.slice A.ai M.d.xs.length A.ci,.slice A.ao M.d.ys.length A.co,.int .i64 M.d.ir,.int .u64 M.hd,.bool M.hl,.bool M.wt] [] ((w.alloc (.cells #[.int .u64 M.pc,.slice A.ax M.x.length A.cx,.int .i64 M.pr,.slice A.ac M.cs.length A.cc,.slice A.ar M.ram.length A.cr,.int .u64 M.d.t,.int .u64 M.d.cm,.bool M.d.so,.slice A.ai M.d.xs.length A.ci,.slice A.ao M.d.ys.length A.co,.int .i64 M.d.ir,.int .u64 M.hd,.bool M.hl,.bool M.wt] 29)).alloc (.cells #[.int .u64 0,.slice none 0 0,.int .i64 0,.slice none 0 0,.slice none 0 0,.int .u64 0,.int .u64 0,.bool false,.slice none 0 0,.slice none 0 0,.int .i64 0,.int .u64 0,.bool false,.bool false] 29))):=⟨r0,r1,Fam.nil _ _ _,((Below.refl _ _).alloc (Nat.le_refl _) _).alloc (by simp) _,by omega,by omega,by omega⟩
 clear r0 r1
 go_wp2_with fail
 refine (HX.out _ M0.out.below).mono ?_
 rintro e w1 ⟨kx,lx,rfl,ow1,hb1⟩
 have M1:=dhid (M0.out.addC (wRow kx M.x.length lx M.x) ow1 hb1)
 clear ow1 hb1
 obtain ⟨p0,p1,p2,p3,p4,p5,p6,p7,p8,p9,p10,p11,p12,p13⟩:=cells14 M1.out.row
 obtain ⟨f0,f1,f2,f3,f4,f5,f6,f7,f8,f9,f10,f11,f12,f13⟩:=froz14 M1.out.row
 have M2:Hid (My w (w.heap.size+1) w.heap.size 29 #[.int .u64 0,.slice none 0 0,.int .i64 0,.slice none 0 0,.slice none 0 0,.int .u64 0,.int .u64 0,.bool false,.slice none 0 0,.slice none 0 0,.int .i64 0,.int .u64 0,.bool false,.bool false] #[.int .u64 M.pc,.slice kx M.x.length lx,.int .i64 M.pr,.slice A.ac M.cs.length A.cc,.slice A.ar M.ram.length A.cr,.int .u64 M.d.t,.int .u64 M.d.cm,.bool M.d.so,.slice A.ai M.d.xs.length A.ci,.slice A.ao M.d.ys.length A.co,.int .i64 M.d.ir,.int .u64 M.hd,.bool M.hl,.bool M.wt] [wRow kx M.x.length lx M.x] (w1.setCell ⟨w.heap.size,1,none⟩ (.slice kx M.x.length lx))):=M1.out.put 1 _
 have n3:=(cells14 M2.out.row).2.2.2.1
 go_wp2_with fail
 refine (HC.out _ M2.out.below).mono ?_
 rintro e w2 ⟨kc,lc,rfl,ow2,hb2⟩
 have M3:=dhid (M2.out.addC (wRow kc M.cs.length lc M.cs) ow2 hb2)
 clear ow2 hb2 n3
 clear p0 p1 p2 p3 p4 p5 p6 p7 p8 p9 p10 p11 p12 p13 f0 f1 f2 f3 f4 f5 f6 f7 f8 f9 f10 f11 f12 f13
 obtain ⟨p0,p1,p2,p3,p4,p5,p6,p7,p8,p9,p10,p11,p12,p13⟩:=cells14 M3.out.row
 obtain ⟨f0,f1,f2,f3,f4,f5,f6,f7,f8,f9,f10,f11,f12,f13⟩:=froz14 M3.out.row
 have M4:Hid (My w (w.heap.size+1) w.heap.size 29 #[.int .u64 0,.slice none 0 0,.int .i64 0,.slice none 0 0,.slice none 0 0,.int .u64 0,.int .u64 0,.bool false,.slice none 0 0,.slice none 0 0,.int .i64 0,.int .u64 0,.bool false,.bool false] #[.int .u64 M.pc,.slice kx M.x.length lx,.int .i64 M.pr,.slice kc M.cs.length lc,.slice A.ar M.ram.length A.cr,.int .u64 M.d.t,.int .u64 M.d.cm,.bool M.d.so,.slice A.ai M.d.xs.length A.ci,.slice A.ao M.d.ys.length A.co,.int .i64 M.d.ir,.int .u64 M.hd,.bool M.hl,.bool M.wt] [wRow kx M.x.length lx M.x,wRow kc M.cs.length lc M.cs] (w2.setCell ⟨w.heap.size,3,none⟩ (.slice kc M.cs.length lc))):=M3.out.put 3 _
 have M5:Hid (My w (w.heap.size+1) w.heap.size 29 #[.int .u64 0,.slice none 0 0,.int .i64 0,.slice none 0 0,.slice none 0 0,.int .u64 0,.int .u64 0,.bool false,.slice none 0 0,.slice none 0 0,.int .i64 0,.int .u64 0,.bool false,.bool false] #[.int .u64 M.pc,.slice kx M.x.length lx,.int .i64 M.pr,.slice kc M.cs.length lc,.slice ar2 nr cr2,.int .u64 M.d.t,.int .u64 M.d.cm,.bool M.d.so,.slice A.ai M.d.xs.length A.ci,.slice A.ao M.d.ys.length A.co,.int .i64 M.d.ir,.int .u64 M.hd,.bool M.hl,.bool M.wt] [wRow kx M.x.length lx M.x,wRow kc M.cs.length lc M.cs] ((w2.setCell ⟨w.heap.size,3,none⟩ (.slice kc M.cs.length lc)).setCell ⟨w.heap.size,4,none⟩ (.slice ar2 nr cr2))):=M4.out.put 4 _
 obtain ⟨-,-,-,-,v4,-,-,-,-,-,-,-,-,-⟩:=cells14 M4.out.row
 obtain ⟨-,-,-,-,u4,-,-,-,-,-,-,-,-,-⟩:=froz14 M4.out.row
 obtain ⟨-,-,-,-,-,z5,z6,z7,z8,z9,z10,-,-,-⟩:=cells14 M5.out.row
 go_wp2_with fail
 refine (HD.out _ M5.out.below).mono ?_
 rintro e w4 ⟨ki,li,ko,lo,rfl,fm4,hb4⟩
 have M7:=dhid (M5.out.add2 (bRow ki M.d.xs.length li M.d.xs) (bRow ko M.d.ys.length lo M.d.ys) fm4 hb4)
 have BR:=dhid (below_trans M5.out.below hb4)
 clear fm4 hb4 z5 z6 z7 z8 z9 z10 v4 u4
 clear p0 p1 p2 p3 p4 p5 p6 p7 p8 p9 p10 p11 p12 p13 f0 f1 f2 f3 f4 f5 f6 f7 f8 f9 f10 f11 f12 f13
 obtain ⟨p0,p1,p2,p3,p4,p5,p6,p7,p8,p9,p10,p11,p12,p13⟩:=cells14 M7.out.row
 obtain ⟨f0,f1,f2,f3,f4,f5,f6,f7,f8,f9,f10,f11,f12,f13⟩:=froz14 M7.out.row
 obtain ⟨r0,r1,r2,r3,r4,r5,r6,r7,r8,r9,r10,r11,r12,r13⟩:=cells14 M7.out.res
 obtain ⟨y0,y1,y2,y3,y4,y5,y6,y7,y8,y9,y10,y11,y12,y13⟩:=froz14 M7.out.res
 go_wp2_with fail
 have M8:=((((((M7.out.put 5 (.int .u64 M.d.t)).put 6 (.int .u64 M.d.cm)).put 7 (.bool M.d.so)).put 8 (.slice ki M.d.xs.length li)).put 9 (.slice ko M.d.ys.length lo)).put 10 (.int .i64 M.d.ir))
 have T1:=row_put14 M8.res (.int .u64 M.pc) (.slice kx M.x.length lx) (.int .i64 M.pr) (.slice kc M.cs.length lc) (.slice ar2 nr cr2) (.int .u64 M.d.t) (.int .u64 M.d.cm) (.bool M.d.so) (.slice ki M.d.xs.length li) (.slice ko M.d.ys.length lo) (.int .i64 M.d.ir) (.int .u64 M.hd) (.bool M.hl) (.bool M.wt)
 have F1:=M8.fam.put14 (w.heap.size+1) (.inl (by omega)) (.int .u64 M.pc) (.slice kx M.x.length lx) (.int .i64 M.pr) (.slice kc M.cs.length lc) (.slice ar2 nr cr2) (.int .u64 M.d.t) (.int .u64 M.d.cm) (.bool M.d.so) (.slice ki M.d.xs.length li) (.slice ko M.d.ys.length lo) (.int .i64 M.d.ir) (.int .u64 M.hd) (.bool M.hl) (.bool M.wt)
 have B1:=below_put14 M8.below (g:=w.heap.size+1) (by omega) (.int .u64 M.pc) (.slice kx M.x.length lx) (.int .i64 M.pr) (.slice kc M.cs.length lc) (.slice ar2 nr cr2) (.int .u64 M.d.t) (.int .u64 M.d.cm) (.bool M.d.so) (.slice ki M.d.xs.length li) (.slice ko M.d.ys.length lo) (.int .i64 M.d.ir) (.int .u64 M.hd) (.bool M.hl) (.bool M.wt)
 have hn:=HN.out
 refine bodyPost_ret (results_cell_row Tryz.results40 _ _ _ _ _ _ _ rfl T1 Tryz.underlying29 rfl mac_size) rfl ⟨⟨kx,lx,kc,lc,ar2,cr2,ki,li,ko,lo⟩,rfl,rfl,by rw [← hn];rfl,by rw [← hn] at HR;exact Fam.mid (L1:=[wRow kx M.x.length lx M.x,wRow kc M.cs.length lc M.cs]) (L2:=[bRow ki M.d.xs.length li M.d.xs,bRow ko M.d.ys.length lo M.d.ys]) (q:=bRow ar2 R.length cr2 R) (F1.low (Nat.le_refl _) (by simp only [size_set];exact Nat.le_refl _)) (HR.out.below B1) (by omega) (by have:=HB.out;omega) (by simp only [size_set];have:=M7.out.lt;omega),fun q hq k e=>?_,B1⟩
 simp only [mvF,ramM,List.mem_cons,List.not_mem_nil,or_false] at hq
 rcases hq with rfl | rfl | rfl | rfl | rfl
 ·exact .inl (by have:=((F1.own (wRow kx M.x.length lx M.x) (by simp)).lt k e).1;omega)
 ·exact .inl (by have:=((F1.own (wRow kc M.cs.length lc M.cs) (by simp)).lt k e).1;omega)
 ·exact .inr (by rw [← hn];exact e)
 ·exact .inl (by have:=((F1.own (bRow ki M.d.xs.length li M.d.xs) (by simp)).lt k e).1;omega)
 ·exact .inl (by have:=((F1.own (bRow ko M.d.ys.length lo M.d.ys) (by simp)).lt k e).1;omega)

end Go.Proofs.YtkhofppmeoooaaaGreatDoor
