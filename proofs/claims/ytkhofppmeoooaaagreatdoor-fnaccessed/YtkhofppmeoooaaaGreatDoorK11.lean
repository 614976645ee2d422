/- Own lemmas. -/
import Derived.Test.YtkhofppmeoooaaaGreatDoorK02
import Derived.Test.YtkhofppmeoooaaaGreatDoorK03
import Derived.Test.YtkhofppmeoooaaaGreatDoorK04
import Derived.Stop.Asserts
import Derived.Handy
import Derived.Deep.RegionHeld3
namespace Go.Proofs.YtkhofppmeoooaaaGreatDoor
open Go.RowKit
set_option linter.unusedVariables false

inductive CK where
 | plain (b:Int) | mst | mie | mip | satp | cfg | addr (e:Nat)

def CK.ty:CK→Nat
 | .plain _=>167 | .mst=>165 | .mie=>168 | .mip=>169 | .satp=>170 | .cfg=>171 | .addr _=>173

def CK.val:CK→Value
 | .plain b=>.agg #[.int .u64 b] | .mst=>.agg #[] | .mie=>.agg #[] | .mip=>.agg #[] | .satp=>.agg #[] | .cfg=>.agg #[] | .addr e=>.agg #[.int .i64 e]

def cks:List (Int × CK):=[(768,.mst),(770,.plain 46079),(771,.plain 546),(772,.mie),(773,.plain 18446744073709551613),(832,.plain 18446744073709551615),(833,.plain 18446744073709551612),(834,.plain 9223372036854775823),
 (835,.plain 18446744073709551615),(836,.mip),(261,.plain 18446744073709551613),(320,.plain 18446744073709551615),(321,.plain 18446744073709551612),(322,.plain 9223372036854775823),(323,.plain 18446744073709551615),(384,.satp),
 (928,.cfg),(944,.addr 0),(945,.addr 1),(946,.addr 2),(947,.addr 3),(2818,.plain 18446744073709551615)]

def ckCells (r:Int × CK):List Value:=[.int .i64 r.1,.iface r.2.ty r.2.val]

def csrCells:Array Value:=(cks.flatMap ckCells).toArray

def csrZero:Array Value:=(List.replicate 22 [Value.int .i64 0,.nilIface]).flatten.toArray

theorem csrZero_size:csrZero.size=44:=by kernel_rfl

theorem csrCells_size:csrCells.size=44:=by kernel_rfl

theorem csrZero_info:(Tryz.prog.info? 138).bind (·.zero)=some (.agg csrZero):=by kernel_rfl

theorem csrCells_one:csrCells.all (·.oneCell')=true:=by kernel_rfl

theorem csrRows_size:(Tryz.prog.info? 138).map (·.size)=some 44:=by kernel_rfl

def buildsM (P:Program):List Oper→Act→Option Act
 | [],a=>some a
 | o :: l,a =>
  match o.guard,o.op with
  | none,.build t parts =>
   match P.built t (parts.map fun (i,x)=>(i,a.eval x)).toList with
   | some cells=>buildsM P l (a.put o.dst (.agg cells))
   | none=>none
  | none,.makeInterface t x=>if P.concrete t=true then buildsM P l (a.put o.dst (.iface t (a.eval x))) else none
  | _,_=>none

theorem wpList_buildsM {P:Program} {ops:Array Oper} {Q:Exit→Act→World→Prop} {w:World}:∀ (l rest:List Oper) (a a':Act),buildsM P l a=some a'→wpList P ops Q rest a' w→wpList P ops Q (l ++ rest) a w:=by
 intro l
 induction l with
 | nil=>intro rest a a' h hr;simp [buildsM] at h;subst h;exact hr
 | cons o l ih =>
  intro rest a a' h hr
  unfold buildsM at h
  split at h
  ·rename_i t parts hg ho
   split at h
   ·rename_i cells hc
    exact wpList_buildTo hg t parts ho o.dst rfl cells hc (ih _ _ _ h hr)
   ·cases h
  ·rename_i t x hg ho
   split at h
   ·rename_i hc
    exact wpList_valTo hg o.dst rfl (.iface t (a.eval x)) (by simp [execOp,ho,run_makeInterface w t _ hc]) (ih _ _ _ h hr)
   ·cases h
  ·cases h

theorem wpList_buildsMTo {P:Program} {ops:Array Oper} {Q:Exit→Act→World→Prop} {w:World} {l:List Oper} {a:Act} (n s t:Nat) (v x:Value)
 (h:(buildsM P (l.take n) a).map (fun a'=>(a'.tmps.getD s undef,a'.tmps.getD t undef,a'.defers))=some (v,x,[]))
 (hr:∀ a':Act,a'.tmps.getD s undef=v→a'.tmps.getD t undef=x→a'.defers=[]→wpList P ops Q (l.drop n) a' w):wpList P ops Q l a w:=by
 rw [← List.take_append_drop n l]
 cases hb:buildsM P (l.take n) a with
 | none=>rw [hb] at h;cases h
 | some a' =>
  rw [hb] at h
  simp only [Option.map_some,Option.some.injEq,Prod.mk.injEq] at h
  exact wpList_buildsM _ _ _ _ hb (hr a' h.1 h.2.1 h.2.2)

set_option maxRecDepth 100000 in
set_option maxHeartbeats 4000000 in
theorem csrRows_any (w:World):Calls Tryz.prog 102 #[] w fun e w'=>e=.returned (.agg csrCells)∧Below w.heap.size w w':=by
 go_enter Tryz.func102,Tryz.ntmps102
 apply wp_seq_k;intro K0 hK0
 apply wp_region_list
 refine wpList_allocZ rfl 138 rfl (some 0) rfl _ csrZero_info ?_
 apply wpList_nil
 refine hK0 _ _ ?_
 clear hK0 K0
 apply wp_seq_k;intro K0 hK0
 apply wp_region_lit
 refine wpList_buildsMTo 67 0 67 (.pointer (some ⟨w.heap.size,0,none⟩)) (.agg csrCells) (by kernel_rfl) ?_
 intro a' h0 h99 hd
 have hg:(w.alloc (.cells (Value.agg csrZero).cells 138)).heap[w.heap.size]?=some (.cells csrZero 138 (0,0)):=heap_alloc_new _ _
 refine wpList_store_rowTo rfl 138 (.tmp 0) (.tmp 67) rfl rfl w.heap.size csrCells h0 h99 138 csrZero hg (by rw [csrRows_size,csrCells_size]) (by rw [csrZero_size,csrCells_size]) csrCells_one ?_
 apply wpList_nil
 refine hK0 _ _ ?_
 clear hK0 K0
 apply wp_ret
 refine bodyPost_ret (results_cell_row Tryz.results102 _ _ _ _ _ _ _ h0 (setRow_heap _ _ _ _ _ _ hg) Tryz.underlying138 rfl (by rw [csrRows_size,csrCells_size])) hd ⟨rfl,?_⟩
 exact below_setRow ((Below.refl _ _).alloc (Nat.le_refl _) _) (Nat.le_refl _) _

theorem csrRows_T (w:World):Calls Tryz.prog 102 #[] w fun e w'=>∃ T,e=.returned T∧Hid (T=.agg csrCells)∧Below w.heap.size w w' :=
 (csrRows_any w).mono fun e w' h=>⟨.agg csrCells,h.1,(rfl:Value.agg csrCells=.agg csrCells),h.2⟩

theorem cks_len:cks.length=22:=by rfl

def ckAt (k:Nat):Int × CK:=cks.getD k (0,.mst)

theorem ckAt_get (k:Nat) (h:k < 22):cks[k]'(by rw [cks_len];exact h)=ckAt k:=by
 simp [ckAt,List.getD,List.getElem?_eq_getElem (show k < cks.length by rw [cks_len];exact h)]

theorem csrCells_part (k:Nat) (h:k < 22):csrCells.extract (k*2) (k*2+2)=(ckCells (ckAt k)).toArray:=by
 have:=flat_drop ckCells 2 cks (by intro x _;rfl) k (by rw [cks_len];exact h)
 rw [ckAt_get k h] at this
 rw [← this]
 simp [csrCells]

theorem run_indexC (w:World) (kk:IntKind) (k:Nat) (hk:k < 22):(Instr.index 138 (.agg csrCells) (.int kk (k:Int))).run Tryz.prog w=.ok (.agg #[.int .i64 (ckAt k).1,.iface (ckAt k).2.ty (ckAt k).2.val]) w:=by
 have hs:(sizeOf 137).run Tryz.prog w=.ok 2 w:=by
  obtain ⟨i0,hi,hz1⟩:∃ i,Tryz.prog.info? 137=some i∧i.size=2:=by
   have h:(Tryz.prog.info? 137).map (·.size)=some 2:=by kernel_rfl
   cases hq:Tryz.prog.info? 137 with
   | none=>rw [hq] at h;cases h
   | some i=>rw [hq] at h;exact ⟨i,rfl,by simpa using h⟩
  simp [sizeOf,typeInfo,hi,hz1]
 have ha:(isAgg 137).run Tryz.prog w=.ok true w:=by
  simp [isAgg,run_underlying Tryz.underlying137]
 have hb:(0:Int)≤(k:Int)∧(k:Int) < ((22:Nat):Int):=by omega
 unfold Instr.index
 simp only [asIntOf,Sem.run_bind,Sem.run_pure,Result.andThen_ok,run_underlying Tryz.underlying138]
 rw [if_pos hb]
 simp only [Sem.run_bind,hs,Result.andThen_ok,part,ha,Int.toNat_natCast,if_true,Sem.run_pure]
 rw [csrCells_part k hk]
 rfl

theorem wpList_indexC {ops:Array Oper} {rest:List Oper} {o:Oper} {a:Act} {w:World} {Q:Exit→Act→World→Prop} {T:Value} (hT:Hid (T=.agg csrCells)) (kk:IntKind) (k:Nat) (hk:k < 22) (r:Int × CK) (hr:Hid (r=ckAt k)) (hg:o.guard=none) (x i:Operand) (ho:o.op=.index 138 x i)
 (hx:a.eval x=T) (hi:a.eval i=.int kk (k:Int))
 (h:wpList Tryz.prog ops Q rest (a.put o.dst (.agg #[.int .i64 r.1,.iface r.2.ty r.2.val])) w):wpList Tryz.prog ops Q (o :: rest) a w:=by
 refine wpList_plain hg fun K hK=>?_
 have hrun:(execOp a.eval o).run Tryz.prog w=.ok (.value (.agg #[.int .i64 r.1,.iface r.2.ty r.2.val])) w:=by
  simp [execOp,ho,hx,hi,hT.out,hr.out,run_indexC w kk k hk]
 unfold Oper.wp
 rw [hrun,Oper.upon_value]
 exact hK _ _ h

end Go.Proofs.YtkhofppmeoooaaaGreatDoor

namespace Go.Proofs.YtkhofppmeoooaaaGreatDoor
open Go.RowKit
set_option linter.unusedVariables false

def modeB (x:Int):Bool:=(fld x 60 4==0)||(fld x 60 4==8)

def byteI (x:Int) (k:Nat):Int:=if (bits .and .u64 (bits .and .u64 (fld x (8*k) 8) 159) 1==0)=true then bits .andNot .u64 (bits .and .u64 (fld x (8*k) 8) 159) 2 else bits .and .u64 (fld x (8*k) 8) 159

def cfgI (x:Int):Nat→Int
 | 0=>0
 | k+1=>bits .or .u64 (cfgI x k) (IntKind.u64.wrap (byteI x k*2 ^ (8*k)))

def fitV:CK→Int→Int
 | .plain b,x=>bits .and .u64 x b
 | .mst,x=>if (bits .and .u64 x 6144==4096)=true then bits .andNot .u64 (bits .and .u64 x 924074) 6144 else bits .and .u64 x 924074
 | .mie,x=>bits .and .u64 x 2730
 | .mip,x=>bits .and .u64 x 2730
 | .satp,x=>if modeB x=true then x else 0
 | .cfg,x=>cfgI x 4
 | .addr _,x=>bits .and .u64 x 18014398509481983

def reachI (c:Int) (e:Nat):Int:=fld c (8*e+3) 2

def CK.fitF:CK→Nat
 | .plain _=>166 | .mst=>165 | .mie=>167 | .mip=>168 | .satp=>169 | .cfg=>171 | .addr _=>172

theorem satpModeOk_any (x:Int) (h0:0≤x) (h1:x < 18446744073709551616) (w:World):Calls Tryz.prog 170 #[.int .u64 x] w fun e w'=>e=.returned (.bool (modeB x))∧w'=w.drew:=by
 have HB:Hid (∀ w,Calls Tryz.prog 28 #[.int .u64 x,.int .i64 60,.int .i64 4] w fun e w'=>e=.returned (.int .u64 (fld x 60 4))∧w'=w.drew):=fun w=>bitsAt_any x 60 4 h0 h1 (by omega) (by omega) w
 have F:Hid (modeB x=((fld x 60 4==0)||(fld x 60 4==8))):=(rfl:modeB x=_)
 generalize fld x 60 4=y at *
 cases d0:(y==0) with
 | true =>
  rw [d0] at F
  go_enter Tryz.func170,Tryz.ntmps170
  go_wp2_with fail
  refine (HB.out _).mono ?_
  rintro e w1 ⟨rfl,hw1⟩
  subst hw1
  go_wp2_with fail
  go_ret
  exact ⟨by rw [F.out];rfl,rfl⟩
 | false =>
  rw [d0] at F
  go_enter Tryz.func170,Tryz.ntmps170
  go_wp2_with fail
  refine (HB.out _).mono ?_
  rintro e w1 ⟨rfl,hw1⟩
  subst hw1
  go_wp2_with fail
  go_ret
  exact ⟨by rw [F.out];rfl,rfl⟩

theorem pmpByte_any (x:Int) (k:Nat) (hk:k < 5) (h0:0≤x) (h1:x < 18446744073709551616) (w:World):Calls Tryz.prog 134 #[.int .u64 x,.int .i64 k] w fun e w'=>e=.returned (.int .u64 (fld x (8*k) 8))∧w'=w.drew:=by
 obtain ⟨q,hq⟩:∃ q,8*k=q:=⟨_,rfl⟩
 have hm:wrap64 (8*(k:Int))=(q:Int):=by unfold wrap64;omega
 rw [hq]
 have HB:Hid (∀ w,Calls Tryz.prog 28 #[.int .u64 x,.int .i64 q,.int .i64 8] w fun e w'=>e=.returned (.int .u64 (fld x q 8))∧w'=w.drew):=fun w=>bitsAt_any x q 8 h0 h1 (by omega) (by omega) w
 clear hq hk
 generalize fld x q 8=y at *
 go_enter Tryz.func134,Tryz.ntmps134
 go_wp2_with fail
 refine (HB.out _).mono ?_
 rintro e w1 ⟨rfl,hw1⟩
 subst hw1
 go_wp2_with fail
 go_ret
 exact ⟨rfl,rfl⟩

theorem pmpReach_any (x:Int) (k:Nat) (hk:k < 5) (h0:0≤x) (h1:x < 18446744073709551616) (w:World):Calls Tryz.prog 139 #[.int .u64 x,.int .i64 k] w fun e w'=>e=.returned (.int .u64 (reachI x k))∧w'=w.drew:=by
 obtain ⟨q,hq⟩:∃ q,8*k+3=q:=⟨_,rfl⟩
 obtain ⟨q2,hq2⟩:∃ q2,8*k=q2:=⟨_,rfl⟩
 have hm:wrap64 (8*(k:Int))=(q2:Int):=by unfold wrap64;omega
 have hm2:wrap64 ((q2:Int)+3)=(q:Int):=by unfold wrap64;omega
 unfold reachI
 rw [hq]
 have HB:Hid (∀ w,Calls Tryz.prog 28 #[.int .u64 x,.int .i64 q,.int .i64 2] w fun e w'=>e=.returned (.int .u64 (fld x q 2))∧w'=w.drew):=fun w=>bitsAt_any x q 2 h0 h1 (by omega) (by omega) w
 clear hq hq2 hk
 generalize fld x q 2=y at *
 go_enter Tryz.func139,Tryz.ntmps139
 go_wp2_with fail
 refine (HB.out _).mono ?_
 rintro e w1 ⟨rfl,hw1⟩
 subst hw1
 go_wp2_with fail
 go_ret
 exact ⟨rfl,rfl⟩

theorem fit_plain (b x:Int) (w:World):Calls Tryz.prog 166 #[.agg #[.int .u64 b],.int .u64 x] w fun e w'=>e=.returned (.int .u64 (bits .and .u64 x b))∧Below w.heap.size w w':=by
 go_enter Tryz.func166,Tryz.ntmps166
 go_wp2_with fail
 go_ret
 exact ⟨rfl,(Below.refl _ _).alloc (Nat.le_refl _) _⟩

theorem fit_addr (e:Nat) (x:Int) (w:World):Calls Tryz.prog 172 #[.agg #[.int .i64 e],.int .u64 x] w fun e w'=>e=.returned (.int .u64 (bits .and .u64 x 18014398509481983))∧Below w.heap.size w w':=by
 go_enter Tryz.func172,Tryz.ntmps172
 go_wp2_with fail
 go_ret
 exact ⟨rfl,(Below.refl _ _).alloc (Nat.le_refl _) _⟩

theorem fit_mie (x:Int) (w:World):Calls Tryz.prog 167 #[.agg #[],.int .u64 x] w fun e w'=>e=.returned (.int .u64 (bits .and .u64 x 2730))∧Below w.heap.size w w':=by
 go_enter Tryz.func167,Tryz.ntmps167
 go_wp2_with fail
 go_ret
 exact ⟨rfl,by go_grown⟩

theorem fit_mip (x:Int) (w:World):Calls Tryz.prog 168 #[.agg #[],.int .u64 x] w fun e w'=>e=.returned (.int .u64 (bits .and .u64 x 2730))∧Below w.heap.size w w':=by
 go_enter Tryz.func168,Tryz.ntmps168
 go_wp2_with fail
 go_ret
 exact ⟨rfl,by go_grown⟩

theorem fit_mst (x:Int) (w:World):Calls Tryz.prog 165 #[.agg #[],.int .u64 x] w fun e w'=>e=.returned (.int .u64 (fitV .mst x))∧Below w.heap.size w w':=by
 have F0:fitV .mst x=if (bits .and .u64 x 6144==4096)=true then bits .andNot .u64 (bits .and .u64 x 924074) 6144 else bits .and .u64 x 924074:=rfl
 cases d:(bits .and .u64 x 6144==4096) with
 | true =>
  rw [if_pos d] at F0
  have F:Hid (fitV .mst x=bits .andNot .u64 (bits .and .u64 x 924074) 6144):=F0
  clear F0
  go_enter Tryz.func165,Tryz.ntmps165
  go_wp2_with fail
  go_ret
  exact ⟨by rw [F.out];rfl,by go_grown⟩
 | false =>
  rw [if_neg (by rw [d];decide)] at F0
  have F:Hid (fitV .mst x=bits .and .u64 x 924074):=F0
  clear F0
  go_enter Tryz.func165,Tryz.ntmps165
  go_wp2_with fail
  go_ret
  exact ⟨by rw [F.out];rfl,by go_grown⟩

theorem fit_satp (x:Int) (h0:0≤x) (h1:x < 18446744073709551616) (w:World):Calls Tryz.prog 169 #[.agg #[],.int .u64 x] w fun e w'=>e=.returned (.int .u64 (fitV .satp x))∧Below w.heap.size w w':=by
 have HB:Hid (∀ w,Calls Tryz.prog 170 #[.int .u64 x] w fun e w'=>e=.returned (.bool (modeB x))∧w'=w.drew):=fun w=>satpModeOk_any x h0 h1 w
 have F0:fitV .satp x=if modeB x=true then x else 0:=rfl
 cases d:modeB x with
 | true =>
  rw [if_pos d] at F0
  rw [d] at HB
  have F:Hid (fitV .satp x=x):=F0
  clear F0
  go_enter Tryz.func169,Tryz.ntmps169
  go_wp2_with fail
  refine (HB.out _).mono ?_
  rintro e w1 ⟨rfl,hw1⟩
  subst hw1
  go_wp2_with fail
  go_ret
  exact ⟨by rw [F.out];rfl,by go_grown⟩
 | false =>
  rw [if_neg (by rw [d];decide)] at F0
  rw [d] at HB
  have F:Hid (fitV .satp x=0):=F0
  clear F0
  go_enter Tryz.func169,Tryz.ntmps169
  go_wp2_with fail
  refine (HB.out _).mono ?_
  rintro e w1 ⟨rfl,hw1⟩
  subst hw1
  go_wp2_with fail
  go_ret
  exact ⟨by rw [F.out];rfl,by go_grown⟩

set_option maxHeartbeats 800000 in
theorem fit_cfg (x:Int) (h0:0≤x) (h1:x < 18446744073709551616) (w:World):Calls Tryz.prog 171 #[.agg #[],.int .u64 x] w fun e w'=>e=.returned (.int .u64 (fitV .cfg x))∧Below w.heap.size w w':=by
 have HB:Hid (∀ k:Nat,k < 5→∀ w,Calls Tryz.prog 134 #[.int .u64 x,.int .i64 k] w fun e w'=>e=.returned (.int .u64 (fld x (8*k) 8))∧w'=w.drew):=fun k hk w=>pmpByte_any x k hk h0 h1 w
 have FE:Hid (fitV .cfg x=cfgI x 4):=(rfl:fitV .cfg x=_)
 go_enter Tryz.func171,Tryz.ntmps171
 go_wp2_with fail
 go_loopw [5,8] (fun y i wr=>∃ k:Nat,k≤4∧i=.int .i64 k∧y=.int .u64 (cfgI x k)∧Below w.heap.size w wr)
  (fun _ i _=>4 - (intOf i).toNat)
 case atStart=>exact ⟨0,by omega,rfl,rfl,by go_grown⟩
 case round =>
  obtain ⟨k,hk,rfl,rfl,hbel⟩:=hrel
  by_cases hlt:k < 4
  ·have F0:cfgI x (k+1)=bits .or .u64 (cfgI x k) (IntKind.u64.wrap (byteI x k*2 ^ (8*k))):=rfl
   unfold byteI at F0
   have HB2:=HB.out k (by omega)
   generalize fld x (8*k) 8=z at *
   obtain ⟨q,hq⟩:∃ q,8*k=q:=⟨_,rfl⟩
   have hm:wrap64 (8*(k:Int))=(q:Int):=by unfold wrap64;omega
   have hq64:q < 64:=by omega
   rw [hq] at F0
   have d:decide ((k:Int) < 4)=true:=by simp;omega
   obtain ⟨b,hb⟩:∃ b,bits .and .u64 z 159=b:=⟨_,rfl⟩
   obtain ⟨y,hy⟩:∃ y,y=cfgI x k:=⟨_,rfl⟩
   rw [hb,← hy] at F0
   rw [← hy]
   cases hc:(bits .and .u64 b 1==0) with
   | true =>
    rw [if_pos hc] at F0
    have F:Hid (cfgI x (k+1)=bits .or .u64 y (IntKind.u64.wrap (bits .andNot .u64 b 2*2 ^ q))):=F0
    have HB3:Hid (∀ w,Calls Tryz.prog 134 #[.int .u64 x,.int .i64 k] w fun e w'=>e=.returned (.int .u64 z)∧w'=w.drew):=HB2
    have HQ:Hid (8*k=q):=hq
    clear F0 hy HB2 hq
    go_wp2_with fail
    refine (HB3.out _).mono ?_
    rintro e w1 ⟨rfl,hw1⟩
    subst hw1
    go_wp2_with fail
    go_roundw
    case rel=>exact ⟨k+1,by omega,by go_num,by rw [F.out,HQ.out],hbel.drew⟩
    case measure=>simp [intOf];omega
   | false =>
    rw [if_neg (by rw [hc];decide)] at F0
    have F:Hid (cfgI x (k+1)=bits .or .u64 y (IntKind.u64.wrap (b*2 ^ q))):=F0
    have HB3:Hid (∀ w,Calls Tryz.prog 134 #[.int .u64 x,.int .i64 k] w fun e w'=>e=.returned (.int .u64 z)∧w'=w.drew):=HB2
    have HQ:Hid (8*k=q):=hq
    clear F0 hy HB2 hq
    go_wp2_with fail
    refine (HB3.out _).mono ?_
    rintro e w1 ⟨rfl,hw1⟩
    subst hw1
    go_wp2_with fail
    go_roundw
    case rel=>exact ⟨k+1,by omega,by go_num,by rw [F.out,HQ.out],hbel.drew⟩
    case measure=>simp [intOf];omega
  ·have hk4:k=4:=by omega
   subst hk4
   generalize cfgI x 4=y at *
   go_wp2_with fail
   go_ret
   exact ⟨by rw [FE.out];rfl,hbel⟩

theorem fit_any (k:CK) (x:Int) (h0:0≤x) (h1:x < 18446744073709551616) (w:World):Calls Tryz.prog k.fitF #[k.val,.int .u64 x] w fun e w'=>e=.returned (.int .u64 (fitV k x))∧Below w.heap.size w w':=by
 cases k with
 | plain b=>exact fit_plain b x w
 | mst=>exact fit_mst x w
 | mie=>exact fit_mie x w
 | mip=>exact fit_mip x w
 | satp=>exact fit_satp x h0 h1 w
 | cfg=>exact fit_cfg x h0 h1 w
 | addr e=>exact fit_addr e x w

end Go.Proofs.YtkhofppmeoooaaaGreatDoor

namespace Go.Proofs.YtkhofppmeoooaaaGreatDoor
open Go.RowKit
set_option linter.unusedVariables false

end Go.Proofs.YtkhofppmeoooaaaGreatDoor

namespace Go.Proofs.YtkhofppmeoooaaaGreatDoor
open Go.RowKit
set_option linter.unusedVariables false

def fitsRest (l:List Int):Nat→Nat→Bool
 | 0,_=>true
 | n+1,k=>(fitV (ckAt k).2 (l.getD k 0)==l.getD k 0)&&fitsRest l n (k+1)

def fitsOk (n:Nat) (l:List Int):Bool:=decide (n=22)&&fitsRest l 22 0

theorem fitsRest_yes (l:List Int) (k:Nat) (hk:k < 22) (h:(fitV (ckAt k).2 (l.getD k 0)==l.getD k 0)=true):fitsRest l (22 - k) k=fitsRest l (22 - (k+1)) (k+1):=by
 rw [show 22 - k=(22 - (k+1))+1 from by omega,fitsRest,h,Bool.true_and]

theorem fitsRest_no (l:List Int) (k:Nat) (hk:k < 22) (h:(fitV (ckAt k).2 (l.getD k 0)==l.getD k 0)=false):fitsRest l (22 - k) k=false:=by
 rw [show 22 - k=(22 - (k+1))+1 from by omega,fitsRest,h,Bool.false_and]

theorem fit_found (k:CK) (w:World):(method 308 k.ty k.val "loop.example/g00134/impl.fit").run Tryz.prog w=.ok (k.fitF,k.val) w:=by cases k<;>kernel_rfl

theorem enters_g {n:Nat} (h:(Tryz.prog.funcs[n]?).map (fun fn=>(fn.name == "runtime.NumGoroutine",fn.body.isSome))=some (false,true)) (args:Array Value) (w:World):(callFunc n args).run Tryz.prog w=.ok (.enter n args) w:=by
 cases hf:Tryz.prog.funcs[n]? with
 | none=>rw [hf] at h;cases h
 | some fn =>
  rw [hf] at h
  simp only [Option.map_some,Option.some.injEq,Prod.mk.injEq] at h
  have h1:fn.name≠ "runtime.NumGoroutine":=by simpa using h.1
  obtain ⟨c,hc⟩:=Option.isSome_iff_exists.mp h.2
  simp [callFunc,hf,h1,hc,mark]

theorem fit_enters (k:CK):(Tryz.prog.funcs[k.fitF]?).map (fun fn=>(fn.name == "runtime.NumGoroutine",fn.body.isSome))=some (false,true):=by cases k<;>kernel_rfl

theorem fit_keeps (k:CK) (x:Int) (h0:0≤x) (h1:x < 18446744073709551616) (w:World) (p q:Addr) (u v:Value) (hp:w.cell? p=some u∧w.cell? q=some v) :
 Calls Tryz.prog k.fitF #[k.val,.int .u64 x] w fun e w'=>e=.returned (.int .u64 (fitV k x))∧Below w.heap.size w w'∧w'.cell? p=some u∧w'.cell? q=some v :=
 (fit_any k x h0 h1 w).mono fun e w' h=>⟨h.1,h.2,(h.2.cell (World.block_lt_of_cell? _ _ hp.1)).trans hp.1,(h.2.cell (World.block_lt_of_cell? _ _ hp.2)).trans hp.2⟩

set_option maxRecDepth 100000 in
set_option maxHeartbeats 800000 in
theorem implCsrsOk_any (a:Option Addr) (n cap:Nat) (l:List Int) (w:World) (hz:l.length=n) (hs:Sl .u64 w a l) (hl:∀ j,0≤l.getD j 0∧l.getD j 0 < 18446744073709551616) :
 Calls Tryz.prog 66 #[.slice a n cap] w fun e w'=>e=.returned (.bool (fitsOk n l))∧Below w.heap.size w w':=by
 by_cases hn:n=22
 ·have hok:fitsOk n l=fitsRest l 22 0:=by simp [fitsOk,hn]
  rw [hok]
  have HZ:Hid (l.length=n):=hz
  have HL:Hid (∀ j,0≤l.getD j 0∧l.getD j 0 < 18446744073709551616):=hl
  subst hn
  clear hz hok hl
  go_enter Tryz.func66,Tryz.ntmps66
  go_wp2_with fail
  refine (csrRows_T _).mono ?_
  rintro e w1 ⟨T,rfl,HT,hb⟩
  go_wp2_with fail
  go_loopw [9] (fun i wr=>∃ k:Nat,k≤22∧i=.int .i64 k∧Hid (fitsRest l (22 - k) k=fitsRest l 22 0)∧Below w.heap.size w wr)
   (fun i _=>22 - (intOf i).toNat)
  case atStart=>exact ⟨0,by omega,rfl,(rfl:fitsRest l (22 - 0) 0=fitsRest l 22 0),hb⟩
  case round =>
   obtain ⟨k,hk,rfl,hf,hbel⟩:=hrel
   by_cases hlt:k < 22
   ·obtain ⟨b,off,rfl,hb0,hc⟩:=hs k (by rw [HZ.out];exact hlt)
    have hx:=HL.out k
    obtain ⟨r,hr⟩:∃ r,r=ckAt k:=⟨_,rfl⟩
    have HR:Hid (r=ckAt k):=hr
    have Yes:(fitV r.2 (l.getD k 0)==l.getD k 0)=true→Hid (fitsRest l (22 - (k+1)) (k+1)=fitsRest l 22 0):=fun h=>(fitsRest_yes l k hlt (by rw [← hr];exact h)).symm.trans hf.out
    have No:(fitV r.2 (l.getD k 0)==l.getD k 0)=false→Hid (fitsRest l 22 0=false):=fun h=>hf.out.symm.trans (fitsRest_no l k hlt (by rw [← hr];exact h))
    have YES:Hid ((fitV r.2 (l.getD k 0)==l.getD k 0)=true→Hid (fitsRest l (22 - (k+1)) (k+1)=fitsRest l 22 0)):=Yes
    have NO:Hid ((fitV r.2 (l.getD k 0)==l.getD k 0)=false→Hid (fitsRest l 22 0=false)):=No
    clear hr Yes No
    have dk:decide ((k:Int) < 22)=true:=by simp;omega
    have hk0:(0:Int)≤(k:Int):=by omega
    have hk1:(k:Int) < 22:=by omega
    have mf:=fit_found r.2
    have en:=enters_g (fit_enters r.2)
    have hcx:wr.cell? ⟨b,off+k,none⟩=some (.int .u64 (l.getD k 0)):=(hbel.cell (by exact hb0)).trans hc
    generalize l.getD k 0=x at *
    go_wp2_with (first | refine wpList_indexC HT .i64 k hlt r HR rfl (.tmp 8) (.tmp 9) rfl rfl rfl ?_)
    go_region_held3 (fun w'=>w'.cell? ⟨wr.heap.size,1,none⟩=some (.iface r.2.ty r.2.val)∧w'.cell? ⟨b,off+k,none⟩=some (.int .u64 x)) (go_keep) (first | (refine (fit_keeps r.2 x hx.1 hx.2 _ ⟨wr.heap.size,1,none⟩ ⟨b,off+k,none⟩ (.iface r.2.ty r.2.val) (.int .u64 x) ?_).mono ?_;(first | assumption | (simp [*]));rintro e w2 ⟨rfl,hb2,hp2,hq2⟩))
    have B2:Hid (Below w.heap.size w w2):=by
     show Below _ _ _
     refine below_trans (w1:=(wr.alloc (Obj.cells #[.int .i64 r.1,.iface r.2.ty r.2.val] 137)).drew) ?_ hb2
     exact (hbel.alloc hbel.size _).drew
    clear hb2 hp2 hq2 mf en
    obtain ⟨y,hy⟩:∃ y,fitV r.2 x=y:=⟨_,rfl⟩
    rw [hy] at YES NO ⊢
    clear hy
    cases d:(y==x) with
    | true =>
     have F:=YES.out d
     have d2:(y != x)=false:=by simp [bne,d]
     clear YES NO d
     rw [d2]
     go_wp2_with fail
     go_roundw
     case rel=>exact ⟨k+1,by omega,by go_num,F,B2.out⟩
     case measure=>simp [intOf];omega
    | false =>
     have F:=NO.out d
     have d2:(y != x)=true:=by simp [bne,d]
     clear YES NO d
     rw [d2]
     go_wp2_with fail
     go_ret
     exact ⟨by rw [F.out];rfl,B2.out⟩
   ·have hk2:k=22:=by omega
    subst hk2
    have F:Hid (fitsRest l 22 0=true):=hf.out.symm
    go_wp2_with fail
    go_ret
    exact ⟨by rw [F.out];rfl,hbel⟩
 ·have F:Hid (fitsOk n l=false):=by show _=_;simp [fitsOk,hn]
  have d:((n:Int) != 22)=true:=by simp;omega
  clear hz hs
  go_enter Tryz.func66,Tryz.ntmps66
  go_wp2_with fail
  go_ret
  exact ⟨by rw [F.out];rfl,Below.refl _ _⟩

theorem heap_setCell {w:World} {g:Nat} {cs:Array Value} {t:TypeId} {fr:Nat × Nat} (h:w.heap[g]?=some (.cells cs t fr)) (i:Nat) (v:Value) :
 (w.setCell ⟨g,i,none⟩ v).heap[g]?=some (.cells (cs.setIfInBounds i v) t fr):=by
 simp [World.setCell,Array.getElem?_modify,h]

end Go.Proofs.YtkhofppmeoooaaaGreatDoor

namespace Go.Proofs.YtkhofppmeoooaaaGreatDoor
open Go.RowKit
set_option linter.unusedVariables false

theorem privOk_any (p:Int) (w:World):Calls Tryz.prog 67 #[.int .i64 p] w fun e w'=>e=.returned (.bool (privB p))∧w'=w:=by
 have F:Hid (privB p=((p==0)||(p==1)||(p==3))):=(rfl:privB p=_)
 cases d0:(p==0) with
 | true =>
  rw [d0] at F
  go_enter Tryz.func67,Tryz.ntmps67
  go_wp2_with fail
  go_ret
  exact ⟨by rw [F.out];rfl,rfl⟩
 | false =>
  cases d1:(p==1) with
  | true =>
   rw [d0,d1] at F
   go_enter Tryz.func67,Tryz.ntmps67
   go_wp2_with fail
   go_ret
   exact ⟨by rw [F.out];rfl,rfl⟩
  | false =>
   rw [d0,d1] at F
   go_enter Tryz.func67,Tryz.ntmps67
   go_wp2_with fail
   go_ret
   exact ⟨by rw [F.out];rfl,rfl⟩

end Go.Proofs.YtkhofppmeoooaaaGreatDoor

namespace Go.Proofs.YtkhofppmeoooaaaGreatDoor
open Go.RowKit
set_option linter.unusedVariables false

theorem specNewCsrs_any (w:World):Calls Tryz.prog 108 #[] w fun e w'=>e=.returned (.slice (some ⟨w.heap.size,0,none⟩) 22 22) ∧
 w'.ownsRow w.heap.size 24 1 (.slice (some ⟨w.heap.size,0,none⟩) 22 22) 22 ((List.replicate 22 (0:Int)).map (Value.int .u64))∧Below w.heap.size w w':=by
 obtain ⟨i0,hi,hz0,hz1,hz2⟩:=info_parts infoW
 have hb2:i0.bytes*22≤281474976710656:=by rw [hz2];omega
 have hb3:22≤maxLen:=by unfold maxLen;omega
 clear hz2
 go_enter Tryz.func108,Tryz.ntmps108
 go_wp2_with (at_make;refine wpList_make_full _ rfl (.const (.int .i64 22)) (.const (.int .i64 22)) 25 rfl w.heap.size 24 i0 (.int .u64 0) 1 Tryz.underlying25 hi hz0 hz1 .i64 .i64 _ _ 22 rfl rfl rfl rfl hb2 hb3 (Nat.le_refl _) ?_;intro w1 hown hgrow)
 go_ret
 refine ⟨rfl,?_,(Below.refl _ _).grown hgrow (Nat.le_refl _) (by intro k h;cases h)⟩
 have e:(List.replicate 22 (0:Int)).map (Value.int .u64)=List.replicate 22 (.int .u64 0):=by simp
 rw [e,← toList_madeCells_one];simpa [Value.cells] using hown

end Go.Proofs.YtkhofppmeoooaaaGreatDoor

namespace Go.Proofs.YtkhofppmeoooaaaGreatDoor
open Go.RowKit
set_option linter.unusedVariables false

theorem bit11:∀ i,i < 64→∀ (p q:Bool) (o:Bool),(((if i=0 then p else if i=1 then q else o)&&bt 924074 (i+11))&&bt 3 i)=bt ((if p=true then 1 else 0)+(if q=true then 2 else 0)) i:=by decide +kernel

theorem bit12:∀ i,i < 64→∀ (p q:Bool) (o:Bool),((if i=11 then p else if i=12 then q else o)&&bt 6144 i)=bt ((if p=true then 2048 else 0)+(if q=true then 4096 else 0)) i:=by decide +kernel

theorem mst_eq (x:Int) (h:U x):fitV .mst x=mst x:=by
 have e1:bits .and .u64 (bits .and .u64 x 924074 / 2048) 3=(if bt x 11=true then 1 else 0)+(if bt x 12=true then 2 else 0):=by
  refine bt_ext _ _ (U_bits _ _ _) (by constructor<;>(cases bt x 11<;>cases bt x 12<;>decide)) fun i hi=>?_
  have hd:=bt_div (bits .and .u64 x 924074) (U_bits _ _ _) 11 i
  rw [show ((2:Int) ^ 11)=2048 from by decide] at hd
  rw [bt_and,hd,bt_and,← bit11 i hi (bt x 11) (bt x 12) (bt x (i+11))]
  by_cases h0:i=0
  ·subst h0;rfl
  ·by_cases h1:i=1
   ·subst h1;rfl
   ·rw [if_neg h0,if_neg h1]
 have e2:bits .and .u64 x 6144=(if bt x 11=true then 2048 else 0)+(if bt x 12=true then 4096 else 0):=by
  refine bt_ext _ _ (U_bits _ _ _) (by constructor<;>(cases bt x 11<;>cases bt x 12<;>decide)) fun i hi=>?_
  rw [bt_and,← bit12 i hi (bt x 11) (bt x 12) (bt x i)]
  by_cases h0:i=11
  ·subst h0;rfl
  ·by_cases h1:i=12
   ·subst h1;rfl
   ·rw [if_neg h0,if_neg h1]
 show (if (bits .and .u64 x 6144==4096)=true then bits .andNot .u64 (bits .and .u64 x 924074) 6144 else bits .and .u64 x 924074)=mst x
 unfold mst
 rw [e1,e2]
 cases bt x 11<;>cases bt x 12<;>rfl

theorem lit2:∀ i,i < 64→∀ a:Bool,(a&&bt 18446744073709551613 i)=(a&&!bt 2 i):=by decide +kernel

theorem lit3:∀ i,i < 64→∀ a:Bool,(a&&bt 18446744073709551612 i)=(a&&!bt 3 i):=by decide +kernel

theorem litAll:∀ i,i < 64→bt 18446744073709551615 i=true:=by decide +kernel

theorem lit159:∀ i,i < 64→∀ a:Bool,((decide (i < 8)&&a)&&bt 159 i)=(a&&bt 159 i):=by decide +kernel

theorem not2 (x:Int):bits .and .u64 x 18446744073709551613=bits .andNot .u64 x 2 :=
 bt_ext _ _ (U_bits _ _ _) (U_bits _ _ _) fun i hi=>by rw [bt_and,bt_andNot _ _ _ hi];exact lit2 i hi _

theorem not3 (x:Int):bits .and .u64 x 18446744073709551612=bits .andNot .u64 x 3 :=
 bt_ext _ _ (U_bits _ _ _) (U_bits _ _ _) fun i hi=>by rw [bt_and,bt_andNot _ _ _ hi];exact lit3 i hi _

theorem and_all (x:Int) (h:U x):bits .and .u64 x 18446744073709551615=x :=
 bt_ext _ _ (U_bits _ _ _) h fun i hi=>by rw [bt_and,litAll i hi,Bool.and_true]

theorem byte_eq (x:Int) (h:U x) (k:Nat):byteI x k=cfgByte x k:=by
 have e:bits .and .u64 (fld x (8*k) 8) 159=bits .and .u64 (x / 2 ^ (8*k)) 159 :=
  bt_ext _ _ (U_bits _ _ _) (U_bits _ _ _) fun i hi=>by
   rw [bt_and,bt_and,bt_fld x h _ _ _ (by omega),bt_div x h];exact lit159 i hi _
 unfold byteI cfgByte
 rw [e]

theorem cfg_eq (x:Int) (h:U x) (k:Nat):cfgI x k=cfgSum x k:=by
 induction k with
 | zero=>rfl
 | succ k ih=>rw [cfgI,cfgSum,ih,byte_eq x h]

theorem fit_legal (x:Int) (h:U x) (k:Nat) (hk:k < 22) (h9:k≠9) (h15:k≠15):fitV (ckAt k).2 x=legal k x:=by
 have:k=0∨k=1∨k=2∨k=3∨k=4∨k=5∨k=6∨k=7∨k=8∨k=10∨k=11∨k=12∨k=13∨k=14∨k=16∨k=17∨k=18∨k=19∨k=20∨k=21:=by omega
 rcases this with rfl | rfl | rfl | rfl | rfl | rfl | rfl | rfl | rfl | rfl | rfl | rfl | rfl | rfl | rfl | rfl | rfl | rfl | rfl | rfl
 ·exact mst_eq x h
 ·rfl
 ·rfl
 ·rfl
 ·exact not2 x
 ·exact and_all x h
 ·exact not3 x
 ·rfl
 ·exact and_all x h
 ·exact not2 x
 ·exact and_all x h
 ·exact not3 x
 ·rfl
 ·exact and_all x h
 ·exact cfg_eq x h 4
 ·rfl
 ·rfl
 ·rfl
 ·rfl
 ·exact and_all x h

theorem mode_eq (x:Int) (h:U x):modeB x=((x / 1152921504606846976==0)||(x / 1152921504606846976==8)):=by
 have e:fld x 60 4=x / 1152921504606846976:=by
  unfold fld
  rw [show ((2:Int) ^ 60)=1152921504606846976 from by decide,show ((2:Int) ^ 4)=16 from by decide]
  have:=h.1;have:=h.2
  omega
 unfold modeB
 rw [e]

theorem ok_fit (x:Int) (h:U x) (k:Nat) (hk:k < 22):(fitV (ckAt k).2 x==x)=okAt k x:=by
 by_cases h9:k=9
 ·subst h9;rfl
 ·by_cases h15:k=15
  ·subst h15
   show (fitV .satp x==x)=((x / 1152921504606846976==0)||(x / 1152921504606846976==8))
   rw [← mode_eq x h]
   show ((if modeB x=true then x else 0)==x)=modeB x
   cases hm:modeB x with
   | true=>simp
   | false =>
    have hx:x≠0:=by
     rintro rfl
     revert hm
     decide
    simp only [Bool.false_eq_true,if_false,beq_eq_false_iff_ne]
    exact fun h=>hx h.symm
  ·rw [fit_legal x h k hk h9 h15]
   unfold okAt
   rw [if_neg h9,if_neg h15]

theorem fitsRest_eq (l:List Int) (hl:∀ j,U (l.getD j 0)):∀ n k,k+n≤22→fitsRest l n k=okRest l n k:=by
 intro n
 induction n with
 | zero=>intro k _;rfl
 | succ n ih =>
  intro k hk
  rw [fitsRest,okRest,ok_fit _ (hl k) k (by omega),ih (k+1) (by omega)]

theorem fitsOk_eq (m:Nat) (l:List Int) (hl:∀ j,U (l.getD j 0)):fitsOk m l=csrsOk m l:=by
 unfold fitsOk csrsOk
 rw [fitsRest_eq l hl 22 0 (by omega)]

theorem implLegal_any (a:Option Addr) (n cap:Nat) (l:List Int) (p:Int) (w:World) (hz:l.length=n) (hs:Sl .u64 w a l) (hl:∀ j,U (l.getD j 0)) :
 Calls Tryz.prog 30 #[.slice a n cap,.int .i64 p] w fun e w'=>e=.returned (.bool (legalB n l p))∧Below w.heap.size w w':=by
 have HO:Hid (Calls Tryz.prog 66 #[.slice a n cap] w fun e w'=>e=.returned (.bool (csrsOk n l))∧Below w.heap.size w w'):=by
  have:=implCsrsOk_any a n cap l w hz hs hl
  rw [fitsOk_eq n l hl] at this
  exact this
 have HP:Hid (∀ w,Calls Tryz.prog 67 #[.int .i64 p] w fun e w'=>e=.returned (.bool (privB p))∧w'=w):=privOk_any p
 have F:Hid (legalB n l p=(csrsOk n l&&privB p)):=(rfl:legalB n l p=_)
 clear hs hz hl
 generalize csrsOk n l=q at *
 generalize privB p=r at *
 cases q with
 | false =>
  go_enter Tryz.func30,Tryz.ntmps30
  go_wp2_with fail
  refine HO.out.mono ?_
  rintro e w1 ⟨rfl,hb⟩
  go_wp2_with fail
  go_ret
  exact ⟨by rw [F.out];rfl,hb⟩
 | true =>
  go_enter Tryz.func30,Tryz.ntmps30
  go_wp2_with fail
  refine HO.out.mono ?_
  rintro e w1 ⟨rfl,hb⟩
  go_wp2_with fail
  refine (HP.out _).mono ?_
  rintro e w2 ⟨rfl,hw2⟩
  subst hw2
  go_wp2_with fail
  go_ret
  exact ⟨by rw [F.out];rfl,hb⟩

end Go.Proofs.YtkhofppmeoooaaaGreatDoor
