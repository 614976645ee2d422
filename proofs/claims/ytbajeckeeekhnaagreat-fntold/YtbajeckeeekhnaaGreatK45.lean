/- Own lemmas. -/
import Derived.Test.YtbajeckeeekhnaaGreatK08
import Derived.Test.YtbajeckeeekhnaaGreatK28
import Derived.Test.YtbajeckeeekhnaaGreatK33
import Derived.Test.YtbajeckeeekhnaaGreatK37
import Derived.OpenShut
import Derived.Deep.Cut
namespace Go.Proofs.YtbajeckeeekhnaaGreat
open Go.RowKit
set_option linter.unusedVariables false

def u64 (y:Int):Int:=IntKind.u64.wrap y

def regBe (i:Ins):Bool:=decide (0≤i.rd∧i.rd≤31)&&decide (0≤i.a∧i.a≤31)&&decide (0≤i.b∧i.b≤31)

theorem decV_ins (x:Int):∃ (j:Ins) (t:Bool),decV x=.tuple #[.agg #[.int .i64 j.op,.int .i64 j.rd,.int .i64 j.a,.int .i64 j.b,.int .i64 j.imm],.bool t]∧(t=true→dec x=some j)∧(t=false→dec x=none):=by
 unfold decV
 cases h:dec x with
 | none=>exact ⟨noIns,false,rfl,by simp,by simp⟩
 | some i=>exact ⟨i,true,rfl,by simp,by simp⟩

theorem inst_stood:Tryz.prog.stoodInHeld 63=false:=by kernel_rfl

theorem inst_guard:Tryz.prog.eqGuardType Tryz.prog.depth 63=false:=by kernel_rfl

set_option maxHeartbeats 400000 in
theorem run_neqInst (a b c d e a' b' c' d' e':Int) (w:World) :
 (binOp .neq 63 (.agg #[.int .i64 a,.int .i64 b,.int .i64 c,.int .i64 d,.int .i64 e]) (.agg #[.int .i64 a',.int .i64 b',.int .i64 c',.int .i64 d',.int .i64 e'])).run Tryz.prog w=.ok (.bool (!(a==a'&&b==b'&&c==c'&&d==d'&&e==e'))) w:=by
 rw [run_neq_struct,run_equalIn_struct w 9999 _ _ _ (by rw [Program.fieldsOf,Tryz.underlying63]) inst_stood]
 simp only [Program.fieldsOf,Tryz.underlying63]
 have P:∀ (k:Nat) (x1 x2 x3 x4 x5 v:Value),(#[x1,x2,x3,x4,x5]:Array Value)[k]?=some v→∀ w,(part 2 #[x1,x2,x3,x4,x5] k).run Tryz.prog w=.ok v w:=by
  intro k x1 x2 x3 x4 x5 v h w
  simp [part,isAgg,run_underlying Tryz.underlying2,h]
 have Q:∀ (x y:Int) (w:World),(Op.equalIn 9999 2 (.int .i64 x) (.int .i64 y)).run Tryz.prog w=.ok (x==y) w:=fun x y w=>run_equalIn_int w 9998 2 .i64 .i64 x y Tryz.underlying2
 simp [Op.eqFields,Sem.run_bind,P 0 _ _ _ _ _ _ rfl,P 1 _ _ _ _ _ _ rfl,P 2 _ _ _ _ _ _ rfl,P 3 _ _ _ _ _ _ rfl,P 4 _ _ _ _ _ _ rfl,Q]
 by_cases h1:a=a'<;>by_cases h2:b=b'<;>by_cases h3:c=c'<;>by_cases h4:d=d'<;>by_cases h5:e=e'<;>simp [h1,h2,h3,h4,h5]

theorem wp_neqInst {o:Oper} {A:Act} {w:World} {K:Act→World→Prop} {Q:Exit→Act→World→Prop} {a b c d e a' b' c' d' e':Int} (x y:Operand) (t:TypeId) (ho:o.op=.binOp .neq 63 x y t)
 (hx:A.eval x=.agg #[.int .i64 a,.int .i64 b,.int .i64 c,.int .i64 d,.int .i64 e]) (hy:A.eval y=.agg #[.int .i64 a',.int .i64 b',.int .i64 c',.int .i64 d',.int .i64 e'])
 (nb:Bool) (hn:(!(a==a'&&b==b'&&c==c'&&d==d'&&e==e'))=nb) (h:K (A.put o.dst (.bool nb)) w):o.wp Tryz.prog A w K Q:=by
 subst hn
 unfold Oper.wp execOp
 simp only [ho,hx,hy,Sem.run_bind,run_eqGuard_agg w _ _ _ _ _ _ inst_guard,run_neqInst,Result.andThen_ok]
 exact h

theorem wpList_neqInst {ops:Array Oper} {rest:List Oper} {o:Oper} {A:Act} {w:World} {Q:Exit→Act→World→Prop} {a b c d e a' b' c' d' e':Int} (hw:Region.wanted o (yielded ops A.tmps)=true) (x y:Operand) (t:TypeId) (ho:o.op=.binOp .neq 63 x y t)
 (hx:A.eval x=.agg #[.int .i64 a,.int .i64 b,.int .i64 c,.int .i64 d,.int .i64 e]) (hy:A.eval y=.agg #[.int .i64 a',.int .i64 b',.int .i64 c',.int .i64 d',.int .i64 e'])
 (nb:Bool) (hn:(!(a==a'&&b==b'&&c==c'&&d==d'&&e==e'))=nb) (h:wpList Tryz.prog ops Q rest (A.put o.dst (.bool nb)) w):wpList Tryz.prog ops Q (o :: rest) A w:=by
 unfold wpList
 rw [if_pos hw]
 exact Or.inl (wp_neqInst x y t ho hx hy nb hn h)

theorem specDecode_w (x:Int) (h:U x) (w:World):Calls Tryz.prog 50 #[.int .u64 x] w fun e w'=>∃ (jo jr ja jb ji:Int) (t:Bool),e=.returned (.tuple #[.agg #[.int .i64 jo,.int .i64 jr,.int .i64 ja,.int .i64 jb,.int .i64 ji],.bool t])∧Below w.heap.size w w':=by
 obtain ⟨j,t,hD,_,_⟩:=decV_ins x
 exact (specDecode_any x h.1 h.2 w).mono fun e w' k=>⟨j.op,j.rd,j.a,j.b,j.imm,t,by rw [k.1,hD],k.2⟩

set_option maxRecDepth 100000 in
set_option maxHeartbeats 12800000 in
theorem specEncode_w (i:Ins) (w:World) :
 Calls Tryz.prog 33 #[.agg #[.int .i64 i.op,.int .i64 i.rd,.int .i64 i.a,.int .i64 i.b,.int .i64 i.imm]] w fun e w'=>∃ (x:Int) (t:Bool),e=.returned (.tuple #[.int .u64 x,.bool t])∧U x∧Below w.heap.size w w':=by
 by_cases hok:opB i.op=true∧regBe i=true
 ·obtain ⟨ho,hreg⟩:=hok
  have ho2:1≤i.op∧i.op≤98:=of_decide_eq_true ho
  simp only [regBe,Bool.and_eq_true,decide_eq_true_eq] at hreg
  obtain ⟨⟨R1,R2⟩,R3⟩:=hreg
  obtain ⟨op,rd,a,b,imm⟩:=i
  simp only at ho2 R1 R2 R3 ⊢
  obtain ⟨k,hk⟩:∃ k:Nat,op=(k:Int)+1:=⟨(op - 1).toNat,by omega⟩
  have hk2:k < 98:=by omega
  subst hk
  have I1:=l1In_any ((k:Int)+1) 1 98
  have I2:=l1In_any rd 0 31
  have I3:=l1In_any a 0 31
  have I4:=l1In_any b 0 31
  rw [decide_eq_true (by omega)] at I1 I2 I3 I4
  have H1:Hid (∀ w:World,Calls Tryz.prog 27 #[.int .i64 ((k:Int)+1),.int .i64 1,.int .i64 98] w fun e w'=>e=.returned (.bool true)∧w'=w):=I1
  have H2:Hid (∀ w:World,Calls Tryz.prog 27 #[.int .i64 rd,.int .i64 0,.int .i64 31] w fun e w'=>e=.returned (.bool true)∧w'=w):=I2
  have H3:Hid (∀ w:World,Calls Tryz.prog 27 #[.int .i64 a,.int .i64 0,.int .i64 31] w fun e w'=>e=.returned (.bool true)∧w'=w):=I3
  have H4:Hid (∀ w:World,Calls Tryz.prog 27 #[.int .i64 b,.int .i64 0,.int .i64 31] w fun e w'=>e=.returned (.bool true)∧w'=w):=I4
  clear I1 I2 I3 I4 ho
  go_enter Tryz.func33,Tryz.ntmps33
  go_wp2_with fail
  refine (l2Rows_T _).mono ?_
  rintro e w2 ⟨rfl,hT,hb⟩
  have hb0:Below w.heap.size w w2:=((Below.refl _ _).alloc (Nat.le_refl _) _).trans (hb.mono (by simp))
  have K:Hid (w2.heap[w.heap.size]?=some (.cells #[.int .i64 ((k:Int)+1),.int .i64 rd,.int .i64 a,.int .i64 b,.int .i64 imm] 63 (0,0))):=by
   show _=_
   rw [hb.block _ (by simp)];exact heap_alloc_new _ _
  have q0:w2.cell? ⟨w.heap.size,0,none⟩=some (.int .i64 ((k:Int)+1)):=(cell_of_row _ _ _ _ _ _ K.out).trans rfl
  have q1:w2.cell? ⟨w.heap.size,1,none⟩=some (.int .i64 rd):=(cell_of_row _ _ _ _ _ _ K.out).trans rfl
  have q2:w2.cell? ⟨w.heap.size,2,none⟩=some (.int .i64 a):=(cell_of_row _ _ _ _ _ _ K.out).trans rfl
  have q3:w2.cell? ⟨w.heap.size,3,none⟩=some (.int .i64 b):=(cell_of_row _ _ _ _ _ _ K.out).trans rfl
  obtain ⟨g,hg⟩:∃ g,g=(w.alloc (.cells #[.int .i64 ((k:Int)+1),.int .i64 rd,.int .i64 a,.int .i64 b,.int .i64 imm] 63)).heap.size:=⟨_,rfl⟩
  rw [← hg] at hT ⊢
  clear hb hg
  obtain ⟨r,hr0⟩:∃ r,r=rowAt k:=⟨_,rfl⟩
  obtain ⟨C0,C1,C2,C3,C4⟩:=hT.out.2 k hk2 r hr0
  obtain ⟨nm,f,o,z,m⟩:=r
  simp only at C0 C1 C2 C3 C4
  have ALL:∀ ob:Obj,Below w2.heap.size w2 (w2.alloc ob):=fun ob=>(Below.refl _ _).alloc (Nat.le_refl _) ob
  have Q1:∀ ob:Obj,(w2.alloc ob).cell? ⟨w.heap.size,1,none⟩=some (.int .i64 rd):=fun ob=>(cell_of_row _ _ _ _ _ _ (keep_some (ALL ob) K.out)).trans rfl
  have Q2:∀ ob:Obj,(w2.alloc ob).cell? ⟨w.heap.size,2,none⟩=some (.int .i64 a):=fun ob=>(cell_of_row _ _ _ _ _ _ (keep_some (ALL ob) K.out)).trans rfl
  have Q3:∀ ob:Obj,(w2.alloc ob).cell? ⟨w.heap.size,3,none⟩=some (.int .i64 b):=fun ob=>(cell_of_row _ _ _ _ _ _ (keep_some (ALL ob) K.out)).trans rfl
  have Q4:∀ ob:Obj,(w2.alloc ob).cell? ⟨w.heap.size,4,none⟩=some (.int .i64 imm):=fun ob=>(cell_of_row _ _ _ _ _ _ (keep_some (ALL ob) K.out)).trans rfl
  clear ALL hr0 hT
  obtain ⟨s,hs⟩:∃ s,s=f.str:=⟨_,rfl⟩
  rw [← hs] at C1
  have HS:Hid (s=f.str):=hs
  clear hs ho2 R1 R2 R3
  go_wp2_with fail
  refine (H1.out _).mono ?_
  rintro e w3 ⟨rfl,hw3⟩
  have hw4:=hw3.symm
  subst hw4
  go_wp2_with fail
  refine (H2.out _).mono ?_
  rintro e w3 ⟨rfl,hw3⟩
  have hw4:=hw3.symm
  subst hw4
  go_wp2_with fail
  refine (H3.out _).mono ?_
  rintro e w3 ⟨rfl,hw3⟩
  have hw4:=hw3.symm
  subst hw4
  go_wp2_with fail
  refine (H4.out _).mono ?_
  rintro e w3 ⟨rfl,hw3⟩
  have hw4:=hw3.symm
  subst hw4
  go_upto_if 63 with fail
  go_cut [7] from 10 (fun y wc=>∃ x:Int,y=.int .u64 x∧Hid (U x)∧wc=w2.alloc (.cells #[.string nm,.string s,.int .u64 o,.int .i64 z,.int .u64 m] 87))
  case first =>
   by_cases hz:0 < z
   ·have dz:decide (0 < z)=true:=by simpa using hz
    go_wp2_with fail
    go_meet
    exact ⟨_,rfl,U_bits _ _ _,rfl⟩
   ·have dz:decide (0 < z)=false:=by simpa using hz
    go_wp2_with fail
    go_meet
    exact ⟨_,rfl,U_bits _ _ _,rfl⟩
  case rest =>
   obtain ⟨x,rfl,hx,rfl⟩:=hcut
   have hs:=HS.out
   subst hs
   clear HS
   generalize IntKind.u64.wrap imm=M at *
   repeat ((fail_if_success (show Code.wp _ (Code.block 0 _) _ _ _));first | go_values | go_skip | go_guarded | go_step | go_upon | go_back | go_simp)
   go_cut [7] from 10 (fun y wc=>∃ x:Int,y=.int .u64 x∧Hid (U x)∧wc=w2.alloc (.cells #[.string nm,.string f.str,.int .u64 o,.int .i64 z,.int .u64 m] 87))
   case first =>
    cases f
    all_goals (
     as_aux_lemma =>
      simp only [Fm.str] at C1 ⊢
      go_wp2_with fail
      go_meet
      exact ⟨_,rfl,(by first | exact U_bits _ _ _ | exact hx.out),rfl⟩)
   case rest =>
    obtain ⟨x,rfl,hx,rfl⟩:=hcut
    go_wp2_with fail
    refine (specDecode_w _ hx.out _).mono ?_
    rintro e w4 ⟨jo,jr,ja,jb,ji,t,rfl,hb4⟩
    have KW:Hid (w4.heap[w.heap.size]?=some (.cells #[.int .i64 ((k:Int)+1),.int .i64 rd,.int .i64 a,.int .i64 b,.int .i64 imm] 63 (0,0))):=keep_some hb4 (keep_some ((Below.refl _ _).alloc (Nat.le_refl _) _) K.out)
    have hbF:Below w.heap.size w w4:=hb0.trans ((((Below.refl w2.heap.size w2).alloc (Nat.le_refl _) _).trans (hb4.mono (by simp))).mono hb0.size)
    have AL4:∀ ob:Obj,Below w4.heap.size w4 (w4.alloc ob):=fun ob=>(Below.refl _ _).alloc (Nat.le_refl _) ob
    have E0:∀ ob:Obj,(w4.alloc ob).cell? ⟨w.heap.size,0,none⟩=some (.int .i64 ((k:Int)+1)):=fun ob=>(cell_of_row _ _ _ _ _ _ (keep_some (AL4 ob) KW.out)).trans rfl
    have E1:∀ ob:Obj,(w4.alloc ob).cell? ⟨w.heap.size,1,none⟩=some (.int .i64 rd):=fun ob=>(cell_of_row _ _ _ _ _ _ (keep_some (AL4 ob) KW.out)).trans rfl
    have E2:∀ ob:Obj,(w4.alloc ob).cell? ⟨w.heap.size,2,none⟩=some (.int .i64 a):=fun ob=>(cell_of_row _ _ _ _ _ _ (keep_some (AL4 ob) KW.out)).trans rfl
    have E3:∀ ob:Obj,(w4.alloc ob).cell? ⟨w.heap.size,3,none⟩=some (.int .i64 b):=fun ob=>(cell_of_row _ _ _ _ _ _ (keep_some (AL4 ob) KW.out)).trans rfl
    have E4:∀ ob:Obj,(w4.alloc ob).cell? ⟨w.heap.size,4,none⟩=some (.int .i64 imm):=fun ob=>(cell_of_row _ _ _ _ _ _ (keep_some (AL4 ob) KW.out)).trans rfl
    clear AL4 hb4 q0 q1 q2 q3 Q1 Q2 Q3 Q4 C0 C1 C2 C3 C4 H1 H2 H3 H4 K hb0
    cases t with
    | false =>
      as_aux_lemma =>
       go_wp2_with fail
       go_ret2
       exact ⟨_,_,rfl,⟨by decide,by decide⟩,hbF.alloc hbF.size _⟩
    | true =>
      obtain ⟨nb,hnb⟩:∃ nb,(!(jo==(k:Int)+1&&jr==rd&&ja==a&&jb==b&&ji==imm))=nb:=⟨_,rfl⟩
      have HNB:Hid ((!(jo==(k:Int)+1&&jr==rd&&ja==a&&jb==b&&ji==imm))=nb):=hnb
      clear hnb
      cases nb with
      | true =>
        as_aux_lemma =>
         go_wp2_with (refine wpList_neqInst rfl _ _ _ rfl rfl rfl true HNB.out ?_)
         go_ret2
         exact ⟨_,_,rfl,⟨by decide,by decide⟩,hbF.alloc hbF.size _⟩
      | false =>
        as_aux_lemma =>
         go_wp2_with (refine wpList_neqInst rfl _ _ _ rfl rfl rfl false HNB.out ?_)
         go_ret2
         exact ⟨_,_,rfl,hx.out,hbF.alloc hbF.size _⟩
 ·obtain ⟨op,rd,a,b,imm⟩:=i
  have D:(decide (1≤op∧op≤98)&&(decide (0≤rd∧rd≤31)&&decide (0≤a∧a≤31)&&decide (0≤b∧b≤31)))=false:=by
   rw [Bool.eq_false_iff];intro h;rw [Bool.and_eq_true] at h;exact hok h
  simp only
  obtain ⟨t1,ht1⟩:∃ t,t=decide (1≤op∧op≤98):=⟨_,rfl⟩
  obtain ⟨t2,ht2⟩:∃ t,t=decide (0≤rd∧rd≤31):=⟨_,rfl⟩
  obtain ⟨t3,ht3⟩:∃ t,t=decide (0≤a∧a≤31):=⟨_,rfl⟩
  obtain ⟨t4,ht4⟩:∃ t,t=decide (0≤b∧b≤31):=⟨_,rfl⟩
  have I1:=l1In_any op 1 98
  have I2:=l1In_any rd 0 31
  have I3:=l1In_any a 0 31
  have I4:=l1In_any b 0 31
  rw [← ht1] at I1 D
  rw [← ht2] at I2 D
  rw [← ht3] at I3 D
  rw [← ht4] at I4 D
  have H1:Hid (∀ w:World,Calls Tryz.prog 27 #[.int .i64 op,.int .i64 1,.int .i64 98] w fun e w'=>e=.returned (.bool t1)∧w'=w):=I1
  have H2:Hid (∀ w:World,Calls Tryz.prog 27 #[.int .i64 rd,.int .i64 0,.int .i64 31] w fun e w'=>e=.returned (.bool t2)∧w'=w):=I2
  have H3:Hid (∀ w:World,Calls Tryz.prog 27 #[.int .i64 a,.int .i64 0,.int .i64 31] w fun e w'=>e=.returned (.bool t3)∧w'=w):=I3
  have H4:Hid (∀ w:World,Calls Tryz.prog 27 #[.int .i64 b,.int .i64 0,.int .i64 31] w fun e w'=>e=.returned (.bool t4)∧w'=w):=I4
  clear I1 I2 I3 I4 ht1 ht2 ht3 ht4 hok
  go_enter Tryz.func33,Tryz.ntmps33
  go_wp2_with fail
  refine (l2Rows_T _).mono ?_
  rintro e w2 ⟨rfl,hT,hb⟩
  have hb0:Below w.heap.size w w2:=((Below.refl _ _).alloc (Nat.le_refl _) _).trans (hb.mono (by simp))
  have K:w2.heap[w.heap.size]?=some (.cells #[.int .i64 op,.int .i64 rd,.int .i64 a,.int .i64 b,.int .i64 imm] 63 (0,0)):=by
   rw [hb.block _ (by simp)];exact heap_alloc_new _ _
  have q0:w2.cell? ⟨w.heap.size,0,none⟩=some (.int .i64 op):=(cell_of_row _ _ _ _ _ _ K).trans rfl
  have q1:w2.cell? ⟨w.heap.size,1,none⟩=some (.int .i64 rd):=(cell_of_row _ _ _ _ _ _ K).trans rfl
  have q2:w2.cell? ⟨w.heap.size,2,none⟩=some (.int .i64 a):=(cell_of_row _ _ _ _ _ _ K).trans rfl
  have q3:w2.cell? ⟨w.heap.size,3,none⟩=some (.int .i64 b):=(cell_of_row _ _ _ _ _ _ K).trans rfl
  clear K hb hT
  cases t1<;>cases t2<;>cases t3<;>cases t4
  case true.true.true.true=>cases D
  all_goals (
   as_aux_lemma =>
    clear D
    go_wp2_with (go_at_call 27;first | (with_reducible refine (H1.out _).mono ?_;rintro e w3 ⟨rfl,hw3⟩;have hw4:=hw3.symm;subst hw4) | (with_reducible refine (H2.out _).mono ?_;rintro e w3 ⟨rfl,hw3⟩;have hw4:=hw3.symm;subst hw4) | (with_reducible refine (H3.out _).mono ?_;rintro e w3 ⟨rfl,hw3⟩;have hw4:=hw3.symm;subst hw4) | (with_reducible refine (H4.out _).mono ?_;rintro e w3 ⟨rfl,hw3⟩;have hw4:=hw3.symm;subst hw4))
    go_ret2
    exact ⟨_,_,rfl,⟨by decide,by decide⟩,hb0⟩)

end Go.Proofs.YtbajeckeeekhnaaGreat
