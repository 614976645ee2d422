/- Own lemmas. -/
import Derived.Test.YtkhofppmeoooaaaGreatDoorK02
import Derived.Test.YtkhofppmeoooaaaGreatDoorK03
import Derived.Test.YtkhofppmeoooaaaGreatDoorK09
import Derived.Test.YtkhofppmeoooaaaGreatDoorK10
import Derived.Test.YtkhofppmeoooaaaGreatDoorK15
import Derived.Test.YtkhofppmeoooaaaGreatDoorK26
import Derived.Test.YtkhofppmeoooaaaGreatDoorK27
import Derived.Test.YtkhofppmeoooaaaGreatDoorK31
import Derived.Test.YtkhofppmeoooaaaGreatDoorK32
import Derived.Test.YtkhofppmeoooaaaGreatDoorK33
import Derived.Test.YtkhofppmeoooaaaGreatDoorK34
import Derived.Test.YtkhofppmeoooaaaGreatDoorK35
import Derived.Deep.LoopGhost
import Derived.Laws.Tables
import Derived.OwnWalk
namespace Go.Proofs.YtkhofppmeoooaaaGreatDoor
open Go.RowKit
set_option linter.unusedVariables false

theorem tell_mp (M:MV) (A:MA) (B r:Nat) (w:World) (h22:M.cs.length=22) (hl:MLen M) (h:Mp B r M A w) :
 Calls Tryz.prog 85 #[.pointer (some ⟨r,0,none⟩)] w fun e w'=>e=.returned (.tuple #[])∧Mp B r (lineD M) A w'∧Kx r (mvF M A) (mvF (lineD M) A) w w':=by
 have hs:=mvF_same (M:=M) (M':=lineD M) (A:=A) rfl (lineD_len M) rfl rfl rfl
 refine (tellLines_any M A r B w.heap.size w h22 hl h.row h.fam h.ne).mono fun e w' ⟨h1,h2,h3,h4⟩=>⟨h1,⟨h2,h3.low (Nat.le_refl _) h4.size,?_,h.lo⟩,Kx.of_keepL h4 hs⟩
 intro q hq e
 obtain ⟨q0,h0,e0⟩:=hs q hq
 exact h.ne q0 h0 (by rw [e0];exact e)

structure RmA (M:MV):Prop where
 h22:M.cs.length=22
 U9:U (M.cs.getD 9 0)
 bells:bellsB M=true
 ok:okD M.d.xs.length M.d.ys.length M.d.ir=true
 ram:ramOkB M.ram.length=true
 len:MLen M
 wram:∀ y ∈ M.ram,(Lit.int .u8 y).wf=true
 wd:bytesOk M.d
 hd:U M.hd

theorem Mp.shape {B r:Nat} {M:MV} {A:MA} {w:World} (h:Mp B r M A w) (h0:0 < M.ram.length):∃ g,A.ar=some ⟨g,0,none⟩∧M.ram.length≤A.cr∧A.cr≤9223372036854775807:=by
 have ho:=h.fam.own (bRow A.ar M.ram.length A.cr M.ram) (by simp [mvF])
 have hg:=own_good (w:=w) (a:=A.ar) (c:=A.cr) ho
 rcases ho.2 with ⟨e,e0⟩ | ⟨g',cap,cur,e,_⟩
 ·have:M.ram.length=0:=e0;omega
 ·have e2:Value.slice A.ar M.ram.length A.cr=.slice (some ⟨g',0,none⟩) M.ram.length cap:=e
  injection e2 with e3
  exact ⟨g',e3,hg.2.1,by have:=hg.2.2;unfold maxLen at this;exact this⟩

theorem load_i {B r:Nat} {M:MV} {A:MA} {w:World} (hR:RmA M) (pa size:Int) (hp:U pa) (h:Mp B r M A w):Calls Tryz.prog 83 #[.slice A.ar M.ram.length A.cr,.int .u64 pa,.int .i64 size] w fun e w'=>e=.returned (.tuple #[.int .u64 (loadB M.ram M.ram.length pa size),.bool (okB M.ram.length pa size)])∧Below w.heap.size w w':=by
 obtain ⟨g,hg,h1,h2⟩:=h.shape (ramOk_pos9 hR.ram)
 have hs:=h.fam.msl.ram
 rw [hg] at hs
 rw [hg]
 exact implLoad_any g M.ram.length A.cr M.ram pa size w rfl hR.len.ram hs hR.wram h1 h2 hp.1 (by have:=hp.2;omega)

theorem reach_any (M:MV) (A:MA) (B r:Nat) (pa size kind x:Int) (w:World) (hm:Mp B r M A w) (hR:RmA M) (hsz:sizeB size=true) (hk:kind=1∨kind=2∨kind=3) (hp:U pa) (hx:U x) :
 Calls Tryz.prog 46 #[.pointer (some ⟨r,0,none⟩),.int .u64 pa,.int .i64 size,.int .i64 kind,.int .u64 x] w fun e w'=>e=.returned (.tuple #[.int .u64 (rch M pa size kind x).1,.bool (rch M pa size kind x).2.1])∧∃ A',Mp B r (rch M pa size kind x).2.2 A' w'∧Kx r (mvF M A) (mvF (rch M pa size kind x).2.2 A') w w':=by
 have hl:=hR.len
 have hLD:loadD M.d pa size=ldV M.d (sel pa size):=by unfold loadD;rw [hR.ok];rfl
 have hSD:storeD M.d pa size x=stV M.d x (sel pa size):=by unfold storeD;rw [hR.ok];rfl
 have hL:=fun w' (h:Mp B r M A w')=>load_i (A:=A) (w:=w') hR pa size hp h
 rcases hk with rfl | rfl | rfl
 ·refine (reach_1 M A B r pa size x _ _ w hm hL).mono fun e w' h=>?_
  unfold rch loadB at *
  revert h
  cases okB M.ram.length pa size<;>intro h<;>exact h
 ·obtain ⟨M2,hM2⟩:∃ X,X=if (ldV M.d (sel pa size)).2.2=true then devM M (ldV M.d (sel pa size)).2.1 else M:=⟨_,rfl⟩
  have h22:M2.cs.length=22:=by rw [hM2];split<;>exact hR.h22
  have hl2:MLen M2:=by
   rw [hM2]
   have:=ldV_ok M.d (sel pa size) hl.xs hl.ys
   split
   ·exact ⟨hl.x,hl.cs,hl.ram,this.1,this.2⟩
   ·exact hl
  have hK:∀ w',Mp B r M A w'→Calls Tryz.prog 84 #[.pointer (some ⟨r,5,none⟩),.int .u64 pa,.int .i64 size] w' fun e w''=>e=.returned (.tuple #[.int .u64 (ldV M.d (sel pa size)).1,.bool (ldV M.d (sel pa size)).2.2])∧∃ A',Mp B r M2 A' w''∧Kx r (mvF M A) (mvF M2 A') w' w'':=fun w' h=>by
   rw [hM2]
   refine take_mp M A B r pa size _ (ldV M.d (sel pa size)).2.1 _ w' h (fun w'' h2=>?_)
   have h3:=implDevLoad_any M.d A.ai A.ci A.ao A.co pa size w'' hl.xs hl.ys hR.wd h2.fam.msl.xs h2.fam.msl.ys
   rw [hLD] at h3
   exact h3
  have hT:=fun (A':MA) w' (h:Mp B r M2 A' w')=>tell_mp M2 A' B r w' h22 hl2 h
  refine (reach_2 M A B r pa size x _ _ M2 (lineD M2) _ _ w hm hL hK hT).mono fun e w' h=>?_
  have e3:lineD M2=if (ldV M.d (sel pa size)).2.2=true then lineM (devM M (ldV M.d (sel pa size)).2.1) else M:=by
   rw [hM2]
   cases hc:(ldV M.d (sel pa size)).2.2 with
   | true=>rw [if_pos rfl,if_pos rfl];exact lineD_eq (ldV_okD M.d _ hR.ok hc)
   | false=>rw [if_neg (by decide),if_neg (by decide)];rw [lineD_eq hR.ok];exact line_same hR.h22 hR.U9 hR.bells
  rw [e3] at h
  have y0:(ldV M.d (sel pa size)).2.2=false→(ldV M.d (sel pa size)).1=0:=ldV_no M.d _
  unfold rch loadB at *
  revert h y0
  cases okB M.ram.length pa size<;>cases (ldV M.d (sel pa size)).2.2<;>intro h y0
  ·rw [y0 rfl] at h;exact h
  ·exact h
  ·exact h
  ·exact h
 ·obtain ⟨R,hRR⟩:∃ R,R=storeB M.ram M.ram.length pa size x:=⟨_,rfl⟩
  have hRl:R.length≤1048576:=by rw [hRR];exact storeB_len _ _ _ _ _ rfl hl.ram
  have hsl:=stV_len M.d x hl.xs (okD_bd hR.ok).2.1 (sel pa size)
  have hS:=fun w' (h:Mp B r M A w')=>implStore_any A.ar M.ram.length A.cr M.ram pa size x w' rfl hl.ram h.fam.msl.ram hp.1 (by have:=hp.2;omega) hx.1 (by have:=hx.2;omega)
  unfold storeLen at hS
  simp only [← hRR] at hS
  have hV:=fun w' (h:Mp B r M A w')=>give_mp M A B r pa size x (stV M.d x (sel pa size)).1 (stV M.d x (sel pa size)).2 w' h (fun w'' h2=>by
   have h3:=implDevStore_any M.d A.ai A.ci A.ao A.co pa size x w'' hl.xs hl.ys hR.wd h2.fam.msl.xs h2.fam.msl.ys
   rw [hSD] at h3
   exact h3)
  have hT:∀ (X:MV) (A':MA) w',Mp B r X A' w'→(X=memM M R∨X=devM M (stV M.d x (sel pa size)).1)→Calls Tryz.prog 85 #[.pointer (some ⟨r,0,none⟩)] w' fun e w''=>e=.returned (.tuple #[])∧Mp B r (lineD X) A' w''∧Kx r (mvF X A') (mvF (lineD X) A') w' w'':=fun X A' w' h hX=>by
   rcases hX with rfl | rfl
   ·exact tell_mp _ A' B r w' hR.h22 ⟨hl.x,hl.cs,hRl,hl.xs,hl.ys⟩ h
   ·exact tell_mp _ A' B r w' hR.h22 ⟨hl.x,hl.cs,hl.ram,hsl.1,hsl.2⟩ h
  have hG:∀ (X:MV) (A':MA) w',Mp B r X A' w'→(X=lineD (memM M R)∨X=lineD (devM M (stV M.d x (sel pa size)).1))→Calls Tryz.prog 115 #[.pointer (some ⟨r,0,none⟩),.int .u64 pa] w' fun e w''=>e=.returned (.tuple #[])∧Mp B r (letM X pa) A' w''∧Kx r (mvF X A') (mvF (letM X pa) A') w' w'':=fun X A' w' h hX=>by
   have hd:U X.hd:=by rcases hX with rfl | rfl<;>exact hR.hd
   exact letGo_mp X A' B r pa (heldB9 X pa) w' h (held_eq X pa hp hd)
  have hP:=fun w' (h:Mp B r M A w')=>put_mp M A B r pa size x R (stV M.d x (sel pa size)).1 (okB M.ram.length pa size) (stV M.d x (sel pa size)).2 lineD (fun X=>letM X pa) w' h hS hV hT hG
  refine (reach_3 M _ A B r pa size x _ w hm hP).mono fun e w' h=>?_
  have e1:lineD (memM M R)=memM M R:=by
   have hb:bellsB (memM M R)=true:=hR.bells
   rw [lineD_eq (M:=memM M R) hR.ok]
   exact line_same (M:=memM M R) hR.h22 hR.U9 hb
  have e2:(stV M.d x (sel pa size)).2=true→lineD (devM M (stV M.d x (sel pa size)).1)=lineM (devM M (stV M.d x (sel pa size)).1):=fun hc=>lineD_eq (M:=devM M (stV M.d x (sel pa size)).1) (stV_okS M.d x pa size hR.ok hc)
  have e4:okB M.ram.length pa size=true→R=put M.ram (pa - 2147483648).toNat x size.toNat:=fun hc=>by rw [hRR];unfold storeB;rw [hc];rfl
  rw [e1] at h
  unfold rch
  revert h e2 e4
  cases okB M.ram.length pa size<;>cases (stV M.d x (sel pa size)).2<;>intro h e2 e4
  ·exact h
  ·rw [e2 rfl] at h;exact h
  ·rw [e4 rfl] at h;exact h
  ·rw [e4 rfl] at h;exact h

section
variable {P : Program} {S : World → Prop} {n : Nat} {fn : Func} {Rs : Ending → World → Prop} {k : List KI} {F : Fr} {w : World}

end

section
variable {P : Program} {S : World → Prop} {n : Nat} {Q : Exit → Act → World → Prop} {k : List KI} {F : Fr} {w : World}

end

section
variable {P : Program} {S : World → Prop} {n : Nat} {fn : Func} {Rs : Ending → World → Prop} {k : List KI} {F : Fr} {w : World}

end

def Dw (w W:World):Prop:=∃ d,W={ w with drawn:=w.drawn+d }

theorem Dw.refl (w:World):Dw w w:=⟨0,rfl⟩

structure Ez (S:World→Prop) (R:List Rw):Prop where
 rows:∀ w,S w→∀ r ∈ R,rowIn r w
 drew:∀ w,S w→S w.drew

section
variable {P : Program} {S : World → Prop} {n : Nat} {fn : Func} {Rs : Ending → World → Prop} {k : List KI} {F : Fr} {w : World} {R : List Rw}

theorem eng_z (hR:Ez S R) (hS:S w):Eng P S (Dw w) R true (bodyPost P fn Rs) :=
 ⟨fun W h=>by
  obtain ⟨d,rfl⟩:=h
  induction d with
  | zero=>exact hS
  | succ d ih=>exact hR.drew _ ih,hR.rows,fun _ W h=>by obtain ⟨d,rfl⟩:=h;exact ⟨d+1,rfl⟩,pan_body⟩

theorem wz_call (hR:Ez S R) (hS:S w) (H:Hn P S (Dw w)) (m:Nat) {f:Nat} {args:Array Value} {Rc:World→Ending→World→Prop} (hc:∀ W,Dw w W→Calls P f args W (Rc W))
 (hx:((adv P R H n true m k F).1.1,nxC P n (adv P R H n true m k F).1.2.2 (adv P R H n true m k F).1.2.1)=(false,some (f,args)))
 (he:(adv P R H n true m k F).2.map Prod.fst=(adv P R H n true m k F).2.map Prod.snd)
 (h:∀ W e w',Dw w W→Rc W e w'→∃ v t,e=.returned v∧S w'∧Wg P S (bodyPost P fn Rs) n (nxK (adv P R H n true m k F).1.2.2 (adv P R H n true m k F).1.2.1) (nxF (adv P R H n true m k F).1.2.2 (adv P R H n true m k F).1.2.1 v t) w'):Wg P S (bodyPost P fn Rs) n k F w :=
 wk_ac (eng_z hR hS) H m (Dw.refl w) hc hx he fun W e w' h1 h2=>by
  obtain ⟨v,t,h3,h4,h5⟩:=h W e w' h1 h2
  exact ⟨v,t,h3,fun _=>h4,h5⟩

theorem wz_sk (hR:Ez S R) (hS:S w) (H:Hn P S (Dw w)) (m:Nat) {s:Sem Next} (f:World→World) (hr:∀ W,Dw w W→s.run P W=.ok .skip (f W))
 (hx:((adv P R H n true m k F).1.1,nxS n (adv P R H n true m k F).1.2.2 (adv P R H n true m k F).1.2.1)=(false,some s))
 (he:(adv P R H n true m k F).2.map Prod.fst=(adv P R H n true m k F).2.map Prod.snd)
 (h:∀ W,Dw w W→S (f W)∧Wg P S (bodyPost P fn Rs) n (nxK (adv P R H n true m k F).1.2.2 (adv P R H n true m k F).1.2.1) (nxF (adv P R H n true m k F).1.2.2 (adv P R H n true m k F).1.2.1 undef 0) (f W)):Wg P S (bodyPost P fn Rs) n k F w:=by
 simp only [Prod.mk.injEq] at hx
 exact wk_adv (eng_z hR hS) H m (Dw.refl w) hx.1 he fun W h1=>wk_sk hx.2 (hr W h1) (fun _=>(h W h1).1) (h W h1).2

theorem wz_op (hR:Ez S R) (hS:S w) (H:Hn P S (Dw w)) (m:Nat) {s:Sem Next} {v:World→Value} (t:Nat) (f:World→World) (hr:∀ W,Dw w W→s.run P W=.ok (.value (v W)) (f W))
 (hx:((adv P R H n true m k F).1.1,nxS n (adv P R H n true m k F).1.2.2 (adv P R H n true m k F).1.2.1)=(false,some s))
 (he:(adv P R H n true m k F).2.map Prod.fst=(adv P R H n true m k F).2.map Prod.snd)
 (h:∀ W,Dw w W→S (f W)∧Wg P S (bodyPost P fn Rs) n (nxK (adv P R H n true m k F).1.2.2 (adv P R H n true m k F).1.2.1) (nxF (adv P R H n true m k F).1.2.2 (adv P R H n true m k F).1.2.1 (v W) t) (f W)):Wg P S (bodyPost P fn Rs) n k F w:=by
 simp only [Prod.mk.injEq] at hx
 exact wk_adv (eng_z hR hS) H m (Dw.refl w) hx.1 he fun W h1=>wk_op t hx.2 (hr W h1) (fun _=>(h W h1).1) (h W h1).2

end

theorem Dw.below {B:Nat} {v w W:World} (hb:Below B v w) (h:Dw w W):Below B v W:=by
 obtain ⟨d,rfl⟩:=h
 induction d with
 | zero=>exact hb
 | succ d ih=>exact ih.drew

theorem run_stRow {P:Program} {w:World} {g:Nat} {t ty:TypeId} {old cells:Array Value} (hg:w.heap[g]?=some (.cells old t (0,0))) (hi:(P.info? ty).map (·.size)=some cells.size) (ho:old.size=cells.size) (h1:cells.all (·.oneCell')=true) :
 (do Instr.storeAt ty (.pointer (some ⟨g,0,none⟩)) (.agg cells);pure Next.skip:Sem Next).run P w=.ok .skip (w.setRow g cells):=by
 have:=run_storeVar_row (P:=P) w g t ty old cells hg hi ho h1
 simp [Instr.storeAt,Instr.sureAddr,this,Result.andThen]

theorem end_tct {P:Program} {S:World→Prop} {n:Nat} {fn:Func} {Rs:Ending→World→Prop} {k:List KI} {F:Fr} {w:World} {R:List Rw} (hz:Ez S R) (hS:S w) (H:Hn P S (Dw w)) (m:Nat) {r:Nat} {T:TypeId} {d:TypeDesc} {cs:Array Value} {s p u:Nat} {v1 v2:Value}
 (hst:∀ W,S W→S (W.setRow r cs)) (hrow:∀ W,S W→∃ old t,old.size=cs.size∧W.heap[r]?=some (.cells old t (0,0))) (hT:(P.info? T).map (·.size)=some cs.size) (hone:cs.all (·.oneCell')=true) (hu:P.underlying T=some d) (hd:(match d with | .struct _ | .array _ _=>true | _=>false)=true) (hres:fn.results=#[.tmp s,.cell p T,.tmp u])
 (hx:((adv P R H n true m k F).1.1,nxS n (adv P R H n true m k F).1.2.2 (adv P R H n true m k F).1.2.1)=(false,some (do Instr.storeAt T (.pointer (some ⟨r,0,none⟩)) (.agg cs);pure Next.skip)))
 (he:(adv P R H n true m k F).2.map Prod.fst=(adv P R H n true m k F).2.map Prod.snd)
 (hy:(fun (y:(Bool × List KI × Fr) × List (Oe × Oe))=>(y.1.1,(lk y.1.2.2 s).map Prod.fst,(lk y.1.2.2 p).map Prod.fst,(lk y.1.2.2 u).map Prod.fst,y.2.map Prod.fst)) (adv P R ({ }:Hn P S fun V=>∃ W,Dw w W∧Dw (W.setRow r cs) V) n true m (nxK (adv P R H n true m k F).1.2.2 (adv P R H n true m k F).1.2.1) (nxF (adv P R H n true m k F).1.2.2 (adv P R H n true m k F).1.2.1 undef 0))=(true,some v1,some (.pointer (some ⟨r,0,none⟩)),some v2,(adv P R ({ }:Hn P S fun V=>∃ W,Dw w W∧Dw (W.setRow r cs) V) n true m (nxK (adv P R H n true m k F).1.2.2 (adv P R H n true m k F).1.2.1) (nxF (adv P R H n true m k F).1.2.2 (adv P R H n true m k F).1.2.1 undef 0)).2.map Prod.snd))
 (h:∀ W V,Dw w W→Dw (W.setRow r cs) V→Rs (.returned (.tuple #[v1,.agg cs,v2])) V):Wg P S (bodyPost P fn Rs) n k F w:=by
 have hdw:∀ {a b:World},S a→Dw a b→S b:=fun {a b} h1 h2=>(eng_z (P:=P) (fn:=fn) (Rs:=Rs) hz h1).sub _ h2
 refine wz_sk hz hS H m (fun W=>W.setRow r cs) (fun W hW=>?_) hx he fun W hW=>?_
 ·obtain ⟨old,t,h1,h2⟩:=hrow W (hdw hS hW)
  exact run_stRow h2 hT h1 hone
 ·have hSW:=hst W (hdw hS hW)
  refine ⟨hSW,?_⟩
  simp only [Prod.mk.injEq] at hy
  obtain ⟨y1,y2,y3,y4,y5⟩:=hy
  have E:Eng P S (fun V=>∃ W,Dw w W∧Dw (W.setRow r cs) V) R true (bodyPost P fn Rs) :=
   ⟨fun V ⟨X,g1,g2⟩=>hdw (hst X (hdw hS g1)) g2,hz.rows,fun _ V ⟨X,g1,g2⟩=>⟨X,g1,by obtain ⟨j,rfl⟩:=g2;exact ⟨j+1,rfl⟩⟩,pan_body⟩
  refine wk_ret E _ m ⟨W,hW,Dw.refl _⟩ y1 y5 fun V a hV hk=>?_
  obtain ⟨X,g1,g2⟩:=hV
  obtain ⟨old,t,h1,h2⟩:=hrow X (hdw hS g1)
  have hrowV:V.heap[r]?=some (.cells cs t (0,0)):=by
   obtain ⟨j,rfl⟩:=g2
   exact setRow_heap X r old cs t (0,0) h2
  refine ⟨_,?_,h X V g1 g2⟩
  rw [← hk.slot y2,← hk.slot y4]
  exact results_tct8 hres a.tmps V r t cs (0,0) d (hk.slot y3) hrowV hu hd hT

theorem run_al {P:Program} {T:TypeId} {z:Value} (h:(P.info? T).bind (·.zero)=some z) (w:World):(do pure (.value (← Instr.alloc T true (.tuple #[]))):Sem Next).run P w=.ok (.value (.pointer (some ⟨w.heap.size,0,none⟩))) (w.alloc (.cells z.cells T)):=by
 obtain ⟨i,hi,hz⟩:=Option.bind_eq_some_iff.1 h
 simp [Instr.alloc,zeroValue,typeInfo,hi,hz,newVar,newRow]

theorem nob {x:Bool} {p:Prop} (h:x=false) (hb:x=true):p:=by rw [h] at hb;cases hb

structure Sa (w:World) (cs:Array Value) (W:World):Prop where
 m:W.heap[w.heap.size]?=some (.cells cs 29 (0,0))
 r:∃ old,old.size=14∧W.heap[w.heap.size+1]?=some (.cells old 29 (0,0))
 b:Below w.heap.size w W

section
variable {w W W' : World} {cs : Array Value}

theorem Sa.below (h:Sa w cs W) (hb:Below W.heap.size W W'):Sa w cs W' :=
 ⟨dstays hb h.m,let ⟨o,h1,h2⟩:=h.r;⟨o,h1,dstays hb h2⟩,below_trans h.b hb⟩

theorem Sa.out (h:Sa w cs W) (d:Array Value) (hd:d.size=14):Sa w cs (W.setRow (w.heap.size+1) d) :=
 ⟨(setRow_other W _ _ d (by omega)).trans h.m,let ⟨o,h1,h2⟩:=h.r;⟨d,hd,setRow_heap _ _ o _ _ _ h2⟩,row_below h.b (by omega) d⟩

theorem Sa.ez:Ez (Sa w cs) [⟨w.heap.size,cs,[]⟩] :=
 ⟨fun W h r hr=>by rw [List.mem_singleton] at hr;subst hr;exact ⟨_,_,h.m⟩,fun W h=>h.below (Below.refl _ _).drew⟩

theorem Sa.eng {P:Program} {fn:Func} {Rs:Ending→World→Prop}:Eng P (Sa w cs) (Sa w cs) [⟨w.heap.size,cs,[]⟩] true (bodyPost P fn Rs):=⟨fun _ h=>h,Sa.ez.rows,fun _=>Sa.ez.drew,pan_body⟩

theorem Sa.start:Sa w cs (allocs w [(cs,29),(mvc zeroM zeroA,29)]):=by
 obtain ⟨h1,h2⟩:=Bs.start w [(cs,29),(mvc zeroM zeroA,29)]
 exact ⟨h1 0 _ rfl,⟨_,rfl,h1 1 _ rfl⟩,h2⟩

theorem Sa.two (h:Sa w cs W):w.heap.size+2≤W.heap.size:=by
 obtain ⟨o,_,h2⟩:=h.r
 have:=(Array.getElem?_eq_some_iff.1 h2).1
 omega

end

structure Sc (w:World) (cs:Array Value) (B r:Nat) (M:MV) (A:MA) (W:World):Prop where
 a:Sa w cs W
 mp:Mp B r M A W
 lo:w.heap.size+2≤B

section
variable {w W W' : World} {cs : Array Value} {B r : Nat} {M : MV} {A : MA}

theorem Sc.below (h:Sc w cs B r M A W) (hb:Below W.heap.size W W'):Sc w cs B r M A W':=⟨h.a.below hb,h.mp.below hb,h.lo⟩

theorem Sc.out (h:Sc w cs B r M A W) (d:Array Value) (hd:d.size=14):Sc w cs B r M A (W.setRow (w.heap.size+1) d):=by
 have hlo:=h.mp.lo
 have hl:=h.lo
 refine ⟨h.a.out d hd,⟨(setRow_other W _ _ d (by omega)).trans h.mp.row,?_,h.mp.ne,h.mp.lo⟩,h.lo⟩
 exact (h.mp.fam.mono fun k h1 h2 h3=>setRow_other W _ _ d (by omega)).low (Nat.le_refl _) (by rw [setRow_size];exact Nat.le_refl _)

theorem Sc.ez:Ez (Sc w cs B r M A) [⟨w.heap.size,cs,[]⟩,⟨r,mvc M A,[]⟩] :=
 ⟨fun W h q hq=>by
  simp only [List.mem_cons,List.not_mem_nil,or_false] at hq
  rcases hq with rfl | rfl
  ·exact ⟨_,_,h.a.m⟩
  ·exact ⟨_,_,h.mp.row⟩,fun W h=>h.below (Below.refl _ _).drew⟩

theorem Sc.eng {P:Program} {fn:Func} {Rs:Ending→World→Prop}:Eng P (Sc w cs B r M A) (Sc w cs B r M A) [⟨w.heap.size,cs,[]⟩,⟨r,mvc M A,[]⟩] true (bodyPost P fn Rs):=⟨fun _ h=>h,Sc.ez.rows,fun _=>Sc.ez.drew,pan_body⟩

end

theorem Fam.set1 {B E g:Nat} {w:World} {L:List FRow} (h:Fam B E w L) (cs:Array Value) (hg:g < B):Fam B E (w.setRow g cs) L:=h.mono fun k h1 _ _=>setRow_other w g k cs (by omega)

theorem Dw.fam {B E:Nat} {w W:World} {L:List FRow} (h:Fam B E w L) (d:Dw w W):Fam B E W L:=by
 obtain ⟨j,rfl⟩:=d
 exact h.mono fun _ _ _ _=>rfl

theorem Dw.size {w W:World} (d:Dw w W):W.heap.size=w.heap.size:=by
 obtain ⟨j,rfl⟩:=d
 rfl

theorem Sa.dw {w W V:World} {cs:Array Value} (h:Sa w cs W) (d:Dw W V):Sa w cs V:=by
 obtain ⟨j,rfl⟩:=d
 exact ⟨h.m,h.r,⟨h.b.os,h.b.tape,h.b.output,h.b.size,h.b.block⟩⟩

abbrev accQ (w:World) (V:Int × MV × Int):Ending→World→Prop:=fun e w'=>∃ C,e=.returned (.tuple #[.int .u64 V.1,.agg (mvc V.2.1 C),.int .i64 V.2.2])∧Fam w.heap.size w'.heap.size w' (mvF V.2.1 C)∧Below w.heap.size w w'

theorem Sc.fin {w W W1 V:World} {cs:Array Value} {B r:Nat} {M:MV} {A:MA} {y c:Int} {U:Int × MV × Int} (h:Sc w cs B r M A W) (h1:Dw W W1) (h2:Dw (W1.setRow (w.heap.size+1) (mvc M A)) V) (hU:U=(y,M,c)):accQ w U (.returned (.tuple #[.int .u64 y,.agg (mvc M A),.int .i64 c])) V:=by
 subst hU
 have hs:=(h1.fam h.mp.fam).set1 (g:=w.heap.size+1) (mvc M A) (by have:=h.lo;omega)
 have hb:=row_below (h.a.dw h1).b (g:=w.heap.size+1) (by omega) (mvc M A)
 refine ⟨A,rfl,(h2.fam hs).low (by have:=h.lo;omega) ?_,h2.below hb⟩
 rw [h2.size,setRow_size,h1.size]
 exact Nat.le_refl _

set_option maxRecDepth 100000 in
set_option maxHeartbeats 6400000 in
theorem accessBy_bad (M:MV) (A:MA) (addr size kind x:Int) (w:World) (hl:MLen M) (hs:MSl w M A) (hw:MW M) (hg:goodA M size kind=false) :
 Calls Tryz.prog 20 #[.func (.func 21) #[] #[],.agg (mvc M A),.int .u64 addr,.int .i64 size,.int .i64 kind,.int .u64 x] w (accQ w (0,zeroM,99)):=by
 have HK:=fun W (h:Sa w (mvc M A) W)=>implMachineOk_any M A W hl (hs.below h.b) hw.cs
 have HS:=fun W (_:Sa w (mvc M A) W)=>implSize_any size W
 have HI:=fun W (_:Sa w (mvc M A) W)=>kindOk_e kind W
 unfold goodA at hg
 generalize machB M=b1 at *
 generalize sizeB size=b2 at *
 generalize decide (1≤kind∧kind≤3)=b3 at *
 generalize h4:(kind==1)=b4 at *
 generalize h5:(size != 4)=b5 at *
 refine wk_go (S:=Sa w (mvc M A)) [(mvc M A,29),(mvc zeroM zeroA,29)] Tryz.func20 rfl (by kernel_rfl) (by kernel_rfl) ?_
 cases b1
 case' true =>
  cases b2
  case' true =>
   cases b3
   case' true =>
    cases b4
    case' false=>cases hg
    case' true =>
     cases b5
     case' false=>cases hg
 all_goals
  refine wk_adv Sa.eng { eq:=[(37,eqB h4),(40,eqB h5)],cv:=[(23,cvC Sa.below HK),(27,cvS HS),(32,cvS HI)] } 300 Sa.start (by kernel_rfl) (by kernel_rfl) fun w1 h1=>?_
  refine end_tct (s:=12) (p:=13) (u:=14) (T:=29) (cs:=mvc zeroM zeroA) (v1:=.int .u64 0) (v2:=.int .i64 99) Sa.ez h1 {} 40 (fun W h=>h.out _ rfl) (fun W h=>let ⟨o,g1,g2⟩:=h.r;⟨o,_,g1,g2⟩) (by kernel_rfl) (mvc_one _ _) Tryz.underlying29 rfl rfl (by kernel_rfl) (by kernel_rfl) (by kernel_rfl) fun W V g1 g2=>?_
  exact ⟨zeroA,rfl,fam_zeroM _ _ _,g2.below (row_below (h1.dw g1).b (by omega) _)⟩

theorem Sa.fin {w W W1 V:World} {cs:Array Value} {B:Nat} {M:MV} {A:MA} {y c:Int} {U:Int × MV × Int} (h:Sa w cs W) (hf:Fam B W.heap.size W (mvF M A)) (hB:w.heap.size+2≤B) (h1:Dw W W1) (h2:Dw (W1.setRow (w.heap.size+1) (mvc M A)) V) (hU:U=(y,M,c)):accQ w U (.returned (.tuple #[.int .u64 y,.agg (mvc M A),.int .i64 c])) V:=by
 subst hU
 have hs:=(h1.fam hf).set1 (g:=w.heap.size+1) (mvc M A) (by omega)
 have hb:=row_below (h.dw h1).b (g:=w.heap.size+1) (by omega) (mvc M A)
 refine ⟨A,rfl,(h2.fam hs).low (by omega) ?_,h2.below hb⟩
 rw [h2.size,setRow_size,h1.size]
 exact Nat.le_refl _

theorem Sa.set {w W:World} {cs:Array Value} (h:Sa w cs W) (r:Nat) (hr:w.heap.size+2≤r) (d:Array Value):Sa w cs (W.setRow r d) :=
 ⟨(setRow_other W _ _ d (by omega)).trans h.m,let ⟨o,h1,h2⟩:=h.r;⟨o,h1,(setRow_other W _ _ d (by omega)).trans h2⟩,row_below h.b (by omega) d⟩

set_option maxRecDepth 100000 in
set_option maxHeartbeats 12800000 in
theorem accessBy_good (M:MV) (A:MA) (addr size kind x:Int) (w:World) (hl:MLen M) (hs:MSl w M A) (hw:MW M) (hhd:U M.hd) (ha:U addr) (hx:U x) (hT:Tab w) (hgd:Goodly M.ram.length A.ar A.cr) (hmk:machB M=true) (hsz:sizeB size=true) (hkd:1≤kind∧kind≤3) (b4 b5:Bool) (h4:(kind==1)=b4) (h5:(size != 4)=b5) (h45:(b4&&b5)=false) :
 Calls Tryz.prog 20 #[.func (.func 21) #[] #[],.agg (mvc M A),.int .u64 addr,.int .i64 size,.int .i64 kind,.int .u64 x] w (accQ w (accV M addr size kind x)):=by
 have HK:=fun W (h:Sa w (mvc M A) W)=>implMachineOk_any M A W hl (hs.below h.b) hw.cs
 have HS:=fun W (_:Sa w (mvc M A) W)=>implSize_any size W
 have HI:=fun W (_:Sa w (mvc M A) W)=>kindOk_e kind W
 rw [hmk] at HK
 rw [hsz] at HS
 rw [decide_eq_true hkd] at HI
 obtain ⟨h22,hcs,hpr,hr0,hd0,hb0⟩:=mach_parts hmk
 have hkk:kind=1∨kind=2∨kind=3:=by omega
 have hs5:size=1∨size=2∨size=4∨size=8:=of_decide_eq_true hsz
 have hp:=eff_priv (hw.cs 0) hcs hpr kind
 obtain ⟨V,hV⟩:∃ V,V=accV M addr size kind x:=⟨_,rfl⟩
 rw [← hV]
 unfold accV at hV
 have hwr:IntKind.u64.wrap size=size:=by rcases hs5 with rfl | rfl | rfl | rfl<;>decide +kernel
 have hmod:addr.tmod size=addr % size:=by
  rw [Int.tmod_eq_emod_of_nonneg ha.1]
 obtain ⟨p,hpp⟩:∃ p,effV M.cs M.pr kind=p:=⟨_,rfl⟩
 obtain ⟨G,hG⟩:∃ G,walkV M.ram M.ram.length M.cs p addr kind=G:=⟨_,rfl⟩
 have hga:U G.addr:=by rw [← hG];exact walkV_U _ _ _ _ _ _ ha
 have hlg:legalB 22 M.cs p=true:=by unfold legalB;rw [hcs,← hpp,hp];rfl
 have hwk:walkOk M.ram.length M.cs.length M.cs p kind=true:=by unfold walkOk;rw [hr0,h22,hlg];unfold kindIn;simpa using hkd
 have HE:∀ W,Sa w (mvc M A) W→Calls Tryz.prog 43 #[.slice A.ac M.cs.length A.cc,.int .i64 M.pr,.int .i64 kind] W fun e w''=>e=.returned (.int .i64 p)∧Below W.heap.size W w'':=fun W h=>by
  have h:=implEffective_any A.ac M.cs.length A.cc M.cs M.pr kind W rfl (hs.cs.below h.b) hw.cs
  unfold effB at h
  rw [h22,show legalB 22 M.cs M.pr=true by unfold legalB;rw [hcs,hpr];rfl,decide_eq_true hkd,hpp] at h
  rw [h22]
  exact h
 have HW:∀ W,Sa w (mvc M A) W→Calls Tryz.prog 21 #[.slice A.ar M.ram.length A.cr,.slice A.ac M.cs.length A.cc,.int .i64 p,.int .u64 addr,.int .i64 kind] W fun e w''=>∃ ka kc,e=.returned (.tuple #[.int .u64 G.addr,.int .i64 G.code,.slice ka (markB M.ram G).length kc])∧Fam W.heap.size w''.heap.size w'' [bRow ka (markB M.ram G).length kc (markB M.ram G)]∧Below W.heap.size W w'':=fun W h=>by
  have h:=implWalk_any A.ar M.ram.length A.cr M.ram A.ac M.cs.length A.cc M.cs p addr kind W rfl hl.ram (hs.ram.below h.b) hw.ram rfl (hs.cs.below h.b) hw.cs ha (hT.below h.b) hgd
  unfold walkA walkC walkB at h
  rw [hwk] at h
  simp only [if_true,hG] at h
  exact h.mono fun e w'' ⟨ka,kc,h1,h2,h3⟩=>⟨ka,kc,h1,(Fam.nil W.heap.size W.heap.size w'').snoc (bRow ka (markB M.ram G).length kc (markB M.ram G)) _ _ h2 (Nat.le_refl _) (Nat.le_refl _) (Nat.le_refl _) h3.size,h3⟩
 have HP:∀ W,Sa w (mvc M A) W→Calls Tryz.prog 44 #[.slice A.ac M.cs.length A.cc,.int .i64 p,.int .u64 G.addr,.int .i64 size,.int .i64 kind] W fun e w''=>e=.returned (.bool (!barB M.cs p G.addr size kind))∧Below W.heap.size W w'':=fun W h=>by
  have h:=implPermits_any A.ac M.cs.length A.cc M.cs p G.addr size kind W rfl (hs.cs.below h.b) hw.cs hga (hT.below h.b)
  rw [h22,perm_bar M.cs p G.addr size kind hlg hsz (decide_eq_true hkd)] at h
  rw [h22]
  exact h
 have HCC:=fun W (_:True)=>crookedCode_9 kind hkk W
 have HAC:=fun W (_:True)=>accessCode_9 kind hkk W
 have qc:IntKind.i64.wrap ((if kind=1 then 0 else if kind=2 then 4 else 6)+16)=crookK kind:=by rcases hkk with rfl | rfl | rfl<;>decide +kernel
 have qa:IntKind.i64.wrap ((if kind=2 then 5 else if kind=3 then 7 else 1)+16)=faultK kind:=by rcases hkk with rfl | rfl | rfl<;>decide +kernel
 have qg:IntKind.i64.wrap (G.code+16)=wrap64 (G.code+16):=by simp only [IntKind.wrap_i64,wrap64]
 rw [hpp,hG] at hV
 refine wk_go (S:=Sa w (mvc M A)) [(mvc M A,29),(mvc zeroM zeroA,29)] Tryz.func20 rfl (by kernel_rfl) (by kernel_rfl) ?_
 generalize h6:(addr % size != 0)=b6 at *
 have h6':(addr.tmod size != 0)=b6:=by rw [hmod];exact h6
 cases b6 with
 | true =>
  cases b4<;>cases b5
  case true.true=>cases h45
  all_goals
   refine wk_ac (Rc:=fun W e w'=>∃ (a':Option Addr) (c':Nat),e=.returned (.slice a' M.ram.length c')∧w'.ownsRow W.heap.size 5 1 (.slice a' M.ram.length c') M.ram.length (M.ram.map (Value.int .u8))∧Below W.heap.size W w') Sa.eng { eq:=[(37,eqB h4),(40,eqB h5),(46,eqI .u64 hwr),(48,eqB h6')],ov:=[(47,ovR .u64 addr size (by omega))],cv:=[(23,cvC Sa.below HK),(27,cvS HS),(32,cvS HI)] } 300 Sa.start (fun W h=>clone_any A.ar _ A.cr M.ram W rfl hl.ram (hs.ram.below h.b)) (by kernel_rfl) (by kernel_rfl) fun W0 e w1 hW0 hr=>?_
   obtain ⟨a1,c1,rfl,ho1,hb1⟩:=hr
   have S1:=hW0.below hb1
   refine ⟨_,0,rfl,fun _=>S1,?_⟩
   have F1:=(Fam.nil W0.heap.size W0.heap.size w1).snoc (bRow a1 M.ram.length c1 M.ram) _ w1.heap.size ho1 (Nat.le_refl _) (Nat.le_refl _) (Nat.le_refl _) hb1.size
   refine wz_call (Rc:=fun W e w'=>∃ C:MA,C.ar=a1∧C.cr=c1∧e=.returned (.agg (mvc (ramM M M.ram) C))∧Fam W0.heap.size w'.heap.size w' (mvF (ramM M M.ram) C)∧(∀ q ∈ mvF (ramM M M.ram) C,∀ k,q.v.ownBlock=some k→W.heap.size≤k∨(Value.slice a1 M.ram.length c1).ownBlock=some k)∧Below W.heap.size W w') Sa.ez S1 {} 60 (fun W d=>apart_any M A M.ram a1 M.ram.length c1 W0.heap.size W hl (hs.below (S1.dw d).b) (by rw [d.size];exact d.fam F1) (by rw [d.size];exact hb1.size) rfl) (by kernel_rfl) (by kernel_rfl) fun W1 e w2 d1 hr=>?_
   obtain ⟨C,hC1,hC2,rfl,F2,F2n,hb2⟩:=hr
   have S2:=(S1.dw d1).below hb2
   refine ⟨_,0,rfl,S2,?_⟩
   refine end_tct (s:=12) (p:=13) (u:=14) (T:=29) (cs:=mvc M C) (v1:=.int .u64 0) (v2:=.int .i64 (crookK kind)) Sa.ez S2 { eq:=[(56,eqI .i64 qc)],cv:=[(55,cvS fun W _=>crookedCode_9 kind hkk W)] } 60 (fun W h=>h.out _ rfl) (fun W h=>let ⟨o,g1,g2⟩:=h.r;⟨o,_,g1,g2⟩) (by kernel_rfl) (mvc_one _ _) Tryz.underlying29 rfl rfl (by kernel_rfl) (by kernel_rfl) (by kernel_rfl) fun W V g1 g2=>?_
   exact Sa.fin S2 F2 hW0.two g1 g2 (by rw [hV,if_pos rfl])
 | false =>
  have hV2:V=if (G.code != 0)=true then (0,memM M (markB M.ram G),wrap64 (G.code+16)) else if barB M.cs p G.addr size kind=true then (0,memM M (markB M.ram G),faultK kind) else if (rch (memM M (markB M.ram G)) G.addr size kind x).2.1=true then ((rch (memM M (markB M.ram G)) G.addr size kind x).1,(rch (memM M (markB M.ram G)) G.addr size kind x).2.2,0) else (0,(rch (memM M (markB M.ram G)) G.addr size kind x).2.2,faultK kind):=by
   rw [hV,if_neg (by decide)]
   unfold accW
   rw [at_rch]
  clear hV
  have hRm:RmA (memM M (markB M.ram G)):=⟨h22,hw.cs 9,hb0,hd0,by show ramOkB (markB M.ram G).length=true;rw [mark_len];exact hr0,⟨hl.x,hl.cs,by show (markB M.ram G).length≤_;rw [mark_len];exact hl.ram,hl.xs,hl.ys⟩,mark_wf M.ram hw.ram G,⟨hw.xs,hw.ys⟩,hhd⟩
  generalize h7:(G.code != 0)=b7 at *
  generalize barB M.cs p G.addr size kind=b8 at *
  rcases hrch:rch (memM M (markB M.ram G)) G.addr size kind x with ⟨y,ok,M2⟩
  rw [hrch] at hV2
  dsimp only at hV2
  cases b4<;>cases b5
  case true.true=>cases h45
  all_goals
   refine wk_ac (Rc:=fun W e w'=>∃ ka kc,e=.returned (.tuple #[.int .u64 G.addr,.int .i64 G.code,.slice ka (markB M.ram G).length kc])∧Fam W.heap.size w'.heap.size w' [bRow ka (markB M.ram G).length kc (markB M.ram G)]∧Below W.heap.size W w') Sa.eng { eq:=[(37,eqB h4),(40,eqB h5),(46,eqI .u64 hwr),(48,eqB h6')],ov:=[(47,ovR .u64 addr size (by omega))],cv:=[(23,cvC Sa.below HK),(27,cvS HS),(32,cvS HI),(62,cvC Sa.below HE)] } 300 Sa.start HW (by kernel_rfl) (by kernel_rfl) fun W0 e w1 hW0 hr=>?_
   obtain ⟨ka,kc,rfl,F1,hb1⟩:=hr
   have S1:=hW0.below hb1
   refine ⟨_,0,rfl,fun _=>S1,?_⟩
   refine wz_call (Rc:=fun W e w'=>∃ C:MA,C.ar=ka∧C.cr=kc∧e=.returned (.agg (mvc (ramM M (markB M.ram G)) C))∧Fam W0.heap.size w'.heap.size w' (mvF (ramM M (markB M.ram G)) C)∧(∀ q ∈ mvF (ramM M (markB M.ram G)) C,∀ k,q.v.ownBlock=some k→W.heap.size≤k∨(Value.slice ka (markB M.ram G).length kc).ownBlock=some k)∧Below W.heap.size W w') Sa.ez S1 {} 60 (fun W d=>apart_any M A (markB M.ram G) ka (markB M.ram G).length kc W0.heap.size W hl (hs.below (S1.dw d).b) (by rw [d.size];exact d.fam F1) (by rw [d.size];exact hb1.size) rfl) (by kernel_rfl) (by kernel_rfl) fun W1 e w2 d1 hr=>?_
   obtain ⟨C,hC1,hC2,rfl,F2,F2n,hb2⟩:=hr
   have S2:=(S1.dw d1).below hb2
   refine ⟨_,0,rfl,S2,?_⟩
   refine wz_op (v:=fun W=>.pointer (some ⟨W.heap.size,0,none⟩)) Sa.ez S2 {} 60 2 (fun W=>W.alloc (.cells (mvc zeroM zeroA) 29)) (fun W d=>run_al (z:=.agg (mvc zeroM zeroA)) (by kernel_rfl) W) (by kernel_rfl) (by kernel_rfl) fun W2 d2=>?_
   have S3:Sa w (mvc M A) (W2.alloc (.cells (mvc zeroM zeroA) 29)):=(S2.dw d2).below ((Below.refl _ _).alloc (Nat.le_refl _) _)
   refine ⟨S3,?_⟩
   have z2:W2.heap.size=w2.heap.size:=d2.size
   have hN:=S2.two
   refine wz_sk Sa.ez S3 {} 60 (fun W=>W.setRow W2.heap.size (mvc (memM M (markB M.ram G)) C)) (fun W d=>run_stRow (t:=29) (ty:=29) (old:=mvc zeroM zeroA) (by obtain ⟨j,rfl⟩:=d;exact heap_alloc_new _ _) (by kernel_rfl) rfl (mvc_one _ _)) (by kernel_rfl) (by kernel_rfl) fun W3 d3=>?_
   refine ⟨(S3.dw d3).set _ (by omega) _,?_⟩
   have S4:Sc w (mvc M A) W0.heap.size W2.heap.size (memM M (markB M.ram G)) C (W3.setRow W2.heap.size (mvc (memM M (markB M.ram G)) C)):=by
    have z3:W3.heap.size=W2.heap.size+1:=by rw [d3.size,World.size_alloc]
    refine ⟨(S3.dw d3).set _ (by omega) _,⟨?_,?_,fun q hq e=>?_,?_⟩,hW0.two⟩
    ·exact setRow_heap _ _ _ _ _ _ (by obtain ⟨j,rfl⟩:=d3;exact heap_alloc_new _ _)
    ·have f3:Fam W0.heap.size w2.heap.size W3 (mvF (ramM M (markB M.ram G)) C):=d3.fam ((d2.fam F2).mono fun k _ h2 h3=>(heap_alloc_old _ _ h3))
     exact (f3.mono fun k _ h2 _=>setRow_other _ _ _ _ (by omega)).low (Nat.le_refl _) (by rw [setRow_size,z3];omega)
    ·have:=F2.hi q hq _ e;omega
    ·have:=hb2.size;have:=d1.size;have:=hb1.size;omega
   refine wk_S (Sc w (mvc M A) W0.heap.size W2.heap.size (memM M (markB M.ram G)) C) (by kernel_rfl) ?_
   clear F2 F2n F1 hb2
   cases b7 with
   | true =>
    refine end_tct (s:=12) (p:=13) (u:=14) (T:=29) (cs:=mvc (memM M (markB M.ram G)) C) (v1:=.int .u64 0) (v2:=.int .i64 (wrap64 (G.code+16))) Sc.ez S4 { eq:=[(80,eqB h7),(83,eqI .i64 qg)] } 60 (fun W h=>h.out _ rfl) (fun W h=>let ⟨o,g1,g2⟩:=h.a.r;⟨o,_,g1,g2⟩) (by kernel_rfl) (mvc_one _ _) Tryz.underlying29 rfl rfl (by kernel_rfl) (by kernel_rfl) (by kernel_rfl) fun W V g1 g2=>?_
    exact S4.fin g1 g2 (by rw [hV2,if_pos rfl])
   | false =>
    have HP':=fun W (h:Sc w (mvc M A) W0.heap.size W2.heap.size (memM M (markB M.ram G)) C W)=>HP W h.a
    cases b8 with
    | true =>
     refine wk_adv Sc.eng { eq:=[(80,eqB h7)],cv:=[(90,cvC Sc.below HP')] } 60 S4 (by kernel_rfl) (by kernel_rfl) fun w5 S5=>?_
     refine end_tct (s:=12) (p:=13) (u:=14) (T:=29) (cs:=mvc (memM M (markB M.ram G)) C) (v1:=.int .u64 0) (v2:=.int .i64 (faultK kind)) Sc.ez S5 { eq:=[(95,eqI .i64 qa)],cv:=[(94,cvS fun W _=>accessCode_9 kind hkk W)] } 60 (fun W h=>h.out _ rfl) (fun W h=>let ⟨o,g1,g2⟩:=h.a.r;⟨o,_,g1,g2⟩) (by kernel_rfl) (mvc_one _ _) Tryz.underlying29 rfl rfl (by kernel_rfl) (by kernel_rfl) (by kernel_rfl) fun W V g1 g2=>?_
     exact S5.fin g1 g2 (by rw [hV2,if_neg (by decide),if_pos rfl])
    | false =>
     refine wk_ac (Rc:=fun W e w'=>e=.returned (.tuple #[.int .u64 y,.bool ok])∧∃ A',Mp W0.heap.size W2.heap.size M2 A' w'∧Kx W2.heap.size (mvF (memM M (markB M.ram G)) C) (mvF M2 A') W w') Sc.eng { eq:=[(80,eqB h7)],cv:=[(90,cvC Sc.below HP')] } 60 S4 (fun W h=>by have hr:=reach_any (memM M (markB M.ram G)) C W0.heap.size W2.heap.size G.addr size kind x W h.mp hRm hsz hkk hga hx;rw [hrch] at hr;exact hr) (by kernel_rfl) (by kernel_rfl) fun W5 e w6 S5 hr=>?_
     obtain ⟨rfl,A2,m6,k6⟩:=hr
     have hu:=S5.mp.under k6
     have hlo:=S5.lo
     have S6:Sc w (mvc M A) W0.heap.size W2.heap.size M2 A2 w6:=by
      refine ⟨⟨(hu.block _ (by omega)).trans S5.a.m,?_,S5.a.b.trans ⟨hu.os,hu.tape,hu.output,hu.size,fun k hk=>hu.block k (by omega)⟩⟩,m6,S5.lo⟩
      obtain ⟨o,g1,g2⟩:=S5.a.r
      exact ⟨o,g1,(hu.block _ (by omega)).trans g2⟩
     refine ⟨_,0,rfl,nob (by kernel_rfl),?_⟩
     refine wk_S (Sc w (mvc M A) W0.heap.size W2.heap.size M2 A2) (by kernel_rfl) ?_
     cases ok with
     | true =>
      refine end_tct (s:=12) (p:=13) (u:=14) (T:=29) (cs:=mvc M2 A2) (v1:=.int .u64 y) (v2:=.int .i64 0) Sc.ez S6 {} 60 (fun W h=>h.out _ rfl) (fun W h=>let ⟨o,g1,g2⟩:=h.a.r;⟨o,_,g1,g2⟩) (by kernel_rfl) (mvc_one _ _) Tryz.underlying29 rfl rfl (by kernel_rfl) (by kernel_rfl) (by kernel_rfl) fun W V g1 g2=>?_
      exact S6.fin g1 g2 (by rw [hV2,if_neg (by decide),if_neg (by decide),if_pos rfl])
     | false =>
      refine end_tct (s:=12) (p:=13) (u:=14) (T:=29) (cs:=mvc M2 A2) (v1:=.int .u64 0) (v2:=.int .i64 (faultK kind)) Sc.ez S6 { eq:=[(109,eqI .i64 qa)],cv:=[(108,cvS fun W _=>accessCode_9 kind hkk W)] } 60 (fun W h=>h.out _ rfl) (fun W h=>let ⟨o,g1,g2⟩:=h.a.r;⟨o,_,g1,g2⟩) (by kernel_rfl) (mvc_one _ _) Tryz.underlying29 rfl rfl (by kernel_rfl) (by kernel_rfl) (by kernel_rfl) fun W V g1 g2=>?_
      exact S6.fin g1 g2 (by rw [hV2,if_neg (by decide),if_neg (by decide),if_neg (by decide)])

theorem accessBy_any (M:MV) (A:MA) (addr size kind x:Int) (w:World) (hl:MLen M) (hs:MSl w M A) (hw:MW M) (hhd:U M.hd) (ha:U addr) (hx:U x) (hT:Tab w) (hgd:machB M=true→Goodly M.ram.length A.ar A.cr) :
 Calls Tryz.prog 20 #[.func (.func 21) #[] #[],.agg (mvc M A),.int .u64 addr,.int .i64 size,.int .i64 kind,.int .u64 x] w (accQ w (accessM M addr size kind x)):=by
 unfold accessM
 cases hg:goodA M size kind with
 | false=>rw [if_neg (by decide)];exact accessBy_bad M A addr size kind x w hl hs hw hg
 | true =>
  rw [if_pos rfl]
  unfold goodA at hg
  simp only [Bool.and_eq_true,decide_eq_true_eq] at hg
  exact accessBy_good M A addr size kind x w hl hs hw hhd ha hx hT (hgd hg.1.1.1) hg.1.1.1 hg.1.1.2 hg.1.2 _ _ rfl rfl (by simpa only [Bool.not_eq_true'] using hg.2)

set_option maxRecDepth 100000 in
set_option maxHeartbeats 6400000 in
theorem implAccess_any (M:MV) (A:MA) (addr size kind x:Int) (w:World) (hl:MLen M) (hs:MSl w M A) (hw:MW M) (hhd:U M.hd) (ha:U addr) (hx:U x) (hT:Tab w) (hgd:machB M=true→Goodly M.ram.length A.ar A.cr) :
 Calls Tryz.prog 6 #[.agg (mvc M A),.int .u64 addr,.int .i64 size,.int .i64 kind,.int .u64 x] w (accQ w (accessM M addr size kind x)):=by
 refine wk_go (S:=Sa w (mvc M A)) [(mvc M A,29),(mvc zeroM zeroA,29)] Tryz.func6 rfl (by kernel_rfl) (by kernel_rfl) ?_
 refine wk_ac (Rc:=fun W=>accQ W (accessM M addr size kind x)) Sa.eng {} 60 Sa.start (fun W h=>accessBy_any M A addr size kind x W hl (hs.below h.b) hw hhd ha hx (hT.below h.b) hgd) (by kernel_rfl) (by kernel_rfl) fun W0 e w1 hW0 hr=>?_
 generalize accessM M addr size kind x=V at *
 obtain ⟨C,rfl,F1,hb1⟩:=hr
 have S1:=hW0.below hb1
 refine ⟨_,0,rfl,fun _=>S1,?_⟩
 refine end_tct (s:=10) (p:=11) (u:=12) (T:=29) (cs:=mvc V.2.1 C) (v1:=.int .u64 V.1) (v2:=.int .i64 V.2.2) Sa.ez S1 {} 60 (fun W h=>h.out _ rfl) (fun W h=>let ⟨o,g1,g2⟩:=h.r;⟨o,_,g1,g2⟩) (by kernel_rfl) (mvc_one _ _) Tryz.underlying29 rfl rfl (by kernel_rfl) (by kernel_rfl) (by kernel_rfl) fun W X g1 g2=>?_
 exact Sa.fin S1 F1 hW0.two g1 g2 rfl

set_option maxHeartbeats 400000 in
theorem likeWords_any (a b:Option Addr) (n m ca cb:Nat) (xs ys:List Int) (w:World) (hx:xs.length=n) (hy:ys.length=m) (hn:n≤1048576) (hm:m≤1048576) (hs:Sl .u64 w a xs) (ht:Sl .u64 w b ys) :
 Calls Tryz.prog 10 #[.slice a n ca,.slice b m cb] w fun e w'=>e=.returned (.bool (decide (xs=ys)))∧Below w.heap.size w w':=by
 by_cases hnm:n=m
 ·subst hnm
  have HX:Hid (xs.length=n):=hx
  have HY:Hid (ys.length=n):=hy
  have hnn:((n:Int) != (n:Int))=false:=by simp
  clear hx hy
  go_enter Tryz.func10,Tryz.ntmps10
  go_wp2
  go_loopw [5] (fun i wr=>∃ k:Nat,k≤n∧i=.int .i64 k∧Hid (xs.take k=ys.take k)∧Below w.heap.size w wr)
   (fun i _=>n - (intOf i).toNat)
  case atStart=>exact ⟨0,Nat.zero_le _,rfl,(rfl:xs.take 0=ys.take 0),Below.refl _ _⟩
  case round =>
   obtain ⟨k,hk,rfl,heq,hbel⟩:=hrel
   by_cases hlt:k < n
   ·obtain ⟨b1,o1,rfl,hb1,hc1⟩:=hs k (by have:=HX.out;omega)
    obtain ⟨b2,o2,rfl,hb2,hc2⟩:=ht k (by have:=HY.out;omega)
    obtain ⟨x,hxx⟩:∃ x,x=xs.getD k 0:=⟨_,rfl⟩
    obtain ⟨y,hyy⟩:∃ y,y=ys.getD k 0:=⟨_,rfl⟩
    have c1:wr.cell? ⟨b1,o1+k,none⟩=some (.int .u64 x):=by rw [hxx];exact (hbel.cell (by exact hb1)).trans hc1
    have c2:wr.cell? ⟨b2,o2+k,none⟩=some (.int .u64 y):=by rw [hyy];exact (hbel.cell (by exact hb2)).trans hc2
    have XX:Hid (x=xs.getD k 0):=hxx
    have YY:Hid (y=ys.getD k 0):=hyy
    clear hc1 hc2 hxx hyy
    by_cases hxy:x=y
    ·subst hxy
     have R:=take_next xs ys k n HX.out HY.out hlt heq.out (XX.out.symm.trans YY.out)
     have RR:Hid (xs.take (k+1)=ys.take (k+1)):=R
     clear R
     have hne:(x != x)=false:=by simp
     go_wp2
     go_region
     all_goals go_wp2
     all_goals go_roundw
     case rel=>exact ⟨k+1,by omega,by go_num,RR,hbel.drew⟩
     case measure=>simp [intOf];omega
    ·have F:Hid (decide (xs=ys)=false):=by
      show decide (xs=ys)=false
      rw [decide_eq_false_iff_not]
      intro h;apply hxy;rw [XX.out,YY.out,h]
     have hne:(x != y)=true:=by simpa using hxy
     clear hxy
     go_wp2
     go_region
     all_goals go_wp2
     all_goals go_ret
     all_goals exact ⟨by rw [F.out];rfl,hbel.drew⟩
   ·have hkn:k=n:=by omega
    subst hkn
    have F:Hid (decide (xs=ys)=true):=by
     show decide (xs=ys)=true
     rw [decide_eq_true_eq]
     have h:=heq.out
     rw [List.take_of_length_le (by have:=HX.out;omega),List.take_of_length_le (by have:=HY.out;omega)] at h
     exact h
    go_wp2
    go_ret
    exact ⟨by rw [F.out];rfl,hbel⟩
 ·have F:Hid (decide (xs=ys)=false):=by
   show decide (xs=ys)=false
   rw [decide_eq_false_iff_not]
   intro h;apply hnm;rw [← hx,← hy,h]
  have hne:((n:Int) != (m:Int))=true:=by simp;omega
  clear hx hy
  go_enter Tryz.func10,Tryz.ntmps10
  go_wp2
  go_ret
  exact ⟨by rw [F.out];rfl,Below.refl _ _⟩

end Go.Proofs.YtkhofppmeoooaaaGreatDoor
