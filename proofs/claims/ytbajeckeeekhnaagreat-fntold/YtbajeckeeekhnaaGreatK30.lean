/- Own lemmas. -/
import Derived.Test.YtbajeckeeekhnaaGreatK25
import Derived.Test.YtbajeckeeekhnaaGreatK28
import Derived.Test.YtbajeckeeekhnaaGreatK29
namespace Go.Proofs.YtbajeckeeekhnaaGreat
open Go.RowKit
set_option linter.unusedVariables false

theorem Hx.last {P:Program} {fn:Func} {S:World→Prop} {B hh r n:Nat} {L:List Kr} {M N:MV} {A C:MA} {w W:World} {R:List Rw} {dr:Bool} {V:MV × Int} {k:List KI} {F:Fr} (E:Eng P S (Hx B r (hartR hh r :: L) M A w N C) R dr (bodyPost P fn (HR B hh r M A w V))) (H:Hn P S (Hx B r (hartR hh r :: L) M A w N C)) (m:Nat) (hS:Hx B r (hartR hh r :: L) M A w N C W) {f:Nat} {args:Array Value} (hc:∀ W,Hx B r (hartR hh r :: L) M A w N C W→Calls P f args W (HR B hh r N C W V)) {t:Nat} (hr:fn.results=#[.tmp t])
 (hx:((adv P R H n dr m k F).1.1,nxC P n (adv P R H n dr m k F).1.2.2 (adv P R H n dr m k F).1.2.1,nxB (adv P R H n dr m k F).1.2.2 (adv P R H n dr m k F).1.2.1,noSq (nxK (adv P R H n dr m k F).1.2.2 (adv P R H n dr m k F).1.2.1))=(false,some (f,args),false,true))
 (he:(adv P R H n dr m k F).2.map Prod.fst=(adv P R H n dr m k F).2.map Prod.snd)
 (hy:∀ J:World→Prop,(fun (y:(Bool × List KI × Fr) × List (Oe × Oe))=>(y.1.1,(lk y.1.2.2 t).map Prod.fst,y.2.map Prod.fst)) (adv P [] ({}:Hn P (fun _=>True) J) n true 20 (nxK (adv P R H n dr m k F).1.2.2 (adv P R H n dr m k F).1.2.1) (nxF (adv P R H n dr m k F).1.2.2 (adv P R H n dr m k F).1.2.1 (.int .i64 V.2) 0))=(true,some (.int .i64 V.2),[])) :
 Wg P S (bodyPost P fn (HR B hh r M A w V)) n k F W:=by
 simp only [Prod.mk.injEq] at hx
 refine wk_ac E H m hS hc (by rw [hx.1,hx.2.1]) he ?_
 rintro W1 e W2 h1 ⟨rfl,A2,h2,k2⟩
 refine ⟨_,0,rfl,nob hx.2.2.1,?_⟩
 have h3:=h1.to h2 k2
 refine wk_S (fun _=>True) hx.2.2.2 ?_
 have hy2:=hy (Hx B r (hartR hh r :: L) M A w V.1 A2)
 simp only [Prod.mk.injEq] at hy2
 refine wk_end (R:=[]) (t:=t) (v:=.int .i64 V.2) (J:=Hx B r (hartR hh r :: L) M A w V.1 A2) ⟨fun _ _=>trivial,fun _ _ x hx=>(by cases hx),fun _ W h=>h.below (Below.refl _ _).drew,pan_body⟩ {} 20 h3 (by rw [hy2.1,hy2.2.1]) (by rw [List.map_eq_nil_iff.1 hy2.2.2];rfl) hr fun W hW=>⟨rfl,A2,hW.ht,hW.kx⟩

theorem Gd.x32 {M:MV} (h:Gd M):M.x.length=32:=by
 have:=(mach_all h.ok).2.1
 unfold regsB at this
 rw [Bool.and_eq_true,decide_eq_true_eq] at this
 exact this.1

theorem code_16 {M:MV} {addr size kind x c:Int} (hc:(accV M addr size kind x).2.2=c) (hn:(c != 0)=true):IntKind.i64.wrap (c - 16)=(((c - 16).toNat:Nat):Int)∧(c - 16).toNat < 16:=by
 have h:=acc_code M addr size kind x
 rw [hc] at h
 rcases h with h | ⟨d,h1,h2⟩
 ·rw [h] at hn;cases hn
 ·rw [IntKind.wrap_i64]
  omega

section
variable {B hh r : Nat} {M : MV} {A : MA} {w : World}

set_option maxRecDepth 100000 in
theorem load_s (op rd ia ib imm at_:Int) (h1:11≤op) (h2:op≤14) (hr0:0≤rd) (hr1:rd≤31) (hat:U at_) (h:Ht B hh r M A w) (hg:Gd M) :
 Calls Tryz.prog 64 #[.pointer (some ⟨hh,0,none⟩),.agg #[.int .i64 op,.int .i64 rd,.int .i64 ia,.int .i64 ib,.int .i64 imm],.int .u64 at_] w (HR B hh r M A w (loadM M ⟨op,rd,ia,ib,imm⟩ at_)):=by
 obtain ⟨V,hV⟩:∃ V,loadM M ⟨op,rd,ia,ib,imm⟩ at_=V:=⟨_,rfl⟩
 rw [hV]
 obtain ⟨sz,q⟩:∃ sz,sz=loadSize op:=⟨_,rfl⟩
 obtain p | p | p | p:op=11∨op=12∨op=13∨op=14:=by omega
 all_goals
  have ga:=hg.acc at_ sz 2 0
  have hac:=fun W (hW:Mp B r M A W)=>l9Access_any M A B r at_ sz 2 0 W hW hg.len hg.mw hg.ok (by subst p q;decide) (by omega) (by omega) hat ⟨by decide,by decide⟩
  have ec:=fun c=>code_16 (M:=M) (addr:=at_) (size:=sz) (kind:=2) (x:=0) (c:=c)
  have eV:(if ((accV M at_ sz 2 0).2.2 != 0)=true then refuseM (accV M at_ sz 2 0) 0 at_ else (doneM (accV M at_ sz 2 0).2.1 rd (widen (8*sz) (accV M at_ sz 2 0).1) (IntKind.u64.wrap ((accV M at_ sz 2 0).2.1.pc+4)),1))=V:=by subst p q;exact hV
  clear hV
  generalize accV M at_ sz 2 0=X at *
  obtain ⟨y,N,c⟩:=X
  dsimp only at ga hac ec eV
  refine wk_go (S:=Hs r (hartR hh r :: boxR w.heap.size [(#[.int .i64 op,.int .i64 rd,.int .i64 ia,.int .i64 ib,.int .i64 imm],63)]) (mvc M A)) (args:=[.pointer (some ⟨hh,0,none⟩),.agg #[.int .i64 op,.int .i64 rd,.int .i64 ia,.int .i64 ib,.int .i64 imm],.int .u64 at_]) [(#[.int .i64 op,.int .i64 rd,.int .i64 ia,.int .i64 ib,.int .i64 imm],63)] Tryz.func64 rfl (by subst p q;kernel_rfl) (by subst p q;kernel_rfl) ?_
  refine wk_tag 0 2 (wk_tag 4 3 ?_)
  refine wk_adv (Hs.eng (dr:=false) (fun _ h=>h.hs)) {} 80 (Hx.start h _) (by subst p q;kernel_rfl) (by subst p q;kernel_rfl) fun W hW=>?_
  refine wk_K 10 (by subst p q;kernel_rfl) (by subst p q;kernel_rfl) ?_
  refine wk_ac (Hs.eng (dr:=true) (fun _ h=>h.hs)) {} 60 (hW.below (Below.refl _ _).drew) (fun W1 h1=>hac W1 h1.mp) (by subst p q;kernel_rfl) (by subst p q;kernel_rfl) ?_
  rintro W1 e W2 h1 ⟨rfl,C,h2,k2⟩
  refine ⟨_,0,rfl,nob (by subst p q;kernel_rfl),wk_S (Hs r (hartR hh r :: boxR w.heap.size [(#[.int .i64 op,.int .i64 rd,.int .i64 ia,.int .i64 ib,.int .i64 imm],63)]) (mvc N C)) (by subst p q;kernel_rfl) ?_⟩
  cases hc:(c != 0) with
  | true =>
    rw [hc,if_pos rfl] at eV
    subst eV
    exact Hx.last (Hs.eng (dr:=true) (fun _ h=>h.hs)) { eq:=[(39,eqB hc),(42,eqI .i64 (ec c rfl hc).1)] } 60 (h1.step h2 k2) (fun W hW=>trap_r _ (ec c rfl hc).2 at_ hW.ht ga) rfl (by subst p q;kernel_rfl) (by subst p q;kernel_rfl) (fun _=>by subst p q;kernel_rfl)
  | false =>
    rw [hc,if_neg (by decide)] at eV
    subst eV
    refine wk_adv (Hs.eng (dr:=false) (fun _ h=>h.hs)) { eq:=[(39,eqB hc)],cv:=[(51,cvS fun W _=>l1Widen_any y (8*sz) (by subst p q;decide) (by subst p q;decide) W)] } 60 (h1.step h2 k2) (by subst p q;kernel_rfl) (by subst p q;kernel_rfl) fun W hW=>?_
    refine wk_K 12 (by subst p q;kernel_rfl) (by subst p q;kernel_rfl) ?_
    exact Hx.last (Hs.eng (dr:=true) (fun _ h=>h.hs)) {} 60 (hW.below (Below.refl _ _).drew) (fun W hW=>done_r rd (widen (8*sz) y) _ hr0 hr1 hW.ht ga.x32 (mach_parts ga.ok).1) rfl (by subst p q;kernel_rfl) (by subst p q;kernel_rfl) (fun _=>by subst p q;kernel_rfl)

set_option maxRecDepth 100000 in
theorem load_u (op rd ia ib imm at_:Int) (h1:15≤op) (h2:op≤17) (hr0:0≤rd) (hr1:rd≤31) (hat:U at_) (h:Ht B hh r M A w) (hg:Gd M) :
 Calls Tryz.prog 64 #[.pointer (some ⟨hh,0,none⟩),.agg #[.int .i64 op,.int .i64 rd,.int .i64 ia,.int .i64 ib,.int .i64 imm],.int .u64 at_] w (HR B hh r M A w (loadM M ⟨op,rd,ia,ib,imm⟩ at_)):=by
 obtain ⟨V,hV⟩:∃ V,loadM M ⟨op,rd,ia,ib,imm⟩ at_=V:=⟨_,rfl⟩
 rw [hV]
 obtain ⟨sz,q⟩:∃ sz,sz=loadSize op:=⟨_,rfl⟩
 obtain p | p | p:op=15∨op=16∨op=17:=by omega
 all_goals
  have ga:=hg.acc at_ sz 2 0
  have hac:=fun W (hW:Mp B r M A W)=>l9Access_any M A B r at_ sz 2 0 W hW hg.len hg.mw hg.ok (by subst p q;decide) (by omega) (by omega) hat ⟨by decide,by decide⟩
  have ec:=fun c=>code_16 (M:=M) (addr:=at_) (size:=sz) (kind:=2) (x:=0) (c:=c)
  have eV:(if ((accV M at_ sz 2 0).2.2 != 0)=true then refuseM (accV M at_ sz 2 0) 0 at_ else (doneM (accV M at_ sz 2 0).2.1 rd ((accV M at_ sz 2 0).1) (IntKind.u64.wrap ((accV M at_ sz 2 0).2.1.pc+4)),1))=V:=by subst p q;exact hV
  clear hV
  generalize accV M at_ sz 2 0=X at *
  obtain ⟨y,N,c⟩:=X
  dsimp only at ga hac ec eV
  refine wk_go (S:=Hs r (hartR hh r :: boxR w.heap.size [(#[.int .i64 op,.int .i64 rd,.int .i64 ia,.int .i64 ib,.int .i64 imm],63)]) (mvc M A)) (args:=[.pointer (some ⟨hh,0,none⟩),.agg #[.int .i64 op,.int .i64 rd,.int .i64 ia,.int .i64 ib,.int .i64 imm],.int .u64 at_]) [(#[.int .i64 op,.int .i64 rd,.int .i64 ia,.int .i64 ib,.int .i64 imm],63)] Tryz.func64 rfl (by subst p q;kernel_rfl) (by subst p q;kernel_rfl) ?_
  refine wk_tag 0 2 (wk_tag 4 3 ?_)
  refine wk_adv (Hs.eng (dr:=false) (fun _ h=>h.hs)) {} 80 (Hx.start h _) (by subst p q;kernel_rfl) (by subst p q;kernel_rfl) fun W hW=>?_
  refine wk_K 10 (by subst p q;kernel_rfl) (by subst p q;kernel_rfl) ?_
  refine wk_ac (Hs.eng (dr:=true) (fun _ h=>h.hs)) {} 60 (hW.below (Below.refl _ _).drew) (fun W1 h1=>hac W1 h1.mp) (by subst p q;kernel_rfl) (by subst p q;kernel_rfl) ?_
  rintro W1 e W2 h1 ⟨rfl,C,h2,k2⟩
  refine ⟨_,0,rfl,nob (by subst p q;kernel_rfl),wk_S (Hs r (hartR hh r :: boxR w.heap.size [(#[.int .i64 op,.int .i64 rd,.int .i64 ia,.int .i64 ib,.int .i64 imm],63)]) (mvc N C)) (by subst p q;kernel_rfl) ?_⟩
  cases hc:(c != 0) with
  | true =>
    rw [hc,if_pos rfl] at eV
    subst eV
    exact Hx.last (Hs.eng (dr:=true) (fun _ h=>h.hs)) { eq:=[(39,eqB hc),(42,eqI .i64 (ec c rfl hc).1)] } 60 (h1.step h2 k2) (fun W hW=>trap_r _ (ec c rfl hc).2 at_ hW.ht ga) rfl (by subst p q;kernel_rfl) (by subst p q;kernel_rfl) (fun _=>by subst p q;kernel_rfl)
  | false =>
    rw [hc,if_neg (by decide)] at eV
    subst eV
    refine wk_adv (Hs.eng (dr:=false) (fun _ h=>h.hs)) { eq:=[(39,eqB hc)] } 60 (h1.step h2 k2) (by subst p q;kernel_rfl) (by subst p q;kernel_rfl) fun W hW=>?_
    refine wk_K 12 (by subst p q;kernel_rfl) (by subst p q;kernel_rfl) ?_
    exact Hx.last (Hs.eng (dr:=true) (fun _ h=>h.hs)) {} 60 (hW.below (Below.refl _ _).drew) (fun W hW=>done_r rd (y) _ hr0 hr1 hW.ht ga.x32 (mach_parts ga.ok).1) rfl (by subst p q;kernel_rfl) (by subst p q;kernel_rfl) (fun _=>by subst p q;kernel_rfl)

set_option maxRecDepth 100000 in
theorem store_r (i:Ins) (at_ b:Int) (h18:18≤i.op) (h21:i.op≤21) (hat:U at_) (hb:U b) (h:Ht B hh r M A w) (hg:Gd M) :
 Calls Tryz.prog 65 #[.pointer (some ⟨hh,0,none⟩),.agg #[.int .i64 i.op,.int .i64 i.rd,.int .i64 i.a,.int .i64 i.b,.int .i64 i.imm],.int .u64 at_,.int .u64 b] w (HR B hh r M A w (storeM M i at_ b)):=by
 obtain ⟨op,rd,ia,ib,imm⟩:=i
 dsimp only at h18 h21 ⊢
 obtain ⟨V,hV⟩:∃ V,storeM M ⟨op,rd,ia,ib,imm⟩ at_ b=V:=⟨_,rfl⟩
 rw [hV]
 obtain ⟨sz,q⟩:∃ sz:Nat,sz=2 ^ (op - 18).toNat:=⟨_,rfl⟩
 obtain p | p | p | p:op=18∨op=19∨op=20∨op=21:=by omega
 all_goals
  have ga:=hg.acc at_ sz 3 b
  have hac:=fun W (hW:Mp B r M A W)=>l9Access_any M A B r at_ sz 3 b W hW hg.len hg.mw hg.ok (by subst p q;decide) (by omega) (by omega) hat hb
  have ec:=fun c=>code_16 (M:=M) (addr:=at_) (size:=sz) (kind:=3) (x:=b) (c:=c)
  have eV:(if ((accV M at_ sz 3 b).2.2 != 0)=true then refuseM (accV M at_ sz 3 b) 0 at_ else (doneM (accV M at_ sz 3 b).2.1 0 0 (IntKind.u64.wrap ((accV M at_ sz 3 b).2.1.pc+4)),1))=V:=by subst p q;exact hV
  clear hV
  generalize accV M at_ sz 3 b=X at *
  obtain ⟨y,N,c⟩:=X
  dsimp only at ga hac ec eV
  refine wk_go (S:=Hs r (hartR hh r :: boxR w.heap.size [(#[.int .i64 op,.int .i64 rd,.int .i64 ia,.int .i64 ib,.int .i64 imm],63)]) (mvc M A)) (args:=[.pointer (some ⟨hh,0,none⟩),.agg #[.int .i64 op,.int .i64 rd,.int .i64 ia,.int .i64 ib,.int .i64 imm],.int .u64 at_,.int .u64 b]) [(#[.int .i64 op,.int .i64 rd,.int .i64 ia,.int .i64 ib,.int .i64 imm],63)] Tryz.func65 rfl (by subst p q;kernel_rfl) (by subst p q;kernel_rfl) ?_
  refine wk_tag 0 2 (wk_tag 5 3 ?_)
  refine wk_adv (Hs.eng (dr:=false) (fun _ h=>h.hs)) {} 10 (Hx.start h _) (by subst p q;kernel_rfl) (by subst p q;kernel_rfl) fun W hW=>?_
  refine wk_K 15 (by subst p q;kernel_rfl) (by subst p q;kernel_rfl) ?_
  refine wk_ac (Hs.eng (dr:=true) (fun _ h=>h.hs)) {} 60 (hW.below (Below.refl _ _).drew) (fun W1 h1=>hac W1 h1.mp) (by subst p q;kernel_rfl) (by subst p q;kernel_rfl) ?_
  rintro W1 e W2 h1 ⟨rfl,C,h2,k2⟩
  refine ⟨_,0,rfl,nob (by subst p q;kernel_rfl),wk_S (Hs r (hartR hh r :: boxR w.heap.size [(#[.int .i64 op,.int .i64 rd,.int .i64 ia,.int .i64 ib,.int .i64 imm],63)]) (mvc N C)) (by subst p q;kernel_rfl) ?_⟩
  cases hc:(c != 0) with
  | true =>
    rw [hc,if_pos rfl] at eV
    subst eV
    exact Hx.last (Hs.eng (dr:=true) (fun _ h=>h.hs)) { eq:=[(31,eqB hc),(34,eqI .i64 (ec c rfl hc).1)] } 60 (h1.step h2 k2) (fun W hW=>trap_r _ (ec c rfl hc).2 at_ hW.ht ga) rfl (by subst p q;kernel_rfl) (by subst p q;kernel_rfl) (fun _=>by subst p q;kernel_rfl)
  | false =>
    rw [hc,if_neg (by decide)] at eV
    subst eV
    exact Hx.last (Hs.eng (dr:=true) (fun _ h=>h.hs)) { eq:=[(31,eqB hc)] } 80 (h1.step h2 k2) (fun W hW=>done_r 0 0 _ (by decide) (by decide) hW.ht ga.x32 (mach_parts ga.ok).1) rfl (by subst p q;kernel_rfl) (by subst p q;kernel_rfl) (fun _=>by subst p q;kernel_rfl)

theorem load_r (i:Ins) (at_:Int) (h11:11≤i.op) (h17:i.op≤17) (hr0:0≤i.rd) (hr1:i.rd≤31) (hat:U at_) (h:Ht B hh r M A w) (hg:Gd M) :
 Calls Tryz.prog 64 #[.pointer (some ⟨hh,0,none⟩),.agg #[.int .i64 i.op,.int .i64 i.rd,.int .i64 i.a,.int .i64 i.b,.int .i64 i.imm],.int .u64 at_] w (HR B hh r M A w (loadM M i at_)):=by
 by_cases k:i.op≤14
 ·exact load_s i.op i.rd i.a i.b i.imm at_ h11 k hr0 hr1 hat h hg
 ·exact load_u i.op i.rd i.a i.b i.imm at_ (by omega) h17 hr0 hr1 hat h hg

end

theorem Hx.add {B r:Nat} {y:Kr} {L:List Kr} {M0 M:MV} {A0 A:MA} {w0 W:World} (h:Hx B r (y :: L) M0 A0 w0 M A W) (cs:Array Value) (t:TypeId):Hx B r (y :: (L ++ [⟨W.heap.size,cs,t,[]⟩])) M0 A0 w0 M A (W.alloc (.cells cs t)):=by
 have hb:=(Below.refl W.heap.size W).alloc (Nat.le_refl _) (.cells cs t)
 have h1:=h.below hb
 refine ⟨h1.mp,h1.kx,fun x hx=>?_⟩
 rw [← List.cons_append,List.mem_append] at hx
 rcases hx with hx | hx
 ·exact h1.rows x hx
 ·rw [List.mem_singleton.1 hx]
  exact ⟨heap_alloc_new _ _,by have:=h.mp.lt;exact fun e=>by dsimp only at e;omega,fun q hq e=>by have:=h.mp.fam.hi q hq _ e;dsimp only at this;omega⟩

theorem mvc_priv (M:MV) (A:MA) (st:List Int) (lp:Int):mvc (privM (csM M st) lp) A=(mvc (csM M st) A).setIfInBounds 2 (.int .i64 lp):=rfl

theorem mvF_priv (M:MV) (A:MA) (st:List Int) (lp:Int):mvF (privM (csM M st) lp) A=mvF (csM M st) A:=rfl

theorem hx_priv {B r:Nat} {L:List Kr} {M0 M:MV} {A0 A:MA} {w0 W:World} (st:List Int) (lp:Int) (h3:Hx B r L M0 A0 w0 (csM M st) A W):Hx B r L M0 A0 w0 (privM (csM M st) lp) A (W.setCell ⟨r,2,none⟩ (.int .i64 lp)):=h3.fld 2 (.int .i64 lp) (mvc_priv M A st lp) (mvF_priv M A st lp)

section
variable {B hh r : Nat} {M : MV} {A : MA} {w : World}

set_option maxRecDepth 100000 in
theorem jump_r (i:Ins) (a b n:Int) (h3:3≤i.op) (h10:i.op≤10) (hr0:0≤i.rd) (hr1:i.rd≤31) (h:Ht B hh r M A w) (hg:Gd M) :
 Calls Tryz.prog 63 #[.pointer (some ⟨hh,0,none⟩),.agg #[.int .i64 i.op,.int .i64 i.rd,.int .i64 i.a,.int .i64 i.b,.int .i64 i.imm],.int .u64 a,.int .u64 b,.int .u64 n] w (HR B hh r M A w (jumpM M i a b n)):=by
 obtain ⟨V,hV⟩:∃ V,jumpM M i a b n=V:=⟨_,rfl⟩
 rw [hV]
 obtain ⟨op,rd,ia,ib,imm⟩:=i
 dsimp only at h3 h10 hr0 hr1 ⊢
 unfold jumpM at hV
 dsimp only at hV
 have hbr:=fun W=>specBranch_any op a b W
 obtain ⟨tk,et⟩:∃ tk,brV op a b=tk:=⟨_,rfl⟩
 rw [et] at hbr
 refine wk_go (S:=Hs r (hartR hh r :: boxR w.heap.size [(#[.int .i64 op,.int .i64 rd,.int .i64 ia,.int .i64 ib,.int .i64 imm],63)]) (mvc M A)) (args:=[.pointer (some ⟨hh,0,none⟩),.agg #[.int .i64 op,.int .i64 rd,.int .i64 ia,.int .i64 ib,.int .i64 imm],.int .u64 a,.int .u64 b,.int .u64 n]) [(#[.int .i64 op,.int .i64 rd,.int .i64 ia,.int .i64 ib,.int .i64 imm],63)] Tryz.func63 rfl (by kernel_rfl) (by kernel_rfl) ?_
 refine wk_tag 0 2 (wk_tag 6 3 ?_)
 by_cases e4:op=4
 ·have h4:(op==4)=true:=by simpa using e4
  have e5:¬ 4 < op:=by omega
  have g4:decide (4 < op)=false:=decide_eq_false e5
  rw [show jumpTo M ⟨op,rd,ia,ib,imm⟩ a b n=bits .andNot .u64 (IntKind.u64.wrap (a+n)) 1 from by unfold jumpTo;dsimp only;rw [if_pos e4]] at hV
  cases ht:(bits .and .u64 (bits .andNot .u64 (IntKind.u64.wrap (a+n)) 1) 2 != 0) with
  | true =>
    rw [ht,if_pos rfl] at hV
    subst hV
    exact Hx.last (Hs.eng (dr:=true) (fun _ h=>h.hs)) { eq:=[(31,eqB h4),(39,eqB g4),(57,eqB ht)],cv:=[(45,cvS fun W _=>hbr W)] } 150 (Hx.start h _) (fun W hW=>trap_r 0 (by decide) _ hW.ht hg) rfl (by kernel_rfl) (by kernel_rfl) (fun _=>by kernel_rfl)
  | false =>
    rw [ht,if_neg (by decide)] at hV
    rw [if_neg e5] at hV
    subst hV
    exact Hx.last (Hs.eng (dr:=true) (fun _ h=>h.hs)) { eq:=[(31,eqB h4),(39,eqB g4),(57,eqB ht)],cv:=[(45,cvS fun W _=>hbr W)] } 150 (Hx.start h _) (fun W hW=>done_r rd _ _ hr0 hr1 hW.ht hg.x32 (mach_parts hg.ok).1) rfl (by kernel_rfl) (by kernel_rfl) (fun _=>by kernel_rfl)
 ·have h4:(op==4)=false:=by simpa using e4
  by_cases e5:4 < op
  ·have g4:decide (4 < op)=true:=decide_eq_true e5
   cases tk with
   | true =>
     rw [show jumpTo M ⟨op,rd,ia,ib,imm⟩ a b n=IntKind.u64.wrap (M.pc+n) from by unfold jumpTo;dsimp only;rw [if_neg e4,decide_eq_true e5,et];rfl] at hV
     cases ht:(bits .and .u64 (IntKind.u64.wrap (M.pc+n)) 2 != 0) with
     | true =>
       rw [ht,if_pos rfl] at hV
       subst hV
       exact Hx.last (Hs.eng (dr:=true) (fun _ h=>h.hs)) { eq:=[(31,eqB h4),(39,eqB g4),(57,eqB ht)],cv:=[(45,cvS fun W _=>hbr W)] } 150 (Hx.start h _) (fun W hW=>trap_r 0 (by decide) _ hW.ht hg) rfl (by kernel_rfl) (by kernel_rfl) (fun _=>by kernel_rfl)
     | false =>
       rw [ht,if_neg (by decide)] at hV
       rw [if_pos e5] at hV
       subst hV
       exact Hx.last (Hs.eng (dr:=true) (fun _ h=>h.hs)) { eq:=[(31,eqB h4),(39,eqB g4),(57,eqB ht)],cv:=[(45,cvS fun W _=>hbr W)] } 150 (Hx.start h _) (fun W hW=>done_r 0 _ _ (by decide) (by decide) hW.ht hg.x32 (mach_parts hg.ok).1) rfl (by kernel_rfl) (by kernel_rfl) (fun _=>by kernel_rfl)
   | false =>
     rw [show jumpTo M ⟨op,rd,ia,ib,imm⟩ a b n=IntKind.u64.wrap (M.pc+4) from by unfold jumpTo;dsimp only;rw [if_neg e4,decide_eq_true e5,et];rfl] at hV
     cases ht:(bits .and .u64 (IntKind.u64.wrap (M.pc+4)) 2 != 0) with
     | true =>
       rw [ht,if_pos rfl] at hV
       subst hV
       exact Hx.last (Hs.eng (dr:=true) (fun _ h=>h.hs)) { eq:=[(31,eqB h4),(39,eqB g4),(57,eqB ht)],cv:=[(45,cvS fun W _=>hbr W)] } 150 (Hx.start h _) (fun W hW=>trap_r 0 (by decide) _ hW.ht hg) rfl (by kernel_rfl) (by kernel_rfl) (fun _=>by kernel_rfl)
     | false =>
       rw [ht,if_neg (by decide)] at hV
       rw [if_pos e5] at hV
       subst hV
       exact Hx.last (Hs.eng (dr:=true) (fun _ h=>h.hs)) { eq:=[(31,eqB h4),(39,eqB g4),(57,eqB ht)],cv:=[(45,cvS fun W _=>hbr W)] } 150 (Hx.start h _) (fun W hW=>done_r 0 _ _ (by decide) (by decide) hW.ht hg.x32 (mach_parts hg.ok).1) rfl (by kernel_rfl) (by kernel_rfl) (fun _=>by kernel_rfl)
  ·have g4:decide (4 < op)=false:=decide_eq_false e5
   rw [show jumpTo M ⟨op,rd,ia,ib,imm⟩ a b n=IntKind.u64.wrap (M.pc+n) from by unfold jumpTo;dsimp only;rw [if_neg e4,decide_eq_false e5];rfl] at hV
   cases ht:(bits .and .u64 (IntKind.u64.wrap (M.pc+n)) 2 != 0) with
   | true =>
     rw [ht,if_pos rfl] at hV
     subst hV
     exact Hx.last (Hs.eng (dr:=true) (fun _ h=>h.hs)) { eq:=[(31,eqB h4),(39,eqB g4),(57,eqB ht)],cv:=[(45,cvS fun W _=>hbr W)] } 150 (Hx.start h _) (fun W hW=>trap_r 0 (by decide) _ hW.ht hg) rfl (by kernel_rfl) (by kernel_rfl) (fun _=>by kernel_rfl)
   | false =>
     rw [ht,if_neg (by decide)] at hV
     rw [if_neg e5] at hV
     subst hV
     exact Hx.last (Hs.eng (dr:=true) (fun _ h=>h.hs)) { eq:=[(31,eqB h4),(39,eqB g4),(57,eqB ht)],cv:=[(45,cvS fun W _=>hbr W)] } 150 (Hx.start h _) (fun W hW=>done_r rd _ _ hr0 hr1 hW.ht hg.x32 (mach_parts hg.ok).1) rfl (by kernel_rfl) (by kernel_rfl) (fun _=>by kernel_rfl)

theorem l5Leave_ht {B hh r:Nat} {M:MV} {A:MA} {w:World} (h:Ht B hh r M A w) (h22:M.cs.length=22) (m:Bool) :
 Calls Tryz.prog 92 #[.slice A.ac M.cs.length A.cc,.bool m] w fun e w'=>e=.returned (.tuple #[.int .i64 (leaveP (M.cs.getD 0 0) m),.int .u64 (leaveAt M.cs m)])∧Ht B hh r (csM M (M.cs.set 0 (leaveS (M.cs.getD 0 0) m))) A w'∧Kx r (mvF M A) (mvF (csM M (M.cs.set 0 (leaveS (M.cs.getD 0 0) m))) A) w w':=by
 obtain ⟨g,hac,hown,hup⟩:=h.mp.cs h22
 rw [hac,h22]
 refine (l5Leave_any B g A.cc M.cs m w hown).mono fun e w' ⟨h1,h2,h3⟩=>?_
 obtain ⟨hm,hx⟩:=hup w' _ (by rw [List.length_set];exact h22) h3 h2
 exact ⟨h1,h.step hm hx,hx⟩

set_option maxRecDepth 100000 in
theorem system_93 (rd ia ib imm a x:Int) (hx:U x) (h:Ht B hh r M A w) (hg:Gd M) :
 Calls Tryz.prog 69 #[.pointer (some ⟨hh,0,none⟩),.agg #[.int .i64 93,.int .i64 rd,.int .i64 ia,.int .i64 ib,.int .i64 imm],.int .u64 a,.int .u64 x] w (HR B hh r M A w (sysM M ⟨93,rd,ia,ib,imm⟩ x)):=by
 obtain ⟨V,hV⟩:∃ V,sysM M ⟨93,rd,ia,ib,imm⟩ x=V:=⟨_,rfl⟩
 rw [hV]
 have h22:=(mach_parts hg.ok).1
 have h32:=hg.x32
 refine wk_go (S:=Hs r (hartR hh r :: boxR w.heap.size [(#[.int .i64 93,.int .i64 rd,.int .i64 ia,.int .i64 ib,.int .i64 imm],63)]) (mvc M A)) (args:=[.pointer (some ⟨hh,0,none⟩),.agg #[.int .i64 93,.int .i64 rd,.int .i64 ia,.int .i64 ib,.int .i64 imm],.int .u64 a,.int .u64 x]) [(#[.int .i64 93,.int .i64 rd,.int .i64 ia,.int .i64 ib,.int .i64 imm],63)] Tryz.func69 rfl (by kernel_rfl) (by kernel_rfl) ?_
 refine wk_tag 0 2 (wk_tag 5 3 ?_)
 have eV:(trapM M (callK M.pr) false 0,2)=V:=hV
 subst eV
 have hp:M.pr=0∨M.pr=1∨M.pr=3:=by
  have:=(mach_parts hg.ok).2.2.1
  unfold privB at this
  simp at this
  omega
 refine wk_adv (Hs.eng (dr:=false) (fun _ h=>h.hs)) {} 60 (Hx.start h _) (by kernel_rfl) (by kernel_rfl) fun W hW=>?_
 refine wk_op 0 (s:=do pure (.value (← Instr.buildSlice 38 4 #[(0,.int .i64 8),(1,.int .i64 9),(2,.int .i64 0),(3,.int .i64 11)]))) (v:=.slice (some ⟨W.heap.size,0,none⟩) 4 4) (w':=W.alloc (.cells #[.int .i64 8,.int .i64 9,.int .i64 0,.int .i64 11] 2)) (by kernel_rfl) (by kernel_rfl) (nob (by kernel_rfl)) ?_
 have h1:=hW.add #[.int .i64 8,.int .i64 9,.int .i64 0,.int .i64 11] 2
 refine wk_S (Hs r (hartR hh r :: (boxR w.heap.size [(#[.int .i64 93,.int .i64 rd,.int .i64 ia,.int .i64 ib,.int .i64 imm],63)] ++ [⟨W.heap.size,#[.int .i64 8,.int .i64 9,.int .i64 0,.int .i64 11],2,[]⟩])) (mvc M A)) (by kernel_rfl) ?_
 rcases hp with hp | hp | hp
 ·have hi:callK M.pr=8:=by unfold callK;rw [if_pos hp]
  rw [hi]
  refine wk_adv (Hs.eng (dr:=true) (fun _ h=>h.hs)) { eq:=[(25,eqI .i64 hp)],ov:=[(26,ovX (a:=some ⟨W.heap.size,0,none⟩) (b:=W.heap.size) (o:=0) 4 4 .i64 0 rfl ⟨by omega,by omega⟩ Tryz.underlying38 (by kernel_rfl)),(27,ovL ⟨W.heap.size,0+(0:Int).toNat,none⟩ (.int .i64 8) Tryz.underlying2 rfl (fun X hX=>(cell_of_row _ _ _ _ _ _ (hX.2 ⟨W.heap.size,#[.int .i64 8,.int .i64 9,.int .i64 0,.int .i64 11],2,[]⟩ (by simp))).trans rfl))] } 60 h1 (by kernel_rfl) (by kernel_rfl) fun X hX=>?_
  exact Hx.last (Hs.eng (dr:=true) (fun _ h=>h.hs)) {} 20 hX (fun W hW=>trap_r 8 (by decide) 0 hW.ht hg) rfl (by kernel_rfl) (by kernel_rfl) (fun _=>by kernel_rfl)
 ·have hi:callK M.pr=9:=by unfold callK;rw [if_neg (by omega),if_pos hp]
  rw [hi]
  refine wk_adv (Hs.eng (dr:=true) (fun _ h=>h.hs)) { eq:=[(25,eqI .i64 hp)],ov:=[(26,ovX (a:=some ⟨W.heap.size,0,none⟩) (b:=W.heap.size) (o:=0) 4 4 .i64 1 rfl ⟨by omega,by omega⟩ Tryz.underlying38 (by kernel_rfl)),(27,ovL ⟨W.heap.size,0+(1:Int).toNat,none⟩ (.int .i64 9) Tryz.underlying2 rfl (fun X hX=>(cell_of_row _ _ _ _ _ _ (hX.2 ⟨W.heap.size,#[.int .i64 8,.int .i64 9,.int .i64 0,.int .i64 11],2,[]⟩ (by simp))).trans rfl))] } 60 h1 (by kernel_rfl) (by kernel_rfl) fun X hX=>?_
  exact Hx.last (Hs.eng (dr:=true) (fun _ h=>h.hs)) {} 20 hX (fun W hW=>trap_r 9 (by decide) 0 hW.ht hg) rfl (by kernel_rfl) (by kernel_rfl) (fun _=>by kernel_rfl)
 ·have hi:callK M.pr=11:=by unfold callK;rw [if_neg (by omega),if_neg (by omega)]
  rw [hi]
  refine wk_adv (Hs.eng (dr:=true) (fun _ h=>h.hs)) { eq:=[(25,eqI .i64 hp)],ov:=[(26,ovX (a:=some ⟨W.heap.size,0,none⟩) (b:=W.heap.size) (o:=0) 4 4 .i64 3 rfl ⟨by omega,by omega⟩ Tryz.underlying38 (by kernel_rfl)),(27,ovL ⟨W.heap.size,0+(3:Int).toNat,none⟩ (.int .i64 11) Tryz.underlying2 rfl (fun X hX=>(cell_of_row _ _ _ _ _ _ (hX.2 ⟨W.heap.size,#[.int .i64 8,.int .i64 9,.int .i64 0,.int .i64 11],2,[]⟩ (by simp))).trans rfl))] } 60 h1 (by kernel_rfl) (by kernel_rfl) fun X hX=>?_
  exact Hx.last (Hs.eng (dr:=true) (fun _ h=>h.hs)) {} 20 hX (fun W hW=>trap_r 11 (by decide) 0 hW.ht hg) rfl (by kernel_rfl) (by kernel_rfl) (fun _=>by kernel_rfl)

set_option maxRecDepth 100000 in
theorem system_94 (rd ia ib imm a x:Int) (hx:U x) (h:Ht B hh r M A w) (hg:Gd M) :
 Calls Tryz.prog 69 #[.pointer (some ⟨hh,0,none⟩),.agg #[.int .i64 94,.int .i64 rd,.int .i64 ia,.int .i64 ib,.int .i64 imm],.int .u64 a,.int .u64 x] w (HR B hh r M A w (sysM M ⟨94,rd,ia,ib,imm⟩ x)):=by
 obtain ⟨V,hV⟩:∃ V,sysM M ⟨94,rd,ia,ib,imm⟩ x=V:=⟨_,rfl⟩
 rw [hV]
 have h22:=(mach_parts hg.ok).1
 have h32:=hg.x32
 refine wk_go (S:=Hs r (hartR hh r :: boxR w.heap.size [(#[.int .i64 94,.int .i64 rd,.int .i64 ia,.int .i64 ib,.int .i64 imm],63)]) (mvc M A)) (args:=[.pointer (some ⟨hh,0,none⟩),.agg #[.int .i64 94,.int .i64 rd,.int .i64 ia,.int .i64 ib,.int .i64 imm],.int .u64 a,.int .u64 x]) [(#[.int .i64 94,.int .i64 rd,.int .i64 ia,.int .i64 ib,.int .i64 imm],63)] Tryz.func69 rfl (by kernel_rfl) (by kernel_rfl) ?_
 refine wk_tag 0 2 (wk_tag 5 3 ?_)
 have eV:(trapM M 3 false M.pc,2)=V:=hV
 subst eV
 exact Hx.last (Hs.eng (dr:=true) (fun _ h=>h.hs)) {} 120 (Hx.start h _) (fun W hW=>trap_r 3 (by decide) _ hW.ht hg) rfl (by kernel_rfl) (by kernel_rfl) (fun _=>by kernel_rfl)

set_option maxRecDepth 100000 in
theorem system_95 (rd ia ib imm a x:Int) (hx:U x) (h:Ht B hh r M A w) (hg:Gd M) :
 Calls Tryz.prog 69 #[.pointer (some ⟨hh,0,none⟩),.agg #[.int .i64 95,.int .i64 rd,.int .i64 ia,.int .i64 ib,.int .i64 imm],.int .u64 a,.int .u64 x] w (HR B hh r M A w (sysM M ⟨95,rd,ia,ib,imm⟩ x)):=by
 obtain ⟨V,hV⟩:∃ V,sysM M ⟨95,rd,ia,ib,imm⟩ x=V:=⟨_,rfl⟩
 rw [hV]
 have h22:=(mach_parts hg.ok).1
 have h32:=hg.x32
 refine wk_go (S:=Hs r (hartR hh r :: boxR w.heap.size [(#[.int .i64 95,.int .i64 rd,.int .i64 ia,.int .i64 ib,.int .i64 imm],63)]) (mvc M A)) (args:=[.pointer (some ⟨hh,0,none⟩),.agg #[.int .i64 95,.int .i64 rd,.int .i64 ia,.int .i64 ib,.int .i64 imm],.int .u64 a,.int .u64 x]) [(#[.int .i64 95,.int .i64 rd,.int .i64 ia,.int .i64 ib,.int .i64 imm],63)] Tryz.func69 rfl (by kernel_rfl) (by kernel_rfl) ?_
 refine wk_tag 0 2 (wk_tag 5 3 ?_)
 have hlv:=fun (W:World) (hW:Ht B hh r M A W)=>l5Leave_ht hW h22 false
 have hln:(M.cs.set 0 (leaveS (M.cs.getD 0 0) false)).length=22:=by rw [List.length_set];exact h22
 have eV:(if (((((95:Int)==96))&&(M.pr != 3))||(M.pr==0))=true then (trapM M 2 false x,2) else (doneM (privM (csM M (M.cs.set 0 (leaveS (M.cs.getD 0 0) false))) (leaveP (M.cs.getD 0 0) false)) 0 0 (leaveAt M.cs false),1))=V:=hV
 clear hV
 generalize M.cs.set 0 (leaveS (M.cs.getD 0 0) false)=st at hlv hln eV
 generalize leaveP (M.cs.getD 0 0) false=lp at hlv eV
 generalize leaveAt M.cs false=la at hlv eV
 obtain ⟨p3,g3⟩:∃ b,(M.pr != 3)=b:=⟨_,rfl⟩
 obtain ⟨p0,g0⟩:∃ b,(M.pr==0)=b:=⟨_,rfl⟩
 rw [g3,g0] at eV
 cases p3<;>cases p0
 ·have eV2:(doneM (privM (csM M st) lp) 0 0 la,1)=V:=eV
  subst eV2
  refine wk_adv (Hs.eng (dr:=false) (fun _ h=>h.hs)) { eq:=[(48,eqB g3),(55,eqB g0)] } 120 (Hx.start h _) (by kernel_rfl) (by kernel_rfl) fun W hW=>?_
  refine wk_K 7 (by kernel_rfl) (by kernel_rfl) ?_
  refine wk_ac (Hs.eng (dr:=true) (fun _ h=>h.hs)) {} 60 (hW.below (Below.refl _ _).drew) (fun W1 h1=>hlv W1 h1.ht) (by kernel_rfl) (by kernel_rfl) ?_
  rintro W1 e W2 h1 ⟨rfl,h2,k2⟩
  refine ⟨_,0,rfl,nob (by kernel_rfl),wk_S (Hs r (hartR hh r :: boxR w.heap.size [(#[.int .i64 95,.int .i64 rd,.int .i64 ia,.int .i64 ib,.int .i64 imm],63)]) (mvc (csM M st) A)) (by kernel_rfl) ?_⟩
  refine wk_adv (Hs.eng (dr:=false) (fun _ h=>h.hs)) {} 60 (h1.to h2 k2) (by kernel_rfl) (by kernel_rfl) fun W3 h3=>?_
  refine wk_sk (by kernel_rfl) (run_stc (i:=2) (T:=2) (v:=.int .i64 lp) h3.mp.row (show 2 < 14 by decide) (by kernel_rfl) rfl) (nob (by kernel_rfl)) ?_
  have h4:=hx_priv st lp h3
  obtain ⟨N,eN⟩:∃ N,N=privM (csM M st) lp:=⟨_,rfl⟩
  have n32:N.x.length=32:=by rw [eN];unfold privM csM;exact h32
  have n22:N.cs.length=22:=by rw [eN];unfold privM csM;exact hln
  rw [← eN] at h4 ⊢
  clear eN
  refine wk_S (Hs r (hartR hh r :: boxR w.heap.size [(#[.int .i64 95,.int .i64 rd,.int .i64 ia,.int .i64 ib,.int .i64 imm],63)]) (mvc N A)) (by kernel_rfl) ?_
  exact Hx.last (Hs.eng (dr:=true) (fun _ h=>h.hs)) { cv:=[(76,cvS fun W (hW:Hx B r (hartR hh r :: boxR w.heap.size [(#[.int .i64 95,.int .i64 rd,.int .i64 ia,.int .i64 ib,.int .i64 imm],63)]) M A w N A W)=>drop_any N A B hh r W hW.ht)] } 60 h4 (fun W hW=>done_r 0 0 la (by decide) (by decide) hW.ht n32 n22) rfl (by kernel_rfl) (by kernel_rfl) (fun _=>by kernel_rfl)
 ·have eV2:(trapM M 2 false x,2)=V:=eV
  subst eV2
  exact Hx.last (Hs.eng (dr:=true) (fun _ h=>h.hs)) { eq:=[(48,eqB g3),(55,eqB g0)] } 120 (Hx.start h _) (fun W hW=>trap_r 2 (by decide) x hW.ht hg) rfl (by kernel_rfl) (by kernel_rfl) (fun _=>by kernel_rfl)
 ·have eV2:(doneM (privM (csM M st) lp) 0 0 la,1)=V:=eV
  subst eV2
  refine wk_adv (Hs.eng (dr:=false) (fun _ h=>h.hs)) { eq:=[(48,eqB g3),(55,eqB g0)] } 120 (Hx.start h _) (by kernel_rfl) (by kernel_rfl) fun W hW=>?_
  refine wk_K 7 (by kernel_rfl) (by kernel_rfl) ?_
  refine wk_ac (Hs.eng (dr:=true) (fun _ h=>h.hs)) {} 60 (hW.below (Below.refl _ _).drew) (fun W1 h1=>hlv W1 h1.ht) (by kernel_rfl) (by kernel_rfl) ?_
  rintro W1 e W2 h1 ⟨rfl,h2,k2⟩
  refine ⟨_,0,rfl,nob (by kernel_rfl),wk_S (Hs r (hartR hh r :: boxR w.heap.size [(#[.int .i64 95,.int .i64 rd,.int .i64 ia,.int .i64 ib,.int .i64 imm],63)]) (mvc (csM M st) A)) (by kernel_rfl) ?_⟩
  refine wk_adv (Hs.eng (dr:=false) (fun _ h=>h.hs)) {} 60 (h1.to h2 k2) (by kernel_rfl) (by kernel_rfl) fun W3 h3=>?_
  refine wk_sk (by kernel_rfl) (run_stc (i:=2) (T:=2) (v:=.int .i64 lp) h3.mp.row (show 2 < 14 by decide) (by kernel_rfl) rfl) (nob (by kernel_rfl)) ?_
  have h4:=hx_priv st lp h3
  obtain ⟨N,eN⟩:∃ N,N=privM (csM M st) lp:=⟨_,rfl⟩
  have n32:N.x.length=32:=by rw [eN];unfold privM csM;exact h32
  have n22:N.cs.length=22:=by rw [eN];unfold privM csM;exact hln
  rw [← eN] at h4 ⊢
  clear eN
  refine wk_S (Hs r (hartR hh r :: boxR w.heap.size [(#[.int .i64 95,.int .i64 rd,.int .i64 ia,.int .i64 ib,.int .i64 imm],63)]) (mvc N A)) (by kernel_rfl) ?_
  exact Hx.last (Hs.eng (dr:=true) (fun _ h=>h.hs)) { cv:=[(76,cvS fun W (hW:Hx B r (hartR hh r :: boxR w.heap.size [(#[.int .i64 95,.int .i64 rd,.int .i64 ia,.int .i64 ib,.int .i64 imm],63)]) M A w N A W)=>drop_any N A B hh r W hW.ht)] } 60 h4 (fun W hW=>done_r 0 0 la (by decide) (by decide) hW.ht n32 n22) rfl (by kernel_rfl) (by kernel_rfl) (fun _=>by kernel_rfl)
 ·have eV2:(trapM M 2 false x,2)=V:=eV
  subst eV2
  exact Hx.last (Hs.eng (dr:=true) (fun _ h=>h.hs)) { eq:=[(48,eqB g3),(55,eqB g0)] } 120 (Hx.start h _) (fun W hW=>trap_r 2 (by decide) x hW.ht hg) rfl (by kernel_rfl) (by kernel_rfl) (fun _=>by kernel_rfl)

set_option maxRecDepth 100000 in
theorem system_96 (rd ia ib imm a x:Int) (hx:U x) (h:Ht B hh r M A w) (hg:Gd M) :
 Calls Tryz.prog 69 #[.pointer (some ⟨hh,0,none⟩),.agg #[.int .i64 96,.int .i64 rd,.int .i64 ia,.int .i64 ib,.int .i64 imm],.int .u64 a,.int .u64 x] w (HR B hh r M A w (sysM M ⟨96,rd,ia,ib,imm⟩ x)):=by
 obtain ⟨V,hV⟩:∃ V,sysM M ⟨96,rd,ia,ib,imm⟩ x=V:=⟨_,rfl⟩
 rw [hV]
 have h22:=(mach_parts hg.ok).1
 have h32:=hg.x32
 refine wk_go (S:=Hs r (hartR hh r :: boxR w.heap.size [(#[.int .i64 96,.int .i64 rd,.int .i64 ia,.int .i64 ib,.int .i64 imm],63)]) (mvc M A)) (args:=[.pointer (some ⟨hh,0,none⟩),.agg #[.int .i64 96,.int .i64 rd,.int .i64 ia,.int .i64 ib,.int .i64 imm],.int .u64 a,.int .u64 x]) [(#[.int .i64 96,.int .i64 rd,.int .i64 ia,.int .i64 ib,.int .i64 imm],63)] Tryz.func69 rfl (by kernel_rfl) (by kernel_rfl) ?_
 refine wk_tag 0 2 (wk_tag 5 3 ?_)
 have hlv:=fun (W:World) (hW:Ht B hh r M A W)=>l5Leave_ht hW h22 true
 have hln:(M.cs.set 0 (leaveS (M.cs.getD 0 0) true)).length=22:=by rw [List.length_set];exact h22
 have eV:(if (((((96:Int)==96))&&(M.pr != 3))||(M.pr==0))=true then (trapM M 2 false x,2) else (doneM (privM (csM M (M.cs.set 0 (leaveS (M.cs.getD 0 0) true))) (leaveP (M.cs.getD 0 0) true)) 0 0 (leaveAt M.cs true),1))=V:=hV
 clear hV
 generalize M.cs.set 0 (leaveS (M.cs.getD 0 0) true)=st at hlv hln eV
 generalize leaveP (M.cs.getD 0 0) true=lp at hlv eV
 generalize leaveAt M.cs true=la at hlv eV
 obtain ⟨p3,g3⟩:∃ b,(M.pr != 3)=b:=⟨_,rfl⟩
 obtain ⟨p0,g0⟩:∃ b,(M.pr==0)=b:=⟨_,rfl⟩
 rw [g3,g0] at eV
 cases p3<;>cases p0
 ·have eV2:(doneM (privM (csM M st) lp) 0 0 la,1)=V:=eV
  subst eV2
  refine wk_adv (Hs.eng (dr:=false) (fun _ h=>h.hs)) { eq:=[(48,eqB g3),(55,eqB g0)] } 120 (Hx.start h _) (by kernel_rfl) (by kernel_rfl) fun W hW=>?_
  refine wk_K 7 (by kernel_rfl) (by kernel_rfl) ?_
  refine wk_ac (Hs.eng (dr:=true) (fun _ h=>h.hs)) {} 60 (hW.below (Below.refl _ _).drew) (fun W1 h1=>hlv W1 h1.ht) (by kernel_rfl) (by kernel_rfl) ?_
  rintro W1 e W2 h1 ⟨rfl,h2,k2⟩
  refine ⟨_,0,rfl,nob (by kernel_rfl),wk_S (Hs r (hartR hh r :: boxR w.heap.size [(#[.int .i64 96,.int .i64 rd,.int .i64 ia,.int .i64 ib,.int .i64 imm],63)]) (mvc (csM M st) A)) (by kernel_rfl) ?_⟩
  refine wk_adv (Hs.eng (dr:=false) (fun _ h=>h.hs)) {} 60 (h1.to h2 k2) (by kernel_rfl) (by kernel_rfl) fun W3 h3=>?_
  refine wk_sk (by kernel_rfl) (run_stc (i:=2) (T:=2) (v:=.int .i64 lp) h3.mp.row (show 2 < 14 by decide) (by kernel_rfl) rfl) (nob (by kernel_rfl)) ?_
  have h4:=hx_priv st lp h3
  obtain ⟨N,eN⟩:∃ N,N=privM (csM M st) lp:=⟨_,rfl⟩
  have n32:N.x.length=32:=by rw [eN];unfold privM csM;exact h32
  have n22:N.cs.length=22:=by rw [eN];unfold privM csM;exact hln
  rw [← eN] at h4 ⊢
  clear eN
  refine wk_S (Hs r (hartR hh r :: boxR w.heap.size [(#[.int .i64 96,.int .i64 rd,.int .i64 ia,.int .i64 ib,.int .i64 imm],63)]) (mvc N A)) (by kernel_rfl) ?_
  exact Hx.last (Hs.eng (dr:=true) (fun _ h=>h.hs)) { cv:=[(76,cvS fun W (hW:Hx B r (hartR hh r :: boxR w.heap.size [(#[.int .i64 96,.int .i64 rd,.int .i64 ia,.int .i64 ib,.int .i64 imm],63)]) M A w N A W)=>drop_any N A B hh r W hW.ht)] } 60 h4 (fun W hW=>done_r 0 0 la (by decide) (by decide) hW.ht n32 n22) rfl (by kernel_rfl) (by kernel_rfl) (fun _=>by kernel_rfl)
 ·have eV2:(trapM M 2 false x,2)=V:=eV
  subst eV2
  exact Hx.last (Hs.eng (dr:=true) (fun _ h=>h.hs)) { eq:=[(48,eqB g3),(55,eqB g0)] } 120 (Hx.start h _) (fun W hW=>trap_r 2 (by decide) x hW.ht hg) rfl (by kernel_rfl) (by kernel_rfl) (fun _=>by kernel_rfl)
 ·have eV2:(trapM M 2 false x,2)=V:=eV
  subst eV2
  exact Hx.last (Hs.eng (dr:=true) (fun _ h=>h.hs)) { eq:=[(48,eqB g3),(55,eqB g0)] } 120 (Hx.start h _) (fun W hW=>trap_r 2 (by decide) x hW.ht hg) rfl (by kernel_rfl) (by kernel_rfl) (fun _=>by kernel_rfl)
 ·have eV2:(trapM M 2 false x,2)=V:=eV
  subst eV2
  exact Hx.last (Hs.eng (dr:=true) (fun _ h=>h.hs)) { eq:=[(48,eqB g3),(55,eqB g0)] } 120 (Hx.start h _) (fun W hW=>trap_r 2 (by decide) x hW.ht hg) rfl (by kernel_rfl) (by kernel_rfl) (fun _=>by kernel_rfl)

set_option maxRecDepth 100000 in
theorem system_97 (rd ia ib imm a x:Int) (hx:U x) (h:Ht B hh r M A w) (hg:Gd M) :
 Calls Tryz.prog 69 #[.pointer (some ⟨hh,0,none⟩),.agg #[.int .i64 97,.int .i64 rd,.int .i64 ia,.int .i64 ib,.int .i64 imm],.int .u64 a,.int .u64 x] w (HR B hh r M A w (sysM M ⟨97,rd,ia,ib,imm⟩ x)):=by
 obtain ⟨V,hV⟩:∃ V,sysM M ⟨97,rd,ia,ib,imm⟩ x=V:=⟨_,rfl⟩
 rw [hV]
 have h22:=(mach_parts hg.ok).1
 have h32:=hg.x32
 refine wk_go (S:=Hs r (hartR hh r :: boxR w.heap.size [(#[.int .i64 97,.int .i64 rd,.int .i64 ia,.int .i64 ib,.int .i64 imm],63)]) (mvc M A)) (args:=[.pointer (some ⟨hh,0,none⟩),.agg #[.int .i64 97,.int .i64 rd,.int .i64 ia,.int .i64 ib,.int .i64 imm],.int .u64 a,.int .u64 x]) [(#[.int .i64 97,.int .i64 rd,.int .i64 ia,.int .i64 ib,.int .i64 imm],63)] Tryz.func69 rfl (by kernel_rfl) (by kernel_rfl) ?_
 refine wk_tag 0 2 (wk_tag 5 3 ?_)
 have eV:(if (M.pr==0)=true then (trapM M 2 false x,2) else (doneM (waitM M true) 0 0 (IntKind.u64.wrap (M.pc+4)),1))=V:=hV
 clear hV
 cases g0:(M.pr==0) with
 | true =>
   rw [g0,if_pos rfl] at eV
   subst eV
   exact Hx.last (Hs.eng (dr:=true) (fun _ h=>h.hs)) { eq:=[(84,eqB g0)] } 120 (Hx.start h _) (fun W hW=>trap_r 2 (by decide) x hW.ht hg) rfl (by kernel_rfl) (by kernel_rfl) (fun _=>by kernel_rfl)
 | false =>
   rw [g0,if_neg (by decide)] at eV
   subst eV
   refine wk_adv (Hs.eng (dr:=false) (fun _ h=>h.hs)) { eq:=[(84,eqB g0)] } 120 (Hx.start h _) (by kernel_rfl) (by kernel_rfl) fun W3 h3=>?_
   refine wk_sk (by kernel_rfl) (run_stc (i:=13) (T:=4) (v:=.bool true) h3.mp.row (show 13 < 14 by decide) (by kernel_rfl) rfl) (nob (by kernel_rfl)) ?_
   have h4:=h3.fld (M':=waitM M true) 13 (.bool true) rfl rfl
   refine wk_S (Hs r (hartR hh r :: boxR w.heap.size [(#[.int .i64 97,.int .i64 rd,.int .i64 ia,.int .i64 ib,.int .i64 imm],63)]) (mvc (waitM M true) A)) (by kernel_rfl) ?_
   exact Hx.last (Hs.eng (dr:=true) (fun _ h=>h.hs)) {} 60 h4 (fun W hW=>done_r 0 0 _ (by decide) (by decide) hW.ht hg.x32 h22) rfl (by kernel_rfl) (by kernel_rfl) (fun _=>by kernel_rfl)

set_option maxRecDepth 100000 in
theorem system_98 (rd ia ib imm a x:Int) (hx:U x) (h:Ht B hh r M A w) (hg:Gd M) :
 Calls Tryz.prog 69 #[.pointer (some ⟨hh,0,none⟩),.agg #[.int .i64 98,.int .i64 rd,.int .i64 ia,.int .i64 ib,.int .i64 imm],.int .u64 a,.int .u64 x] w (HR B hh r M A w (sysM M ⟨98,rd,ia,ib,imm⟩ x)):=by
 obtain ⟨V,hV⟩:∃ V,sysM M ⟨98,rd,ia,ib,imm⟩ x=V:=⟨_,rfl⟩
 rw [hV]
 have h22:=(mach_parts hg.ok).1
 have h32:=hg.x32
 refine wk_go (S:=Hs r (hartR hh r :: boxR w.heap.size [(#[.int .i64 98,.int .i64 rd,.int .i64 ia,.int .i64 ib,.int .i64 imm],63)]) (mvc M A)) (args:=[.pointer (some ⟨hh,0,none⟩),.agg #[.int .i64 98,.int .i64 rd,.int .i64 ia,.int .i64 ib,.int .i64 imm],.int .u64 a,.int .u64 x]) [(#[.int .i64 98,.int .i64 rd,.int .i64 ia,.int .i64 ib,.int .i64 imm],63)] Tryz.func69 rfl (by kernel_rfl) (by kernel_rfl) ?_
 refine wk_tag 0 2 (wk_tag 5 3 ?_)
 have eV:(if (M.pr==0)=true then (trapM M 2 false x,2) else (doneM M 0 0 (IntKind.u64.wrap (M.pc+4)),1))=V:=hV
 clear hV
 cases g0:(M.pr==0) with
 | true =>
   rw [g0,if_pos rfl] at eV
   subst eV
   exact Hx.last (Hs.eng (dr:=true) (fun _ h=>h.hs)) { eq:=[(84,eqB g0)] } 120 (Hx.start h _) (fun W hW=>trap_r 2 (by decide) x hW.ht hg) rfl (by kernel_rfl) (by kernel_rfl) (fun _=>by kernel_rfl)
 | false =>
   rw [g0,if_neg (by decide)] at eV
   subst eV
   exact Hx.last (Hs.eng (dr:=true) (fun _ h=>h.hs)) { eq:=[(84,eqB g0)] } 150 (Hx.start h _) (fun W hW=>done_r 0 0 _ (by decide) (by decide) hW.ht hg.x32 h22) rfl (by kernel_rfl) (by kernel_rfl) (fun _=>by kernel_rfl)

theorem system_r (i:Ins) (a x:Int) (h93:93≤i.op) (h98:i.op≤98) (hx:U x) (h:Ht B hh r M A w) (hg:Gd M) :
 Calls Tryz.prog 69 #[.pointer (some ⟨hh,0,none⟩),.agg #[.int .i64 i.op,.int .i64 i.rd,.int .i64 i.a,.int .i64 i.b,.int .i64 i.imm],.int .u64 a,.int .u64 x] w (HR B hh r M A w (sysM M i x)):=by
 obtain ⟨op,rd,ia,ib,imm⟩:=i
 dsimp only at h93 h98 ⊢
 obtain rfl | rfl | rfl | rfl | rfl | rfl:op=93∨op=94∨op=95∨op=96∨op=97∨op=98:=by omega
 ·exact system_93 rd ia ib imm a x hx h hg
 ·exact system_94 rd ia ib imm a x hx h hg
 ·exact system_95 rd ia ib imm a x hx h hg
 ·exact system_96 rd ia ib imm a x hx h hg
 ·exact system_97 rd ia ib imm a x hx h hg
 ·exact system_98 rd ia ib imm a x hx h hg

end

end Go.Proofs.YtbajeckeeekhnaaGreat
