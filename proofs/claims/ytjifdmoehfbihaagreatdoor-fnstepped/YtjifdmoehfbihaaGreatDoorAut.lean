/- What tactics close often. -/
import Derived.Test.YtjifdmoehfbihaaGreatDoorTig
import Derived.KernelRfl
set_option linter.unusedVariables false
namespace Go.Proofs.YtjifdmoehfbihaaGreatDoor
theorem ab {p:Prop} (h:p:=by omega):p:=h
theorem al {p:Prop} (h:p:=by kernel_rfl):p:=h
theorem ba {p:Prop} (h:p:=by subst p q;kernel_rfl):p:=h
theorem bb {p:Prop} (h:p:=by decide):p:=h
theorem bc {p:Prop} (h:p:=by rw [F.out];rfl):p:=h
theorem bh {p:Prop} (h:p:=by simp;omega):p:=h
theorem bv {p:Prop} (h:p:=by decide +kernel):p:=h
theorem cb {p:Prop} (h:p:=by dsimp only;omega):p:=h
theorem ck {p:Prop} (h:p:=by rw [decide_eq_false_iff_not];omega):p:=h
theorem cp {p:Prop} (h:p:=by simp):p:=h
theorem di {p:Prop} (h:p:=by rw [IntKind.wrap_u64];omega):p:=h
theorem dm {p:Prop} (h:p:=by simp [aI]):p:=h
theorem dv {p:Prop} (h:p:=by simp only [World.size_alloc];omega):p:=h
theorem ef {p:Prop} (h:p:=by rw [aO];exact Nat.le_refl _):p:=h
theorem eh {p:Prop} (h:p:=by unfold cR;dsimp only;rw [if_neg (by omega),if_neg (by omega),if_neg (by omega),if_neg (by omega),if_neg (by omega),if_neg (by omega),if_neg (by omega),if_neg (by omega),if_pos (by omega)]):p:=h
theorem ej {p:Prop} (h:p:=by simpa using h):p:=h
theorem ek {p:Prop} (h:p:=by rw [decide_eq_true_eq];omega):p:=h
theorem el {p:Prop} (h:p:=by show _=_;simp [AF.v,h]):p:=h
theorem eo {p:Prop} (h:p:=by unfold cR;dsimp only;rw [if_neg (by omega),if_neg (by omega),if_neg (by omega),if_neg (by omega),if_neg (by omega),if_neg (by omega),if_neg (by omega),if_pos (by omega)]):p:=h
theorem ep {p:Prop} (h:p:=by unfold cR;dsimp only;rw [if_neg (by omega),if_neg (by omega),if_neg (by omega),if_neg (by omega),if_neg (by omega),if_neg (by omega),if_pos (by omega)]):p:=h
theorem et {p:Prop} (h:p:=by unfold maxLen;omega):p:=h
theorem e8 {p:Prop} (h:p:=by unfold cR;dsimp only;rw [if_neg (by omega),if_neg (by omega),if_neg (by omega),if_neg (by omega),if_neg (by omega),if_pos (by omega)]):p:=h
theorem e9 {p:Prop} (h:p:=by assumption):p:=h
theorem fa {p:Prop} (h:p:=by subst c hx;kernel_rfl):p:=h
theorem fb {p:Prop} (h:p:=by subst c;kernel_rfl):p:=h
theorem fr {p:Prop} (h:p:=by subst c hx b;kernel_rfl):p:=h
theorem g5 {p:Prop} (h:p:=by unfold cR;dsimp only;rw [if_neg (by omega),if_neg (by omega),if_neg (by omega),if_neg (by omega),if_pos (by omega)]):p:=h
theorem ia {p:Prop} (h:p:=by rw [World.size_alloc];omega):p:=h
theorem i2 {p:Prop} (h:p:=by have A:=G.out.2;have M:=q.out.block g H.out;unfold World.frozen? at A ⊢;dsimp only at A ⊢;rw [M];exact A):p:=h
theorem i3 {p:Prop} (h:p:=by constructor<;>(cases bt x 11<;>cases bt x 12<;>decide)):p:=h
theorem i4 {p:Prop} (h:p:=by rw [F.out];exact p.out.below ⟨rfl,rfl,rfl,Nat.le_refl _,λ_ _=>rfl⟩):p:=h
theorem i5 {p:Prop} (h:p:=by simpa using c):p:=h
theorem i6 {p:Prop} (h:p:=by simpa using f):p:=h
theorem j1 {p:Prop} (h:p:=by subst p q;decide):p:=h
theorem ka {p:Prop} (h:p:=by show gn n addr size=false;simp [gn];omega):p:=h
theorem kc {p:Prop} (h:p:=by simp [Fm.at];omega):p:=h
theorem kd {p:Prop} (h:p:=by simpa using b):p:=h
theorem ki {p:Prop} (h:p:=by simpa using d):p:=h
theorem ko {p:Prop} (h:p:=by unfold cR;dsimp only;rw [if_neg (by omega),if_neg (by omega),if_neg (by omega),if_pos (by omega)]):p:=h
theorem kp {p:Prop} (h:p:=by rw [results_tmp2 rfl,p.slot (v:=.u V.1) (by kernel_rfl),p.slot (v:=.bool true) (by kernel_rfl)]):p:=h
theorem kr {p:Prop} (h:p:=by rw [results_tmp2 rfl,p.slot (v:=.u 0) (by kernel_rfl),p.slot (v:=.bool false) (by kernel_rfl)]):p:=h
theorem la {p:Prop} (h:p:=by rw [setRow_size];exact Nat.le_refl _):p:=h
theorem lh {p:Prop} (h:p:=by (repeat apply Below.drew);exact (bal _ _).alloc (by simp) _):p:=h
theorem li {p:Prop} (h:p:=by rw [results_tmp2 rfl,C.slot (v:=.u d) (by kernel_rfl),C.slot (v:=.i f) (by kernel_rfl)]):p:=h
theorem ln {p:Prop} (h:p:=by simp only [MF.v];rw [if_neg (by omega)];rfl):p:=h
theorem lr {p:Prop} (h:p:=by unfold wrap64;omega):p:=h
theorem lx {p:Prop} (h:p:=by simp only [List.mem_cons,List.not_mem_nil,or_false];omega):p:=h
theorem l0 {p:Prop} (h:p:=by cases h):p:=h
theorem l6 {p:Prop} (h:p:=by (have e:=p.out.cell 6 (by omega);rw [dC _ _ _ _ (by omega),G.out] at e;exact e)):p:=h
theorem l7 {p:Prop} (h:p:=by unfold cR;dsimp only;rw [if_neg (by omega),if_neg (by omega),if_pos (by omega)]):p:=h
theorem m5 {p:Prop} (h:p:=by show eM n addr size=0;simp [eM,b.out]):p:=h
theorem ni {p:Prop} (h:p:=by simp [aq]):p:=h
theorem nn {p:Prop} (h:p:=by rw [h.fit.cs];decide):p:=h
theorem ob {p:Prop} (h:p:=by simp only [aO];exact Nat.le_refl _):p:=h
theorem oi {p:Prop} (h:p:=by simp only [MF.v];rw [if_pos h];rfl):p:=h
theorem ph {p:Prop} (h:p:=by simpa using λk=>h ((fg c f).mp k)):p:=h
theorem pm {p:Prop} (h:p:=by simp [World.frozen?,f]):p:=h
theorem pp {p:Prop} (h:p:=by simpa using a):p:=h
theorem ps {p:Prop} (h:p:=by rw [IntKind.wrap_u8];omega):p:=h
theorem qh {p:Prop} (h:p:=by simp only [aJ];rw [hb];exact f.1):p:=h
theorem ri {p:Prop} (h:p:=by subst R;exact ⟨rfl,rfl,rfl⟩):p:=h
theorem ro {p:Prop} (h:p:=by simp [World.cell?,f]):p:=h
theorem sb {p:Prop} (h:p:=by rw [F.out];exact b.out):p:=h
theorem sv {p:Prop} (h:p:=by have:=T.size;omega):p:=h
theorem sy {p:Prop} (h:p:=by rw [IntKind.wrap_i64];omega):p:=h
theorem ta {p:Prop} (h:p:=by intro k h;cases h):p:=h
theorem ti {p:Prop} (h:p:=by rw [b.out,d.out];rfl):p:=h
theorem tk {p:Prop} (h:p:=by simp [fO]):p:=h
theorem tt {p:Prop} (h:p:=by simp [hz]):p:=h
theorem t5 {p:Prop} (h:p:=by rw [hx.1,hx.2.1]):p:=h
theorem ul {p:Prop} (h:p:=by simpa using g):p:=h
theorem un {p:Prop} (h:p:=by cases e):p:=h
theorem uu {p:Prop} (h:p:=by go_wp2;go_ret;exact ⟨bc,rfl⟩):p:=h
theorem vo {p:Prop} (h:p:=by go_wp2;go_ret;exact ⟨rfl,rfl⟩):p:=h
theorem vw {p:Prop} (h:p:=by go_enter func117,ntmps117;go_wp2;go_ret;exact ⟨by rw [c.out];rfl,rfl⟩):p:=h
theorem v8 {p:Prop} (h:p:=by go_wp2_with fail;go_ret;exact ⟨rfl,rfl⟩):p:=h
theorem v9 {p:Prop} (h:p:=by go_enter func51,ntmps51;go_wp2;go_ret;exact ⟨bc,rfl⟩):p:=h
theorem wl {p:Prop} (h:p:=by go_wp2_with fail;exact bodyPost_ret (bN results120 _ _ _ _ _ _ _ rfl xu underlying30 rfl bI) rfl ⟨rfl,oH⟩):p:=h
theorem ww {p:Prop} (h:p:=by go_wp2_with fail;exact bodyPost_ret (cJ results122 _ _ _ _ _ _ _ rfl iX underlying30 rfl bI) rfl ⟨rfl,dZ⟩):p:=h
theorem x7 {p:Prop} (h:p:=by go_enter func122,ntmps122;go_wp2_with fail;exact bodyPost_ret (cJ results122 _ _ _ _ _ _ _ rfl iX underlying30 rfl bI) rfl ⟨rfl,dZ⟩):p:=h
theorem x8 {p:Prop} (h:p:=by go_enter func134,ntmps134;go_wp2_with fail;go_ret;exact ⟨rfl,Below.refl _ _⟩):p:=h
theorem x9 {p:Prop} (h:p:=by go_enter func172,ntmps172;go_wp2_with fail;go_ret;exact ⟨bc,rfl⟩):p:=h
theorem yn {p:Prop} (h:p:=by go_wp2_with fail;go_ret;exact ⟨bc,rfl⟩):p:=h
theorem a00 {p:Prop} (h:p:=by go_enter func103,ntmps103;go_wp2_with fail;go_ret;exact ⟨bc,rfl⟩):p:=h
theorem a01 {p:Prop} (h:p:=by go_wp2_with fail;go_ret;exact ⟨bc,Below.refl _ _⟩):p:=h
theorem a02 {p:Prop} (h:p:=by subst b;go_wp2_with fail;go_ret;exact ⟨bc,rfl⟩):p:=h
theorem a03 {p:Prop} (h:p:=by rw [e,IntKind.wrap_u64,IntKind.wrap_u64];unfold RowKit.wrap64;omega):p:=h
theorem a04 {p:Prop} (h:p:=by rintro e f ⟨rfl,rfl⟩;go_wp2_with fail;go_ret;exact ⟨rfl,rfl⟩):p:=h
theorem a05 {p:Prop} (h:p:=by rintro e j ⟨rfl,rfl⟩;go_wp2_with fail;go_ret;exact ⟨rfl,rfl⟩):p:=h
theorem a06 {p:Prop} (h:p:=by exact ⟨rfl,rfl⟩):p:=h
theorem a07 {p:Prop} (h:p:=by rintro e l ⟨rfl,rfl⟩;go_wp2_with fail;go_ret;exact ⟨bc,rfl⟩):p:=h
theorem a08 {p:Prop} (h:p:=by rw [F];go_enter func224,ntmps224;go_wp2_with fail;exact bodyPost_ret (results_cell_row results224 _ _ _ _ _ _ _ rfl (oK _ _ _) underlying215 rfl jJ) rfl ⟨rfl,(bal _ _).alloc cp _⟩):p:=h
theorem a09 {p:Prop} (h:p:=by rw [F];go_enter func225,ntmps225;go_wp2_with fail;exact bodyPost_ret (results_cell_row results225 _ _ _ _ _ _ _ rfl (oK _ _ _) underlying215 rfl jJ) rfl ⟨rfl,(bal _ _).alloc cp _⟩):p:=h
theorem a0a {p:Prop} (h:p:=by go_wp2_with fail;go_ret;exact ⟨rfl,Below.refl _ _⟩):p:=h
theorem a0b {p:Prop} (h:p:=by go_enter func109,ntmps109;go_wp2_with fail;go_ret;exact ⟨bc,rfl⟩):p:=h
theorem a0c {p:Prop} (h:p:=by go_ret2;exact ⟨rfl,i4,aQ t.out ⟨rfl,rfl,rfl,Nat.le_refl _,λ_ _ _=>rfl⟩⟩):p:=h
theorem a0d {p:Prop} (h:p:=by clear F;go_enter func91,ntmps91;go_wp2_with fail;go_ret;exact ⟨by rw [b.out];rfl,rfl⟩):p:=h
theorem a0e {p:Prop} (h:p:=by rintro e P ⟨rfl,d⟩;exact ⟨rfl,s.out.symm,aa H.out d⟩):p:=h
theorem a0f {p:Prop} (h:p:=by subst c;exact Hx.last (Hs.eng (dr:=true) (λ_ h=>h.hs)) {eq:=[(31,aj m),(39,aj l),(57,aj e)],cv:=[(45,jS λW _=>d W)]} 150 (Hx.start h _) (λW g=>dL 0 bb _ g.ht k)):p:=h
theorem a0g {p:Prop} (h:p:=by subst c;exact Hx.last (Hs.eng (dr:=true) (λ_ h=>h.hs)) {eq:=[(48,aj m),(55,aj l)]} 120 (Hx.start h _) (λW d=>dL 2 bb x d.ht o)):p:=h
theorem a0h {p:Prop} (h:p:=by go_ret2;exact ⟨rfl,aE (c.alloc c.size _) c.size _⟩):p:=h
theorem a0i {p:Prop} (h:p:=by go_enter func199,ntmps199;go_wp2_with fail;go_ret;exact ⟨bc,rfl⟩):p:=h
theorem a0j {p:Prop} (h:p:=by clear h;go_enter func182,ntmps182;go_wp2_with fail;go_ret;exact ⟨bc,rfl⟩):p:=h
theorem a0k {p:Prop} (h:p:=by clear h g;go_enter func182,ntmps182;go_wp2_with fail;go_ret;exact ⟨bc,rfl⟩):p:=h
theorem a0l {p:Prop} (h:p:=by rintro e g ⟨rfl,rfl⟩;go_wp2_with fail;go_ret;exact ⟨rfl,rfl⟩):p:=h
theorem a0m {p:Prop} (h:p:=by simp only [Fm.str];go_enter func125,ntmps125;go_wp2_with fail;go_ret;exact ⟨bc,rfl⟩):p:=h
theorem a0n {p:Prop} (h:p:=by have nw:dS i=false:=(by unfold dS;rw [e,O];rfl);rw [nw,Bool.false_and,if_neg bb,if_neg bb] at f;exact ah _ _ (fin _ _ _ c' l d _ c s C L K g0 f)):p:=h
end Go.Proofs.YtjifdmoehfbihaaGreatDoor
