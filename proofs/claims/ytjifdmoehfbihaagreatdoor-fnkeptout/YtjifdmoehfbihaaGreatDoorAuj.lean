/- What tactics close often. -/
import Derived.Test.YtjifdmoehfbihaaGreatDoorTig
import Derived.KernelRfl
set_option linter.unusedVariables false
namespace Go.Proofs.YtjifdmoehfbihaaGreatDoor
variable {p:Prop}
theorem ab (h:p:=by omega):p:=h
theorem ba (h:p:=by kernel_rfl):p:=h
theorem bb (h:p:=by subst p q;kernel_rfl):p:=h
theorem bc (h:p:=by decide):p:=h
theorem bh (h:p:=by rw [F.out];rfl):p:=h
theorem bv (h:p:=by simp;omega):p:=h
theorem cb (h:p:=by decide +kernel):p:=h
theorem ck (h:p:=by rw [decide_eq_false_iff_not];omega):p:=h
theorem cp (h:p:=by simp):p:=h
theorem di (h:p:=by dsimp only;omega):p:=h
theorem dm (h:p:=by rw [IntKind.wrap_u64];omega):p:=h
theorem dv (h:p:=by simp [aH]):p:=h
theorem ef (h:p:=by rw [decide_eq_true_eq];omega):p:=h
theorem eh (h:p:=by simp only [World.size_alloc];omega):p:=h
theorem ek (h:p:=by rw [aX];exact Nat.le_refl _):p:=h
theorem el (h:p:=by unfold dh;dsimp only;rw [if_neg (by omega),if_neg (by omega),if_neg (by omega),if_neg (by omega),if_neg (by omega),if_neg (by omega),if_neg (by omega),if_neg (by omega),if_pos (by omega)]):p:=h
theorem eo (h:p:=by simpa using h):p:=h
theorem ep (h:p:=by show _=_;simp [AF.v,h]):p:=h
theorem et (h:p:=by unfold maxLen;omega):p:=h
theorem e8 (h:p:=by unfold dh;dsimp only;rw [if_neg (by omega),if_neg (by omega),if_neg (by omega),if_neg (by omega),if_neg (by omega),if_neg (by omega),if_neg (by omega),if_pos (by omega)]):p:=h
theorem e9 (h:p:=by unfold dh;dsimp only;rw [if_neg (by omega),if_neg (by omega),if_neg (by omega),if_neg (by omega),if_neg (by omega),if_neg (by omega),if_pos (by omega)]):p:=h
theorem fa (h:p:=by unfold dh;dsimp only;rw [if_neg (by omega),if_neg (by omega),if_neg (by omega),if_neg (by omega),if_neg (by omega),if_pos (by omega)]):p:=h
theorem fb (h:p:=by assumption):p:=h
theorem fr (h:p:=by subst c hx;kernel_rfl):p:=h
theorem g5 (h:p:=by subst c;kernel_rfl):p:=h
theorem ia (h:p:=by subst c hx b;kernel_rfl):p:=h
theorem i2 (h:p:=by unfold dh;dsimp only;rw [if_neg (by omega),if_neg (by omega),if_neg (by omega),if_neg (by omega),if_pos (by omega)]):p:=h
theorem i3 (h:p:=by simpa using f):p:=h
theorem i4 (h:p:=by rw [World.size_alloc];omega):p:=h
theorem i5 (h:p:=by rw [F.out];exact p.out.below ⟨rfl,rfl,rfl,Nat.le_refl _,λ_ _=>rfl⟩):p:=h
theorem i6 (h:p:=by simpa using c):p:=h
theorem j1 (h:p:=by subst p q;decide):p:=h
theorem ka (h:p:=by simp [Fm.at];omega):p:=h
theorem kc (h:p:=by simpa using d):p:=h
theorem kd (h:p:=by unfold dh;dsimp only;rw [if_neg (by omega),if_neg (by omega),if_neg (by omega),if_pos (by omega)]):p:=h
theorem ki (h:p:=by show gi R Z size=false;simp [gi];omega):p:=h
theorem ko (h:p:=by rw [results_tmp2 rfl,g.slot (v:=.u d.1) (by kernel_rfl),g.slot (v:=.bool true) (by kernel_rfl)]):p:=h
theorem kp (h:p:=by rw [IntKind.wrap_i64];omega):p:=h
theorem kr (h:p:=by rw [results_tmp2 rfl,g.slot (v:=.u 0) (by kernel_rfl),g.slot (v:=.bool false) (by kernel_rfl)]):p:=h
theorem la (h:p:=by simpa using b):p:=h
theorem lg (h:p:=by rw [setRow_size];exact Nat.le_refl _):p:=h
theorem lh (h:p:=by (repeat apply Below.drew);exact (bal _ _).alloc (by simp) _):p:=h
theorem lr (h:p:=by rw [results_tmp2 rfl,C.slot (v:=.u fm) (by kernel_rfl),C.slot (v:=.i f) (by kernel_rfl)]):p:=h
theorem lx (h:p:=by simp only [MF.v];rw [if_neg (by omega)];rfl):p:=h
theorem l0 (h:p:=by unfold wrap64;omega):p:=h
theorem l5 (h:p:=by simp only [List.mem_cons,List.not_mem_nil,or_false];omega):p:=h
theorem l6 (h:p:=by constructor<;>(cases bt c 11<;>cases bt c 12<;>decide)):p:=h
theorem l7 (h:p:=by cases h):p:=h
theorem m5 (h:p:=by (have e:=p.out.cell 6 (by omega);rw [cR _ _ _ _ (by omega),G.out] at e;exact e)):p:=h
theorem ni (h:p:=by unfold dh;dsimp only;rw [if_neg (by omega),if_neg (by omega),if_pos (by omega)]):p:=h
theorem nn (h:p:=by simp [aj]):p:=h
theorem ob (h:p:=by simp [World.frozen?,cap]):p:=h
theorem oi (h:p:=by simpa using a):p:=h
theorem ph (h:p:=by rw [e2];decide):p:=h
theorem pp (h:p:=by rw [h.fit.cs];decide):p:=h
theorem ps (h:p:=by show fi R Z size=0;simp [fi,b.out]):p:=h
theorem py (h:p:=by simp only [aX];exact Nat.le_refl _):p:=h
theorem qh (h:p:=by simpa using λk=>h ((fz c f).mp k)):p:=h
theorem ri (h:p:=by simp only [MF.v];rw [if_pos h];rfl):p:=h
theorem ro (h:p:=by simp [World.cell?,cap]):p:=h
theorem rz (h:p:=by rw [IntKind.wrap_u8];omega):p:=h
theorem sb (h:p:=by simp only [aK];rw [hb];exact f.1):p:=h
theorem sv (h:p:=by subst R;exact ⟨rfl,rfl,rfl⟩):p:=h
theorem sx (h:p:=by rw [l.out];rfl):p:=h
theorem sy (h:p:=by rw [F.out];exact b.out):p:=h
theorem ta (h:p:=by have:=T.size;omega):p:=h
theorem ti (h:p:=by simp [Value.oneCell']):p:=h
theorem tk (h:p:=by intro k h;cases h):p:=h
theorem tt (h:p:=by rw [b.out,d.out];rfl):p:=h
theorem t5 (h:p:=by simp [gj]):p:=h
theorem vo (h:p:=by simp [hz]):p:=h
theorem vw (h:p:=by rw [hx.1,hx.2.1]):p:=h
theorem v8 (h:p:=by simpa using g):p:=h
theorem v9 (h:p:=by go_wp2;go_ret;exact ⟨bh,rfl⟩):p:=h
theorem wl (h:p:=by go_wp2;go_ret;exact ⟨rfl,rfl⟩):p:=h
theorem ww (h:p:=by go_enter func117,ntmps117;go_wp2;go_ret;exact ⟨by rw [c.out];rfl,rfl⟩):p:=h
theorem x7 (h:p:=by go_wp2_with fail;go_ret;exact ⟨rfl,rfl⟩):p:=h
theorem x8 (h:p:=by go_enter func51,ntmps51;go_wp2;go_ret;exact ⟨bh,rfl⟩):p:=h
theorem x9 (h:p:=by go_wp2_with fail;exact bodyPost_ret (bU results120 _ _ _ _ _ _ _ rfl yw underlying30 rfl bO) rfl ⟨rfl,po⟩):p:=h
theorem yn (h:p:=by go_wp2_with fail;exact bodyPost_ret (cW results122 _ _ _ _ _ _ _ rfl jq underlying30 rfl bO) rfl ⟨rfl,eO⟩):p:=h
theorem zz (h:p:=by go_enter func122,ntmps122;go_wp2_with fail;exact bodyPost_ret (cW results122 _ _ _ _ _ _ _ rfl jq underlying30 rfl bO) rfl ⟨rfl,eO⟩):p:=h
theorem a00 (h:p:=by go_enter func134,ntmps134;go_wp2_with fail;go_ret;exact ⟨rfl,Below.refl _ _⟩):p:=h
theorem a01 (h:p:=by go_enter func172,ntmps172;go_wp2_with fail;go_ret;exact ⟨bh,rfl⟩):p:=h
theorem a02 (h:p:=by go_wp2_with fail;go_ret;exact ⟨bh,rfl⟩):p:=h
theorem a03 (h:p:=by go_enter func103,ntmps103;go_wp2_with fail;go_ret;exact ⟨bh,rfl⟩):p:=h
theorem a04 (h:p:=by go_wp2_with fail;go_ret;exact ⟨bh,Below.refl _ _⟩):p:=h
theorem a05 (h:p:=by subst b;go_wp2_with fail;go_ret;exact ⟨bh,rfl⟩):p:=h
theorem a06 (h:p:=by rw [e,IntKind.wrap_u64,IntKind.wrap_u64];unfold RowKit.wrap64;omega):p:=h
theorem a07 (h:p:=by exact ⟨rfl,rfl⟩):p:=h
theorem a08 (h:p:=by go_wp2_with fail;go_ret;exact ⟨rfl,Below.refl _ _⟩):p:=h
theorem a09 (h:p:=by rw [F];go_enter func224,ntmps224;go_wp2_with fail;exact bodyPost_ret (results_cell_row results224 _ _ _ _ _ _ _ rfl (pw _ _ _) underlying215 rfl j4) rfl ⟨rfl,(bal _ _).alloc cp _⟩):p:=h
theorem a0a (h:p:=by rw [F];go_enter func225,ntmps225;go_wp2_with fail;exact bodyPost_ret (results_cell_row results225 _ _ _ _ _ _ _ rfl (pw _ _ _) underlying215 rfl j4) rfl ⟨rfl,(bal _ _).alloc cp _⟩):p:=h
theorem a0b (h:p:=by go_enter func109,ntmps109;go_wp2_with fail;go_ret;exact ⟨bh,rfl⟩):p:=h
theorem a0c (h:p:=by go_ret2;exact ⟨rfl,i5,aZ t.out ⟨rfl,rfl,rfl,Nat.le_refl _,λ_ _ _=>rfl⟩⟩):p:=h
theorem a0d (h:p:=by rintro e f ⟨rfl,rfl⟩;go_wp2_with fail;go_ret;exact ⟨rfl,rfl⟩):p:=h
theorem a0e (h:p:=by rintro e j ⟨rfl,rfl⟩;go_wp2_with fail;go_ret;exact ⟨rfl,rfl⟩):p:=h
theorem a0f (h:p:=by rintro e l ⟨rfl,rfl⟩;go_wp2_with fail;go_ret;exact ⟨bh,rfl⟩):p:=h
theorem a0g (h:p:=by clear h;go_enter func182,ntmps182;go_wp2_with fail;go_ret;exact ⟨bh,rfl⟩):p:=h
theorem a0h (h:p:=by clear h g;go_enter func182,ntmps182;go_wp2_with fail;go_ret;exact ⟨bh,rfl⟩):p:=h
theorem a0i (h:p:=by rintro e g ⟨rfl,rfl⟩;go_wp2_with fail;go_ret;exact ⟨rfl,rfl⟩):p:=h
theorem a0j (h:p:=by simp only [Fm.str];go_enter func125,ntmps125;go_wp2_with fail;go_ret;exact ⟨bh,rfl⟩):p:=h
theorem a0k (h:p:=by go_ret2;exact ⟨rfl,aI (c.alloc c.size _) c.size _⟩):p:=h
theorem a0l (h:p:=by subst c;exact Hx.last (Hs.eng (dr:=true) (λ_ h=>h.hs)) {eq:=[(31,ak m),(39,ak hh),(57,ak e)],cv:=[(45,kj λW _=>d W)]} 150 (Hx.start h _) (λW g=>dZ 0 bc _ g.ht k)):p:=h
theorem a0m (h:p:=by subst c;exact Hx.last (Hs.eng (dr:=true) (λ_ h=>h.hs)) {eq:=[(48,ak m),(55,ak A)]} 120 (Hx.start h _) (λW d=>dZ 2 bc x d.ht o)):p:=h
theorem a0n (h:p:=by clear F;go_enter func91,ntmps91;go_wp2_with fail;go_ret;exact ⟨by rw [b.out];rfl,rfl⟩):p:=h
theorem a0o (h:p:=by rintro e P ⟨rfl,d⟩;exact ⟨rfl,n.out.symm,aa H.out d⟩):p:=h
theorem a0p (h:p:=by go_enter func199,ntmps199;go_wp2_with fail;go_ret;exact ⟨bh,rfl⟩):p:=h
theorem a0q (h:p:=by have nw:eD d=false:=(by unfold eD;rw [wd,O];rfl);rw [nw,Bool.false_and,if_neg bc,if_neg bc] at f;exact af _ _ (fin _ _ _ c' l i _ g s C L K g0 f)):p:=h
theorem a0r (h:p:=by exact jA (R:=[]) trivial {} 40 (u.1 1 _ rfl) rfl (dp _ _) underlying32 ⟨zeroA,none,0,rfl,j7 _ _ _,⟨rfl,.inl ⟨rfl,rfl⟩⟩,aS u.2 ab _⟩):p:=h
end Go.Proofs.YtjifdmoehfbihaaGreatDoor
