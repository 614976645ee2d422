/- What tactics close often. -/
import Derived.Test.YtfekjlcnnjhofaaGreatDoorTig
import Derived.KernelRfl
set_option linter.unusedVariables false
namespace Go.Proofs.YtfekjlcnnjhofaaGreatDoor
variable {p:Prop}
theorem ab (h:p:=by omega):p:=h
theorem ba (h:p:=by kernel_rfl):p:=h
theorem bb (h:p:=by subst p q;kernel_rfl):p:=h
theorem bc (h:p:=by decide):p:=h
theorem bh (h:p:=by rw [F.out];rfl):p:=h
theorem bv (h:p:=by simp;omega):p:=h
theorem cb (h:p:=by dsimp only;omega):p:=h
theorem ck (h:p:=by rw [decide_eq_false_iff_not];omega):p:=h
theorem cp (h:p:=by decide +kernel):p:=h
theorem di (h:p:=by simp):p:=h
theorem dv (h:p:=by rw [IntKind.wrap_u64];omega):p:=h
theorem ef (h:p:=by simp [aF]):p:=h
theorem eh (h:p:=by simp only [World.size_alloc];omega):p:=h
theorem ek (h:p:=by rw [decide_eq_true_eq];omega):p:=h
theorem ep (h:p:=by rw [aO];exact Nat.le_refl _):p:=h
theorem et (h:p:=by simpa using h):p:=h
theorem e8 (h:p:=by rw [IntKind.wrap_i64];omega):p:=h
theorem e9 (h:p:=by unfold dg;dsimp only;rw [if_neg (by omega),if_neg (by omega),if_neg (by omega),if_neg (by omega),if_neg (by omega),if_neg (by omega),if_neg (by omega),if_neg (by omega),if_pos (by omega)]):p:=h
theorem fa (h:p:=by show _=_;simp [AF.v,h]):p:=h
theorem fb (h:p:=by unfold maxLen;omega):p:=h
theorem fr (h:p:=by unfold dg;dsimp only;rw [if_neg (by omega),if_neg (by omega),if_neg (by omega),if_neg (by omega),if_neg (by omega),if_neg (by omega),if_neg (by omega),if_pos (by omega)]):p:=h
theorem g5 (h:p:=by unfold dg;dsimp only;rw [if_neg (by omega),if_neg (by omega),if_neg (by omega),if_neg (by omega),if_neg (by omega),if_neg (by omega),if_pos (by omega)]):p:=h
theorem ia (h:p:=by simp [Value.oneCell']):p:=h
theorem i2 (h:p:=by unfold dg;dsimp only;rw [if_neg (by omega),if_neg (by omega),if_neg (by omega),if_neg (by omega),if_neg (by omega),if_pos (by omega)]):p:=h
theorem i3 (h:p:=by subst c hx;kernel_rfl):p:=h
theorem i4 (h:p:=by subst c;kernel_rfl):p:=h
theorem i5 (h:p:=by subst c hx b;kernel_rfl):p:=h
theorem i6 (h:p:=by unfold dg;dsimp only;rw [if_neg (by omega),if_neg (by omega),if_neg (by omega),if_neg (by omega),if_pos (by omega)]):p:=h
theorem j1 (h:p:=by rw [World.size_alloc];omega):p:=h
theorem ka (h:p:=by rw [F.out];exact p.out.below ⟨rfl,rfl,rfl,Nat.le_refl _,λ_ _=>rfl⟩):p:=h
theorem kc (h:p:=by simpa using c):p:=h
theorem kd (h:p:=by simpa using f):p:=h
theorem ki (h:p:=by subst p q;decide):p:=h
theorem ko (h:p:=by simp only [aO];exact Nat.le_refl _):p:=h
theorem kp (h:p:=by rw [results_tmp2 rfl,addr.slot (v:=.u j.1) (by kernel_rfl),addr.slot (v:=.bool true) (by kernel_rfl)]):p:=h
theorem kr (h:p:=by rw [results_tmp2 rfl,addr.slot (v:=.u 0) (by kernel_rfl),addr.slot (v:=.bool false) (by kernel_rfl)]):p:=h
theorem la (h:p:=by simp [Fm.at];omega):p:=h
theorem lg (h:p:=by simpa using d):p:=h
theorem lh (h:p:=by unfold dg;dsimp only;rw [if_neg (by omega),if_neg (by omega),if_neg (by omega),if_pos (by omega)]):p:=h
theorem li (h:p:=by rw [results_tmp2 rfl,M.slot (v:=.u va) (by kernel_rfl),M.slot (v:=.slice E D c) (by kernel_rfl)]):p:=h
theorem lr (h:p:=by have:=A.out;simp only [World.size_alloc];omega):p:=h
theorem lw (h:p:=by simpa using b):p:=h
theorem lx (h:p:=by rw [IntKind.wrap_u8];omega):p:=h
theorem l6 (h:p:=by (repeat apply Below.drew);exact (bal _ _).alloc (by simp) _):p:=h
theorem l7 (h:p:=by rw [results_tmp2 rfl,C.slot (v:=.u fm) (by kernel_rfl),C.slot (v:=.i f) (by kernel_rfl)]):p:=h
theorem m5 (h:p:=by show gQ N Y Z=false;simp [gQ];omega):p:=h
theorem ni (h:p:=by cases h):p:=h
theorem nn (h:p:=by simp only [MF.v];rw [if_neg (by omega)];rfl):p:=h
theorem ob (h:p:=by unfold wrap64;omega):p:=h
theorem oi (h:p:=by simp only [List.mem_cons,List.not_mem_nil,or_false];omega):p:=h
theorem ph (h:p:=by rw [e2];decide):p:=h
theorem ps (h:p:=by constructor<;>(cases bt x 11<;>cases bt x 12<;>decide)):p:=h
theorem qh (h:p:=by (have e:=p.out.cell 6 (by omega);rw [gq _ _ _ _ (by omega),G.out] at e;exact e)):p:=h
theorem ri (h:p:=by unfold dg;dsimp only;rw [if_neg (by omega),if_neg (by omega),if_pos (by omega)]):p:=h
theorem ro (h:p:=by simp [ak]):p:=h
theorem rz (h:p:=by rw [setRow_size];exact Nat.le_refl _):p:=h
theorem sb (h:p:=by rw [h.fit.cs];decide):p:=h
theorem sv (h:p:=by simpa using λk=>h ((fA c f).mp k)):p:=h
theorem sx (h:p:=by simp only [MF.v];rw [if_pos h];rfl):p:=h
theorem sy (h:p:=by simp [World.frozen?,f]):p:=h
theorem ta (h:p:=by simpa using a):p:=h
theorem ti (h:p:=by simp only [aG];rw [hb];exact f.1):p:=h
theorem tk (h:p:=by simp [eX]):p:=h
theorem tt (h:p:=by show fd N Y Z=0;simp [fd,b.out]):p:=h
theorem t5 (h:p:=by simp [World.cell?,f]):p:=h
theorem vo (h:p:=by rw [h.2];exact Below.refl _ _):p:=h
theorem vw (h:p:=by rw [F.out];exact b.out):p:=h
theorem v8 (h:p:=by have:=T.size;omega):p:=h
theorem v9 (h:p:=by rw [e2];kernel_rfl):p:=h
theorem wl (h:p:=by intro k h;cases h):p:=h
theorem ww (h:p:=by rw [b.out,d.out];rfl):p:=h
theorem x7 (h:p:=by simp [hz]):p:=h
theorem x8 (h:p:=by rw [hx.1,hx.2.1]):p:=h
theorem x9 (h:p:=by simpa using g):p:=h
theorem yn (h:p:=by cases e):p:=h
theorem zz (h:p:=by go_wp2;go_ret;exact ⟨bh,rfl⟩):p:=h
theorem a00 (h:p:=by go_wp2;go_ret;exact ⟨rfl,rfl⟩):p:=h
theorem a01 (h:p:=by go_enter func94,ntmps94;go_wp2;go_ret;exact ⟨by rw [c.out];rfl,rfl⟩):p:=h
theorem a02 (h:p:=by go_wp2_with fail;go_ret;exact ⟨rfl,rfl⟩):p:=h
theorem a03 (h:p:=by go_enter func47,ntmps47;go_wp2;go_ret;exact ⟨bh,rfl⟩):p:=h
theorem a04 (h:p:=by go_wp2_with fail;exact bodyPost_ret (bM results96 _ _ _ _ _ _ _ rfl yp underlying27 rfl aU) rfl ⟨rfl,pn⟩):p:=h
theorem a05 (h:p:=by go_wp2_with fail;exact bodyPost_ret (cL results97 _ _ _ _ _ _ _ rfl ju underlying27 rfl aU) rfl ⟨rfl,eD⟩):p:=h
theorem a06 (h:p:=by go_enter func97,ntmps97;go_wp2_with fail;exact bodyPost_ret (cL results97 _ _ _ _ _ _ _ rfl ju underlying27 rfl aU) rfl ⟨rfl,eD⟩):p:=h
theorem a07 (h:p:=by go_enter func108,ntmps108;go_wp2_with fail;go_ret;exact ⟨rfl,Below.refl _ _⟩):p:=h
theorem a08 (h:p:=by go_enter func78,ntmps78;go_wp2_with fail;go_ret;exact ⟨bh,rfl⟩):p:=h
theorem a09 (h:p:=by go_wp2_with fail;go_ret;exact ⟨bh,rfl⟩):p:=h
theorem a0a (h:p:=by go_enter func46,ntmps46;go_wp2_with fail;go_ret;exact ⟨bh,rfl⟩):p:=h
theorem a0b (h:p:=by go_wp2_with fail;go_ret;exact ⟨bh,Below.refl _ _⟩):p:=h
theorem a0c (h:p:=by subst b;go_wp2_with fail;go_ret;exact ⟨bh,rfl⟩):p:=h
theorem a0d (h:p:=by rw [e,IntKind.wrap_u64,IntKind.wrap_u64];unfold RowKit.wrap64;omega):p:=h
theorem a0e (h:p:=by exact ⟨rfl,rfl⟩):p:=h
theorem a0f (h:p:=by go_wp2_with fail;go_ret;exact ⟨rfl,Below.refl _ _⟩):p:=h
theorem a0g (h:p:=by rw [F];go_enter func126,ntmps126;go_wp2_with fail;exact bodyPost_ret (results_cell_row results126 _ _ _ _ _ _ _ rfl (pw _ _ _) underlying169 rfl j4) rfl ⟨rfl,(bal _ _).alloc di _⟩):p:=h
theorem a0h (h:p:=by rw [F];go_enter func127,ntmps127;go_wp2_with fail;exact bodyPost_ret (results_cell_row results127 _ _ _ _ _ _ _ rfl (pw _ _ _) underlying169 rfl j4) rfl ⟨rfl,(bal _ _).alloc di _⟩):p:=h
theorem a0i (h:p:=by go_enter func50,ntmps50;go_wp2_with fail;go_ret;exact ⟨bh,rfl⟩):p:=h
theorem a0j (h:p:=by go_ret2;exact ⟨rfl,ka,aY t.out ⟨rfl,rfl,rfl,Nat.le_refl _,λ_ _ _=>rfl⟩⟩):p:=h
theorem a0k (h:p:=by rintro e f ⟨rfl,rfl⟩;go_wp2_with fail;go_ret;exact ⟨rfl,rfl⟩):p:=h
theorem a0l (h:p:=by rintro e a ⟨rfl,rfl⟩;go_wp2_with fail;go_ret;exact ⟨rfl,rfl⟩):p:=h
theorem a0m (h:p:=by rintro e l ⟨rfl,rfl⟩;go_wp2_with fail;go_ret;exact ⟨bh,rfl⟩):p:=h
theorem a0n (h:p:=by clear h;go_enter func119,ntmps119;go_wp2_with fail;go_ret;exact ⟨bh,rfl⟩):p:=h
theorem a0o (h:p:=by clear h g;go_enter func119,ntmps119;go_wp2_with fail;go_ret;exact ⟨bh,rfl⟩):p:=h
theorem a0p (h:p:=by rintro e g ⟨rfl,rfl⟩;go_wp2_with fail;go_ret;exact ⟨rfl,rfl⟩):p:=h
theorem a0q (h:p:=by simp only [Fm.str];go_enter func99,ntmps99;go_wp2_with fail;go_ret;exact ⟨bh,rfl⟩):p:=h
theorem a0r (h:p:=by go_ret2;exact ⟨rfl,aK (c.alloc c.size _) c.size _⟩):p:=h
theorem a0s (h:p:=by subst c;exact Hx.last (Hs.eng (dr:=true) (λ_ h=>h.hs)) {eq:=[(31,an m),(39,an i),(57,an e)],cv:=[(45,kj λW _=>A W)]} 150 (Hx.start h _) (λW g=>dU 0 bc _ g.ht k)):p:=h
theorem a0t (h:p:=by subst c;exact Hx.last (Hs.eng (dr:=true) (λ_ h=>h.hs)) {eq:=[(48,an m),(55,an rd)]} 120 (Hx.start h _) (λW w=>dU 2 bc A w.ht o)):p:=h
theorem a0u (h:p:=by go_enter func180,ntmps180;go_wp2_with fail;go_ret;exact ⟨bh,rfl⟩):p:=h
theorem a0v (h:p:=by clear F;go_enter func129,ntmps129;go_wp2_with fail;go_ret;exact ⟨by rw [b.out];rfl,rfl⟩):p:=h
theorem a0w (h:p:=by rintro e P ⟨rfl,d⟩;exact ⟨rfl,s.out.symm,aa H.out d⟩):p:=h
theorem a0x (h:p:=by have nw:ee S=false:=(by unfold ee;rw [e,O];rfl);rw [nw,Bool.false_and,if_neg bc,if_neg bc] at f;exact af _ _ (fin _ _ _ c' l d _ c s C L g g0 f)):p:=h
theorem a0y (h:p:=by exact gK (R:=[]) trivial {} 40 (u.1 1 _ rfl) rfl (bO _ _) underlying29 ⟨zeroA,none,0,rfl,gC _ _ _,⟨rfl,.inl ⟨rfl,rfl⟩⟩,aI u.2 ab _⟩):p:=h
theorem JZ9 {c:Prop} {_:Decidable c} (n:¬c) {α:Sort _} {t e:α}:ite c t e=e:=if_neg n
theorem JZ8 {c:Prop} {_:Decidable c} (n:c) {α:Sort _} {t e:α}:ite c t e=t:=if_pos n
theorem JZ7 {p:Prop} {_:Decidable p}:decide p=false<->¬p:=decide_eq_false_iff_not
theorem JZ6 {p:Prop} [Decidable p]:(decide p=true)=p:=decide_eq_true_eq
end Go.Proofs.YtfekjlcnnjhofaaGreatDoor
