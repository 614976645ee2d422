/- What tactics close often. -/
import Derived.Test.YtfagphfjfhpmjaaGreatDoorTig
import Derived.KernelRfl
set_option linter.unusedVariables false
namespace Go.Proofs.YtfagphfjfhpmjaaGreatDoor
variable {p:Prop}
theorem ab (h:p:=by omega):p:=h
theorem a4 (h:p:=by kernel_rfl):p:=h
theorem a5 (h:p:=by subst p q;kernel_rfl):p:=h
theorem a6 (h:p:=by decide):p:=h
theorem a7 (h:p:=by rw [F.out];rfl):p:=h
theorem a8 (h:p:=by simp;omega):p:=h
theorem a9 (h:p:=by dsimp only;omega):p:=h
theorem ba (h:p:=by rw [decide_eq_false_iff_not];omega):p:=h
theorem bb (h:p:=by decide +kernel):p:=h
theorem bc (h:p:=by simp):p:=h
theorem bh (h:p:=by rw [IntKind.wrap_u64];omega):p:=h
theorem bv (h:p:=by simp only [World.size_alloc];omega):p:=h
theorem bw (h:p:=by rw [decide_eq_true_eq];omega):p:=h
theorem ck (h:p:=by simp [aJ]):p:=h
theorem cp (h:p:=by simpa using h):p:=h
theorem di (h:p:=by unfold cR;dsimp only;rw [if_neg (by omega),if_neg (by omega),if_neg (by omega),if_neg (by omega),if_neg (by omega),if_neg (by omega),if_neg (by omega),if_neg (by omega),if_pos (by omega)]):p:=h
theorem dn (h:p:=by show _=_;simp [AF.v,h]):p:=h
theorem d6 (h:p:=by rw [IntKind.wrap_i64];omega):p:=h
theorem d7 (h:p:=by show decide (S=Y)=true;rw [decide_eq_true_eq];have h:=o.out;rw [List.take_of_length_le (by have:=r.out;omega),List.take_of_length_le (by have:=s.out;omega)] at h;exact h):p:=h
theorem d8 (h:p:=by unfold cR;dsimp only;rw [if_neg (by omega),if_neg (by omega),if_neg (by omega),if_neg (by omega),if_neg (by omega),if_neg (by omega),if_neg (by omega),if_pos (by omega)]):p:=h
theorem d9 (h:p:=by have:=hl.x;have:=hl.cs;have:=hl.ram;omega):p:=h
theorem ef (h:p:=by unfold cR;dsimp only;rw [if_neg (by omega),if_neg (by omega),if_neg (by omega),if_neg (by omega),if_neg (by omega),if_neg (by omega),if_pos (by omega)]):p:=h
theorem eh (h:p:=by simp only [aO];exact Nat.le_refl _):p:=h
theorem ek (h:p:=by unfold cR;dsimp only;rw [if_neg (by omega),if_neg (by omega),if_neg (by omega),if_neg (by omega),if_neg (by omega),if_pos (by omega)]):p:=h
theorem eo (h:p:=by subst c hx;kernel_rfl):p:=h
theorem ep (h:p:=by rw [aO];exact Nat.le_refl _):p:=h
theorem et (h:p:=by subst c;kernel_rfl):p:=h
theorem ex (h:p:=by subst c hx b;kernel_rfl):p:=h
theorem ey (h:p:=by unfold cR;dsimp only;rw [if_neg (by omega),if_neg (by omega),if_neg (by omega),if_neg (by omega),if_pos (by omega)]):p:=h
theorem e9 (h:p:=by simpa using f):p:=h
theorem fa (h:p:=by rw [F.out];exact p.out.below ⟨rfl,rfl,rfl,Nat.le_refl _,λ_ _=>rfl⟩):p:=h
theorem fb (h:p:=by unfold maxLen;omega):p:=h
theorem fr (h:p:=by subst p q;decide):p:=h
theorem ia (h:p:=by simp [Fm.at];omega):p:=h
theorem ib (h:p:=by unfold cR;dsimp only;rw [if_neg (by omega),if_neg (by omega),if_neg (by omega),if_pos (by omega)]):p:=h
theorem ih (h:p:=by rw [results_tmp2 rfl,M.slot (v:=.u va) (by kernel_rfl),M.slot (v:=.slice E n c) (by kernel_rfl)]):p:=h
theorem i2 (h:p:=by rw [results_tmp2 rfl,p.slot (v:=.u c.1) (by kernel_rfl),p.slot (v:=.bool true) (by kernel_rfl)]):p:=h
theorem i3 (h:p:=by simp [Value.oneCell']):p:=h
theorem i4 (h:p:=by rw [results_tmp2 rfl,p.slot (v:=.u 0) (by kernel_rfl),p.slot (v:=.bool false) (by kernel_rfl)]):p:=h
theorem i5 (h:p:=by have:=A.out;simp only [World.size_alloc];omega):p:=h
theorem i6 (h:p:=by simpa using b):p:=h
theorem ka (h:p:=by (repeat apply Below.drew);exact (bal _ _).alloc (by simp) _):p:=h
theorem kc (h:p:=by show gU K T V=false;simp [gU];omega):p:=h
theorem kd (h:p:=by cases h):p:=h
theorem ki (h:p:=by show decide (S=Y)=false;rw [decide_eq_false_iff_not];intro h;apply d;rw [B.out,C.out,h]):p:=h
theorem ko (h:p:=by show decide (S=Y)=false;rw [decide_eq_false_iff_not];intro h;apply q;rw [<- hx,<- hy,h]):p:=h
theorem kr (h:p:=by rw [results_tmp2 rfl,C.slot (v:=.u d) (by kernel_rfl),C.slot (v:=.i f) (by kernel_rfl)]):p:=h
theorem la (h:p:=by simp only [MF.v];rw [if_neg (by omega)];rfl):p:=h
theorem lg (h:p:=by unfold wrap64;omega):p:=h
theorem lh (h:p:=by simp only [List.mem_cons,List.not_mem_nil,or_false];omega):p:=h
theorem m5 (h:p:=by (have e:=p.out.cell 6 (by omega);rw [gt _ _ _ _ (by omega),G.out] at e;exact e)):p:=h
theorem oi (h:p:=by unfold cR;dsimp only;rw [if_neg (by omega),if_neg (by omega),if_pos (by omega)]):p:=h
theorem oj (h:p:=by simpa using λk=>h ((fl a f).mp k)):p:=h
theorem ow (h:p:=by simp only [MF.v];rw [if_pos h];rfl):p:=h
theorem ph (h:p:=by simp [World.frozen?,f]):p:=h
theorem ps (h:p:=by simpa using d):p:=h
theorem qh (h:p:=by simpa using a):p:=h
theorem sb (h:p:=by simp only [aG];rw [hb];exact f.1):p:=h
theorem sp (h:p:=by show eR K T V=0;simp [eR,b.out]):p:=h
theorem sv (h:p:=by simp [World.cell?,f]):p:=h
theorem ta (h:p:=by simpa using c):p:=h
theorem ti (h:p:=by rw [h.2];exact Below.refl _ _):p:=h
theorem tk (h:p:=by rw [List.mem_singleton];omega):p:=h
theorem vo (h:p:=by rw [F.out];exact b.out):p:=h
theorem vr (h:p:=by have:=T.size;omega):p:=h
theorem vw (h:p:=by simpa using g):p:=h
theorem v8 (h:p:=by intro k h;cases h):p:=h
theorem v9 (h:p:=by rw [b.out,d.out];rfl):p:=h
theorem ww (h:p:=by simp [hz]):p:=h
theorem x7 (h:p:=by exact u):p:=h
theorem x8 (h:p:=by cases e):p:=h
theorem x9 (h:p:=by simp [fC]):p:=h
theorem yn (h:p:=by rw [h,kind];rfl):p:=h
theorem zz (h:p:=by go_wp2;go_ret;exact ⟨a7,rfl⟩):p:=h
theorem z0 (h:p:=by go_wp2;go_ret;exact ⟨rfl,rfl⟩):p:=h
theorem a00 (h:p:=by go_enter func135,ntmps135;go_wp2;go_ret;exact ⟨by rw [c.out];rfl,rfl⟩):p:=h
theorem a01 (h:p:=by go_wp2_with fail;go_ret;exact ⟨rfl,rfl⟩):p:=h
theorem a02 (h:p:=by rintro e A ⟨rfl,c⟩;subst c;go_wp2_with fail;go_ret;exact ⟨a7,D _⟩):p:=h
theorem a03 (h:p:=by go_enter func61,ntmps61;go_wp2;go_ret;exact ⟨a7,rfl⟩):p:=h
theorem a04 (h:p:=by go_wp2_with fail;exact bodyPost_ret (bF results138 _ _ _ _ _ _ _ rfl xk underlying30 rfl aT) rfl ⟨rfl,oO⟩):p:=h
theorem a05 (h:p:=by go_wp2_with fail;exact bodyPost_ret (dq results139 _ _ _ _ _ _ _ rfl jl underlying30 rfl aT) rfl ⟨rfl,dU⟩):p:=h
theorem a06 (h:p:=by go_enter func139,ntmps139;go_wp2_with fail;exact bodyPost_ret (dq results139 _ _ _ _ _ _ _ rfl jl underlying30 rfl aT) rfl ⟨rfl,dU⟩):p:=h
theorem a07 (h:p:=by go_enter func151,ntmps151;go_wp2_with fail;go_ret;exact ⟨rfl,Below.refl _ _⟩):p:=h
theorem a08 (h:p:=by go_enter func189,ntmps189;go_wp2_with fail;go_ret;exact ⟨a7,rfl⟩):p:=h
theorem a09 (h:p:=by go_wp2_with fail;go_ret;exact ⟨a7,rfl⟩):p:=h
theorem a0a (h:p:=by go_enter func119,ntmps119;go_wp2_with fail;go_ret;exact ⟨a7,rfl⟩):p:=h
theorem a0b (h:p:=by go_wp2_with fail;go_ret;exact ⟨a7,Below.refl _ _⟩):p:=h
theorem a0c (h:p:=by subst b;go_wp2_with fail;go_ret;exact ⟨a7,rfl⟩):p:=h
theorem a0d (h:p:=by rw [e,IntKind.wrap_u64,IntKind.wrap_u64];unfold RowKit.wrap64;omega):p:=h
theorem a0e (h:p:=by rintro e f ⟨rfl,rfl⟩;go_wp2_with fail;go_ret;exact ⟨rfl,rfl⟩):p:=h
theorem a0f (h:p:=by rintro e j ⟨rfl,rfl⟩;go_wp2_with fail;go_ret;exact ⟨rfl,rfl⟩):p:=h
theorem a0g (h:p:=by exact ⟨rfl,rfl⟩):p:=h
theorem a0h (h:p:=by rintro e m ⟨rfl,rfl⟩;go_wp2_with fail;go_ret;exact ⟨a7,rfl⟩):p:=h
theorem a0i (h:p:=by rw [F];go_enter func246,ntmps246;go_wp2_with fail;exact bodyPost_ret (results_cell_row results246 _ _ _ _ _ _ _ rfl (oQ _ _ _) underlying243 rfl jQ) rfl ⟨rfl,(bal _ _).alloc bc _⟩):p:=h
theorem a0j (h:p:=by rw [F];go_enter func247,ntmps247;go_wp2_with fail;exact bodyPost_ret (results_cell_row results247 _ _ _ _ _ _ _ rfl (oQ _ _ _) underlying243 rfl jQ) rfl ⟨rfl,(bal _ _).alloc bc _⟩):p:=h
theorem a0k (h:p:=by go_enter func125,ntmps125;go_wp2_with fail;go_ret;exact ⟨a7,rfl⟩):p:=h
theorem a0l (h:p:=by exact gp (Iv.one c.2.row1) {} 40 λf b=>⟨rfl,(a.then1 c.2).then1 b⟩):p:=h
theorem a0m (h:p:=by go_wp2_with fail;go_ret;exact ⟨rfl,Below.refl _ _⟩):p:=h
theorem a0n (h:p:=by clear h;go_enter func202,ntmps202;go_wp2_with fail;go_ret;exact ⟨a7,rfl⟩):p:=h
theorem a0o (h:p:=by clear h g;go_enter func202,ntmps202;go_wp2_with fail;go_ret;exact ⟨a7,rfl⟩):p:=h
theorem a0p (h:p:=by rintro e g ⟨rfl,rfl⟩;go_wp2_with fail;go_ret;exact ⟨rfl,rfl⟩):p:=h
theorem a0q (h:p:=by simp only [Fm.str];go_enter func142,ntmps142;go_wp2_with fail;go_ret;exact ⟨a7,rfl⟩):p:=h
theorem a0r (h:p:=by clear F;go_enter func107,ntmps107;go_wp2_with fail;go_ret;exact ⟨by rw [b.out];rfl,rfl⟩):p:=h
theorem a0s (h:p:=by rintro e P ⟨rfl,d⟩;exact ⟨rfl,s.out.symm,aa H.out d⟩):p:=h
theorem a0t (h:p:=by go_ret2;exact ⟨rfl,fa,bH t.out ⟨rfl,rfl,rfl,Nat.le_refl _,λ_ _ _=>rfl⟩⟩):p:=h
theorem a0u (h:p:=by go_enter func219,ntmps219;go_wp2_with fail;go_ret;exact ⟨a7,rfl⟩):p:=h
theorem a0v (h:p:=by subst c;exact Hx.last (Hs.eng (dr:=true) (λ_ h=>h.hs)) {eq:=[(31,af o),(39,af m),(57,af e)],cv:=[(45,jY λW _=>B W)]} 150 (Hx.start h _) (λW g=>dI 0 a6 _ g.ht hh)):p:=h
theorem a0w (h:p:=by subst c;exact Hx.last (Hs.eng (dr:=true) (λ_ h=>h.hs)) {eq:=[(48,af m),(55,af l)]} 120 (Hx.start h _) (λW d=>dI 2 a6 x d.ht o)):p:=h
theorem a0x (h:p:=by have nw:dN i=false:=(by unfold dN;rw [e,O];rfl);rw [nw,Bool.false_and,if_neg a6,if_neg a6] at f;exact an _ _ (fin _ _ _ c' l d _ c s C L K g0 f)):p:=h
theorem a0y (h:p:=by exact hO (R:=[]) trivial {} 40 (u.1 1 _ rfl) rfl (cj _ _) underlying32 ⟨zeroA,none,0,rfl,g9 _ _ _,⟨rfl,.inl ⟨rfl,rfl⟩⟩,aR u.2 ab _⟩):p:=h
end Go.Proofs.YtfagphfjfhpmjaaGreatDoor
