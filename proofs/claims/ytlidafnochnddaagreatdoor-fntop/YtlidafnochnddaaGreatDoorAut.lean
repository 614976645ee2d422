/- What tactics close often. -/
import Derived.Test.YtlidafnochnddaaGreatDoorTig
import Derived.KernelRfl
set_option linter.unusedVariables false
namespace Go.Proofs.YtlidafnochnddaaGreatDoor
variable {p:Prop}
theorem aa (h:p:=by omega):p:=h
theorem ab (h:p:=by kernel_rfl):p:=h
theorem ba (h:p:=by decide):p:=h
theorem bb (h:p:=by simp;omega):p:=h
theorem bc (h:p:=by rw [F.out];rfl):p:=h
theorem bh (h:p:=by simp):p:=h
theorem bv (h:p:=by decide +kernel):p:=h
theorem bw (h:p:=by unfold wrap64;omega):p:=h
theorem ca (h:p:=by dsimp only;omega):p:=h
theorem cb (h:p:=by simpa using f):p:=h
theorem cd (h:p:=by simp [Fm.at];omega):p:=h
theorem ch (h:p:=by rw [setRow_size];exact Nat.le_refl _):p:=h
theorem ck (h:p:=by simpa using g):p:=h
theorem cp (h:p:=by show _=_;rw [E.out,bD,if_pos D];rw [show wrap64 (wrap64 (0*10)+(z-48))=z-48 from by unfold wrap64;omega]):p:=h
theorem ct (h:p:=by unfold maxLen;omega):p:=h
theorem dd (h:p:=by simpa using h):p:=h
theorem dm (h:p:=by simp [dP,Fm.hasRd,aG]):p:=h
theorem dv (h:p:=by simp [aV,Fm.hasA,aG]):p:=h
theorem dy (h:p:=by show _=_;rw [E.out,bD,if_neg D,show wrap64 (1*0)=0 from by unfold wrap64;omega]):p:=h
theorem d4 (h:p:=by simp only [World.size_alloc];omega):p:=h
theorem d5 (h:p:=by simp [aU]):p:=h
theorem d8 (h:p:=by rw [N];exact heap_alloc_new _ _):p:=h
theorem ef (h:p:=by rw [N,World.size_alloc];omega):p:=h
theorem eg (h:p:=by rw [IntKind.wrap_i64];omega):p:=h
theorem eh (h:p:=by show _=_;rw [J.out,bD,if_pos C];rw [show wrap64 (wrap64 (0*10)+(z-48))=z-48 from by unfold wrap64;omega]):p:=h
theorem ek (h:p:=by show _=_;rw [E.out,bD,if_pos D];rw [show wrap64 (wrap64 (0*10)+(x-48))=x-48 from by unfold wrap64;omega]):p:=h
theorem eo (h:p:=by simpa using a):p:=h
theorem ep (h:p:=by rw [results_tmp2 rfl,M.slot (v:=.u va) (by kernel_rfl),M.slot (v:=.slice E J c) (by kernel_rfl)]):p:=h
theorem et (h:p:=by unfold wrap32;omega):p:=h
theorem eu (h:p:=by rw [results_tmp2 rfl,p.slot (v:=.u q.1) (by kernel_rfl),p.slot (v:=.bool true) (by kernel_rfl)]):p:=h
theorem ex (h:p:=by simp [Value.oneCell']):p:=h
theorem ey (h:p:=by rw [results_tmp2 rfl,p.slot (v:=.u 0) (by kernel_rfl),p.slot (v:=.bool false) (by kernel_rfl)]):p:=h
theorem e6 (h:p:=by assumption):p:=h
theorem e8 (h:p:=by rw [N];exact bal _ _):p:=h
theorem e9 (h:p:=by (repeat apply Below.drew);exact (bal _ _).alloc (by simp) _):p:=h
theorem fb (h:p:=by show _=_;simp [AF.v,h]):p:=h
theorem fr (h:p:=by simp only [MF.v];rw [if_neg (by omega)];rfl):p:=h
theorem fs (h:p:=by simp only [List.mem_cons,List.not_mem_nil,or_false];omega):p:=h
theorem gc (h:p:=by show _=_;rw [E.out,bD,if_neg D,show wrap64 ((-1)*0)=0 from by unfold wrap64;omega]):p:=h
theorem gx (h:p:=by rw [IntKind.wrap_u64];omega):p:=h
theorem g4 (h:p:=by simp [bV,Fm.hasB,aG]):p:=h
theorem g5 (h:p:=by show _=_;rw [J.out,bD,if_neg C,show wrap64 (1*0)=0 from by unfold wrap64;omega]):p:=h
theorem hh (h:p:=by cases h):p:=h
theorem ia (h:p:=by rw [List.length_map,gQ,z.out];omega):p:=h
theorem ib (h:p:=by rw [decide_eq_true_eq];omega):p:=h
theorem ih (h:p:=by simp only [MF.v];rw [if_pos h];rfl):p:=h
theorem ix (h:p:=by rw [e.2.1];decide):p:=h
theorem i6 (h:p:=by rw [decide_eq_false_iff_not];omega):p:=h
theorem kb (h:p:=by rw [cy];exact Nat.le_refl _):p:=h
theorem kd (h:p:=by simp [World.frozen?,f]):p:=h
theorem ki (h:p:=by cases e):p:=h
theorem ko (h:p:=by rfl):p:=h
theorem kp (h:p:=by show dO D I L=0;simp [dO,b.out]):p:=h
theorem kx (h:p:=by simp [Fm.at]):p:=h
theorem k5 (h:p:=by simp [World.cell?,f]):p:=h
theorem lg (h:p:=by simp [bV,Fm.hasB]):p:=h
theorem lh (h:p:=by rw [h.2];exact Below.refl _ _):p:=h
theorem li (h:p:=by rw [<- HNN.out];rfl):p:=h
theorem lx (h:p:=by have:=T.size;omega):p:=h
theorem l0 (h:p:=by split at M<;>split<;>omega):p:=h
theorem l1 (h:p:=by intro k h;cases h):p:=h
theorem l7 (h:p:=by rw [b.out,d.out];rfl):p:=h
theorem mr (h:p:=by simp [hz]):p:=h
theorem mx (h:p:=by simpa using b):p:=h
theorem m5 (h:p:=by go_enter func44,ntmps44;go_wp2;go_ret;exact ⟨by rw [cap.out];rfl,rfl⟩):p:=h
theorem nc (h:p:=by go_wp2;go_ret;exact ⟨rfl,rfl⟩):p:=h
theorem ni (h:p:=by exact decide_eq_false aa):p:=h
theorem nr (h:p:=by simp only [aG];omega):p:=h
theorem ob (h:p:=by subst b;go_wp2_with fail;go_ret;exact ⟨bc,rfl⟩):p:=h
theorem oj (h:p:=by go_wp2_with fail;go_ret;exact ⟨rfl,rfl⟩):p:=h
theorem ow (h:p:=by go_enter func84,ntmps84;go_wp2_with fail;go_ret;exact ⟨bc,rfl⟩):p:=h
theorem o6 (h:p:=by go_wp2_with fail;go_ret;exact ⟨bc,rfl⟩):p:=h
theorem ph (h:p:=by rintro e f ⟨rfl,rfl⟩;go_wp2_with fail;go_ret;exact ⟨rfl,rfl⟩):p:=h
theorem qh (h:p:=by rintro e a ⟨rfl,rfl⟩;go_wp2_with fail;go_ret;exact ⟨rfl,rfl⟩):p:=h
theorem ri (h:p:=by rintro e b ⟨rfl,rfl⟩;go_wp2_with fail;go_ret;exact ⟨bc,rfl⟩):p:=h
theorem sb (h:p:=by go_ret2;exact ⟨rfl,ay (c.alloc c.size _) c.size _⟩):p:=h
theorem ta (h:p:=by clear F;go_enter func147,ntmps147;go_wp2_with fail;go_ret;exact ⟨by rw [b.out];rfl,rfl⟩):p:=h
theorem tt (h:p:=by rintro e P ⟨rfl,d⟩;exact ⟨rfl,s.out.symm,ae H.out d⟩):p:=h
theorem t4 (h:p:=by go_enter func196,ntmps196;go_wp2_with fail;go_ret;exact ⟨bc,rfl⟩):p:=h
theorem t5 (h:p:=by have nw:eM F=false:=(by unfold eM;rw [e,O];rfl);rw [nw,Bool.false_and,if_neg ba,if_neg ba] at f;exact aH _ _ (fin _ _ _ c' l d _ c s C L w0 g0 f)):p:=h
theorem t6 (h:p:=by exact g6 (R:=[]) trivial {} 40 (u.1 1 _ rfl) rfl (cw _ _) underlying36 ⟨zeroA,none,0,rfl,fH _ _ _,⟨rfl,.inl ⟨rfl,rfl⟩⟩,aN u.2 aa _⟩):p:=h
theorem t7 (h:p:=by rintro e C ⟨rfl,u⟩;exact ⟨_,0,rfl,dD (R:=[]) trivial {} 60 ⟨rfl,u⟩⟩):p:=h
theorem vb (h:p:=by simp only [List.length_cons,List.length_nil];omega):p:=h
theorem JZ9 {c:Prop} {_:Decidable c} (n:¬c) {α:Sort _} {t e:α}:ite c t e=e:=if_neg n
theorem JZ8 {c:Prop} {_:Decidable c} (n:c) {α:Sort _} {t e:α}:ite c t e=t:=if_pos n
theorem JZ7 {p:Prop} {_:Decidable p}:decide p=false<->¬p:=decide_eq_false_iff_not
theorem JZ6 {p:Prop} [Decidable p]:(decide p=true)=p:=decide_eq_true_eq
end Go.Proofs.YtlidafnochnddaaGreatDoor
