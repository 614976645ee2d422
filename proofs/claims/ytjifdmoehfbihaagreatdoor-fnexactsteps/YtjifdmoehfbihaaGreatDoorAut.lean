/- What tactics close often. -/
import Derived.Test.YtjifdmoehfbihaaGreatDoorTig
import Derived.KernelRfl
set_option linter.unusedVariables false
namespace Go.Proofs.YtjifdmoehfbihaaGreatDoor
theorem al {p:Prop} (h:p:=by omega):p:=h
theorem a3 {p:Prop} (h:p:=by kernel_rfl):p:=h
theorem a4 {p:Prop} (h:p:=by subst p q;kernel_rfl):p:=h
theorem a5 {p:Prop} (h:p:=by decide):p:=h
theorem a6 {p:Prop} (h:p:=by rw [F.out];rfl):p:=h
theorem a7 {p:Prop} (h:p:=by simp;omega):p:=h
theorem a8 {p:Prop} (h:p:=by decide +kernel):p:=h
theorem a9 {p:Prop} (h:p:=by dsimp only;omega):p:=h
theorem ba {p:Prop} (h:p:=by rw [decide_eq_false_iff_not];omega):p:=h
theorem bb {p:Prop} (h:p:=by rw [F.out];exact ⟨A,HM.out.below (by first | exact (bal _ _).drew | exact (Below.refl _ _).drew.alloc (Nat.le_refl _) _),Kx.of_below (by first | exact (bal _ _).drew | exact (Below.refl _ _).drew.alloc (Nat.le_refl _) _)⟩):p:=h
theorem bc {p:Prop} (h:p:=by simp):p:=h
theorem bv {p:Prop} (h:p:=by rw [IntKind.wrap_u64];omega):p:=h
theorem bw {p:Prop} (h:p:=by first | exact (bal _ _).drew | exact (Below.refl _ _).drew.alloc (Nat.le_refl _) _):p:=h
theorem ck {p:Prop} (h:p:=by simp [aH]):p:=h
theorem cp {p:Prop} (h:p:=by simp only [World.size_alloc];omega):p:=h
theorem di {p:Prop} (h:p:=by unfold cN;dsimp only;rw [if_neg (by omega),if_neg (by omega),if_neg (by omega),if_neg (by omega),if_neg (by omega),if_neg (by omega),if_neg (by omega),if_neg (by omega),if_pos (by omega)]):p:=h
theorem dm {p:Prop} (h:p:=by show _=_;simp [AF.v,h]):p:=h
theorem dn {p:Prop} (h:p:=by simpa using h):p:=h
theorem dt {p:Prop} (h:p:=by show decide (xs=ys)=true;rw [decide_eq_true_eq];have h:=o.out;rw [List.take_of_length_le (by have:=r.out;omega),List.take_of_length_le (by have:=s.out;omega)] at h;exact h):p:=h
theorem d6 {p:Prop} (h:p:=by unfold cN;dsimp only;rw [if_neg (by omega),if_neg (by omega),if_neg (by omega),if_neg (by omega),if_neg (by omega),if_neg (by omega),if_neg (by omega),if_pos (by omega)]):p:=h
theorem d7 {p:Prop} (h:p:=by have:=hl.x;have:=hl.cs;have:=hl.ram;omega):p:=h
theorem d8 {p:Prop} (h:p:=by rw [g.out];rfl):p:=h
theorem d9 {p:Prop} (h:p:=by unfold cN;dsimp only;rw [if_neg (by omega),if_neg (by omega),if_neg (by omega),if_neg (by omega),if_neg (by omega),if_neg (by omega),if_pos (by omega)]):p:=h
theorem ef {p:Prop} (h:p:=by unfold cN;dsimp only;rw [if_neg (by omega),if_neg (by omega),if_neg (by omega),if_neg (by omega),if_neg (by omega),if_pos (by omega)]):p:=h
theorem eh {p:Prop} (h:p:=by assumption):p:=h
theorem ek {p:Prop} (h:p:=by subst c hx;kernel_rfl):p:=h
theorem el {p:Prop} (h:p:=by rw [decide_eq_true_eq];omega):p:=h
theorem eo {p:Prop} (h:p:=by subst c;kernel_rfl):p:=h
theorem ep {p:Prop} (h:p:=by subst c hx b;kernel_rfl):p:=h
theorem er {p:Prop} (h:p:=by unfold cN;dsimp only;rw [if_neg (by omega),if_neg (by omega),if_neg (by omega),if_neg (by omega),if_pos (by omega)]):p:=h
theorem et {p:Prop} (h:p:=by simpa using f):p:=h
theorem ex {p:Prop} (h:p:=by rw [aY];exact Nat.le_refl _):p:=h
theorem e9 {p:Prop} (h:p:=by have A:=G.out.2;have N:=q.out.block g H.out;unfold World.frozen? at A ⊢;dsimp only at A ⊢;rw [N];exact A):p:=h
theorem fa {p:Prop} (h:p:=by constructor<;>(cases bt x 11<;>cases bt x 12<;>decide)):p:=h
theorem fr {p:Prop} (h:p:=by rw [F.out];exact p.out.below ⟨rfl,rfl,rfl,Nat.le_refl _,λ_ _=>rfl⟩):p:=h
theorem ho {p:Prop} (h:p:=by subst p q;decide):p:=h
theorem ia {p:Prop} (h:p:=by show fQ n addr size=false;simp [fQ];omega):p:=h
theorem ib {p:Prop} (h:p:=by simp only [aY];exact Nat.le_refl _):p:=h
theorem ih {p:Prop} (h:p:=by show _=_;rw [d,l,j,r];rfl):p:=h
theorem i2 {p:Prop} (h:p:=by simp [Fm.at];omega):p:=h
theorem i3 {p:Prop} (h:p:=by simpa using b):p:=h
theorem i4 {p:Prop} (h:p:=by unfold cN;dsimp only;rw [if_neg (by omega),if_neg (by omega),if_neg (by omega),if_pos (by omega)]):p:=h
theorem i5 {p:Prop} (h:p:=by unfold maxLen;omega):p:=h
theorem i6 {p:Prop} (h:p:=by rw [results_tmp2 rfl,p.slot (v:=.u V.1) (by kernel_rfl),p.slot (v:=.bool true) (by kernel_rfl)]):p:=h
theorem ka {p:Prop} (h:p:=by rw [results_tmp2 rfl,p.slot (v:=.u 0) (by kernel_rfl),p.slot (v:=.bool false) (by kernel_rfl)]):p:=h
theorem kc {p:Prop} (h:p:=by show decide (xs=ys)=false;rw [decide_eq_false_iff_not];intro h;apply d;rw [B.out,C.out,h]):p:=h
theorem kd {p:Prop} (h:p:=by show decide (xs=ys)=false;rw [decide_eq_false_iff_not];intro h;apply q;rw [<- hx,<- hy,h]):p:=h
theorem ki {p:Prop} (h:p:=by (repeat apply Below.drew);exact (bal _ _).alloc (by simp) _):p:=h
theorem ko {p:Prop} (h:p:=by rw [results_tmp2 rfl,y.slot (v:=.u d) (by kernel_rfl),y.slot (v:=.i f) (by kernel_rfl)]):p:=h
theorem kr {p:Prop} (h:p:=by simp only [MF.v];rw [if_neg (by omega)];rfl):p:=h
theorem la {p:Prop} (h:p:=by unfold wrap64;omega):p:=h
theorem lh {p:Prop} (h:p:=by simp only [List.mem_cons,List.not_mem_nil,or_false];omega):p:=h
theorem ln {p:Prop} (h:p:=by intro k h;cases h):p:=h
theorem oi {p:Prop} (h:p:=by (have e:=p.out.cell 6 (by omega);rw [fJ _ _ _ _ (by omega),G.out] at e;exact e)):p:=h
theorem oj {p:Prop} (h:p:=by unfold cN;dsimp only;rw [if_neg (by omega),if_neg (by omega),if_pos (by omega)]):p:=h
theorem ow {p:Prop} (h:p:=by cases h):p:=h
theorem ph {p:Prop} (h:p:=by show eu n addr size=0;simp [eu,b.out]):p:=h
theorem ps {p:Prop} (h:p:=by intro k h;cases h;exact Nat.le_refl _):p:=h
theorem py {p:Prop} (h:p:=by simpa using d):p:=h
theorem qh {p:Prop} (h:p:=by simp only [MF.v];rw [if_pos h];rfl):p:=h
theorem sv {p:Prop} (h:p:=by simpa using λk=>h ((eH c f).mp k)):p:=h
theorem ta {p:Prop} (h:p:=by simp [World.frozen?,f]):p:=h
theorem ti {p:Prop} (h:p:=by simpa using a):p:=h
theorem tk {p:Prop} (h:p:=by simpa using c):p:=h
theorem tt {p:Prop} (h:p:=by simp only [aI];rw [hb];exact f.1):p:=h
theorem ul {p:Prop} (h:p:=by subst R;exact ⟨rfl,rfl,rfl⟩):p:=h
theorem un {p:Prop} (h:p:=by rw [F.out.1,F.out.2];rfl):p:=h
theorem v8 {p:Prop} (h:p:=by simp [World.cell?,f]):p:=h
theorem v9 {p:Prop} (h:p:=by rw [l.out];rfl):p:=h
theorem ww {p:Prop} (h:p:=by rw [F.out];exact b.out):p:=h
theorem x7 {p:Prop} (h:p:=by have:=T.size;omega):p:=h
theorem x8 {p:Prop} (h:p:=by rw [b.out,d.out];rfl):p:=h
theorem x9 {p:Prop} (h:p:=by simpa using g):p:=h
theorem yn {p:Prop} (h:p:=by cases e):p:=h
theorem z0 {p:Prop} (h:p:=by go_wp2;go_ret;exact ⟨a6,rfl⟩):p:=h
theorem a00 {p:Prop} (h:p:=by go_wp2;go_ret;exact ⟨rfl,rfl⟩):p:=h
theorem a01 {p:Prop} (h:p:=by go_enter func117,ntmps117;go_wp2;go_ret;exact ⟨by rw [c.out];rfl,rfl⟩):p:=h
theorem a02 {p:Prop} (h:p:=by go_wp2_with fail;go_ret;exact ⟨rfl,rfl⟩):p:=h
theorem a03 {p:Prop} (h:p:=by rintro e A ⟨rfl,c⟩;subst c;go_wp2_with fail;go_ret;exact ⟨a6,D _⟩):p:=h
theorem a04 {p:Prop} (h:p:=by go_enter func51,ntmps51;go_wp2;go_ret;exact ⟨a6,rfl⟩):p:=h
theorem a05 {p:Prop} (h:p:=by go_wp2_with fail;exact bodyPost_ret (bE results120 _ _ _ _ _ _ _ rfl vM underlying30 rfl bu) rfl ⟨rfl,n8⟩):p:=h
theorem a06 {p:Prop} (h:p:=by go_wp2_with fail;exact bodyPost_ret (db results122 _ _ _ _ _ _ _ rfl iI underlying30 rfl bu) rfl ⟨rfl,dP⟩):p:=h
theorem a07 {p:Prop} (h:p:=by go_enter func122,ntmps122;go_wp2_with fail;exact bodyPost_ret (db results122 _ _ _ _ _ _ _ rfl iI underlying30 rfl bu) rfl ⟨rfl,dP⟩):p:=h
theorem a08 {p:Prop} (h:p:=by go_enter func134,ntmps134;go_wp2_with fail;go_ret;exact ⟨rfl,Below.refl _ _⟩):p:=h
theorem a09 {p:Prop} (h:p:=by go_enter func172,ntmps172;go_wp2_with fail;go_ret;exact ⟨a6,rfl⟩):p:=h
theorem a0a {p:Prop} (h:p:=by go_wp2_with fail;go_ret;exact ⟨a6,rfl⟩):p:=h
theorem a0b {p:Prop} (h:p:=by go_enter func103,ntmps103;go_wp2_with fail;go_ret;exact ⟨a6,rfl⟩):p:=h
theorem a0c {p:Prop} (h:p:=by go_wp2_with fail;go_ret;exact ⟨a6,Below.refl _ _⟩):p:=h
theorem a0d {p:Prop} (h:p:=by subst b;go_wp2_with fail;go_ret;exact ⟨a6,rfl⟩):p:=h
theorem a0e {p:Prop} (h:p:=by rw [e,IntKind.wrap_u64,IntKind.wrap_u64];unfold RowKit.wrap64;omega):p:=h
theorem a0f {p:Prop} (h:p:=by rintro e f ⟨rfl,rfl⟩;go_wp2_with fail;go_ret;exact ⟨rfl,rfl⟩):p:=h
theorem a0g {p:Prop} (h:p:=by rintro e j ⟨rfl,rfl⟩;go_wp2_with fail;go_ret;exact ⟨rfl,rfl⟩):p:=h
theorem a0h {p:Prop} (h:p:=by exact ⟨rfl,rfl⟩):p:=h
theorem a0i {p:Prop} (h:p:=by rintro e m ⟨rfl,rfl⟩;go_wp2_with fail;go_ret;exact ⟨a6,rfl⟩):p:=h
theorem a0j {p:Prop} (h:p:=by rw [F];go_enter func224,ntmps224;go_wp2_with fail;exact bodyPost_ret (results_cell_row results224 _ _ _ _ _ _ _ rfl (oa _ _ _) underlying215 rfl jo) rfl ⟨rfl,(bal _ _).alloc bc _⟩):p:=h
theorem a0k {p:Prop} (h:p:=by rw [F];go_enter func225,ntmps225;go_wp2_with fail;exact bodyPost_ret (results_cell_row results225 _ _ _ _ _ _ _ rfl (oa _ _ _) underlying215 rfl jo) rfl ⟨rfl,(bal _ _).alloc bc _⟩):p:=h
theorem a0l {p:Prop} (h:p:=by go_wp2_with fail;go_ret;exact ⟨rfl,Below.refl _ _⟩):p:=h
theorem a0m {p:Prop} (h:p:=by go_enter func109,ntmps109;go_wp2_with fail;go_ret;exact ⟨a6,rfl⟩):p:=h
theorem a0n {p:Prop} (h:p:=by go_wp2_with fail;go_ret2;rw [F.out.1,F.out.2];exact ⟨_,_,rfl,lW _ _,C⟩):p:=h
theorem a0o {p:Prop} (h:p:=by go_enter func70,ntmps70;go_wp2_with fail;go_ret;exact ⟨v9,q _⟩):p:=h
theorem a0p {p:Prop} (h:p:=by clear c k1 d f g j b;go_enter func289,ntmps289;go_wp2_with fail;go_ret;exact ⟨rfl,rfl⟩):p:=h
theorem a0q {p:Prop} (h:p:=by have f:=ak (aa (m _) b);clear b;go_wp2_with fail;go_ret;exact ⟨d8,f.out⟩):p:=h
theorem a0r {p:Prop} (h:p:=by go_enter func90,ntmps90;go_wp2;go_ret;exact ⟨a6,rfl⟩):p:=h
theorem a0s {p:Prop} (h:p:=by go_ret2;exact ⟨rfl,fr,bF t.out ⟨rfl,rfl,rfl,Nat.le_refl _,λ_ _ _=>rfl⟩⟩):p:=h
theorem a0t {p:Prop} (h:p:=by clear F;go_enter func91,ntmps91;go_wp2_with fail;go_ret;exact ⟨by rw [b.out];rfl,rfl⟩):p:=h
theorem a0u {p:Prop} (h:p:=by rintro e P ⟨rfl,d⟩;exact ⟨rfl,s.out.symm,aa H.out d⟩):p:=h
theorem a0v {p:Prop} (h:p:=by subst c;exact Hx.last (Hs.eng (dr:=true) (λ_ h=>h.hs)) {eq:=[(31,au o),(39,au m),(57,au e)],cv:=[(45,mt λW _=>d W)]} 150 (Hx.start h _) (λW g=>dD 0 a5 _ g.ht k)):p:=h
theorem a0w {p:Prop} (h:p:=by subst c;exact Hx.last (Hs.eng (dr:=true) (λ_ h=>h.hs)) {eq:=[(48,au m),(55,au l)]} 120 (Hx.start h _) (λW d=>dD 2 a5 x d.ht o)):p:=h
theorem a0x {p:Prop} (h:p:=by go_ret2;exact ⟨rfl,aD (c.alloc c.size _) c.size _⟩):p:=h
theorem a0y {p:Prop} (h:p:=by go_enter func199,ntmps199;go_wp2_with fail;go_ret;exact ⟨a6,rfl⟩):p:=h
theorem a0z {p:Prop} (h:p:=by clear h;go_enter func182,ntmps182;go_wp2_with fail;go_ret;exact ⟨a6,rfl⟩):p:=h
theorem a10 {p:Prop} (h:p:=by clear h g;go_enter func182,ntmps182;go_wp2_with fail;go_ret;exact ⟨a6,rfl⟩):p:=h
theorem a11 {p:Prop} (h:p:=by rintro e g ⟨rfl,rfl⟩;go_wp2_with fail;go_ret;exact ⟨rfl,rfl⟩):p:=h
theorem a12 {p:Prop} (h:p:=by simp only [Fm.str];go_enter func125,ntmps125;go_wp2_with fail;go_ret;exact ⟨a6,rfl⟩):p:=h
theorem a13 {p:Prop} (h:p:=by have nw:dK i=false:=(by unfold dK;rw [e,O];rfl);rw [nw,Bool.false_and,if_neg a5,if_neg a5] at f;exact aE _ _ (fin _ _ _ c' l d _ c s C L K g0 f)):p:=h
end Go.Proofs.YtjifdmoehfbihaaGreatDoor
