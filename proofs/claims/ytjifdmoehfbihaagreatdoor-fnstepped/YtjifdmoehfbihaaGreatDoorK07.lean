/- Own lemmas. -/
import Derived.Test.YtjifdmoehfbihaaGreatDoorAut
import Derived.Test.YtjifdmoehfbihaaGreatDoorK03
import Derived.BigQuiet
set_option maxRecDepth 100000
set_option maxHeartbeats 1600000
namespace Go.Proofs.YtjifdmoehfbihaaGreatDoor
open Go.RowKit Tryz
open IntKind renaming u64->Uz
set_option linter.unusedVariables false
theorem Fl (D:DV) (x:Int):fI D x 0=(⟨D.t,D.cm,bits .and .u64 x 1==1,D.xs,D.ys,D.ir⟩,true):=by rw [fI]
theorem Fp (D:DV) (x:Int):fI D x 1=(⟨D.t,x,D.so,D.xs,D.ys,D.ir⟩,true):=by rw [fI]
theorem Fq (D:DV) (x:Int):fI D x 2=(⟨x,D.cm,D.so,D.xs,D.ys,D.ir⟩,true):=by rw [fI]
theorem yL (D:DV) (x:Int) (h:D.ys.length<4096):fI D x 3=(⟨D.t,D.cm,D.so,D.xs,D.ys++[IntKind.u8.wrap x],D.ir⟩,true):=by rw [fI,if_pos h]
theorem yM (D:DV) (x:Int) (h:¬ D.ys.length<4096):fI D x 3=(D,true):=by rw [fI,if_neg h]
theorem Fs (D:DV) (x:Int):fI D x 4=(⟨D.t,D.cm,D.so,D.xs,D.ys,wrap64 (bits .and .u64 x 1)⟩,true):=by rw [fI]
theorem Ft (D:DV) (x:Int):fI D x 5=(D,true):=by rw [fI]
theorem Fu (D:DV) (x:Int):fI D x 6=(zeroD,false):=by rw [fI]<;>omega
theorem sg (t cm:Int) (p:Bool) (a1:Option Addr) (f c1:Nat) (a2:Option Addr) (r c2:Nat) (d:Int) (w:World) (c:f<=1048576):CB 61 #[.agg #[.u t,.u cm,.bool p,.slice a1 f c1,.slice a2 r c2,.i d]] w (.u (Uz.wrap (Uz.wrap (Uz.wrap (8*ge p)+Uz.wrap (128*ge (decide (cm<=t))))+Uz.wrap (2048*ge ((d==1)&&decide (0<f)))))):=by
 have j:Hid (∀ (b:Bool) w,Calls prog 104 #[.bool b] w λe g=>e=.returned (.u (ge b))/\∃ m,g=w.drewN m):=λb w=>(uq b w).mono λ_ _ h=>⟨h.1,0,h.2⟩;have l:∀ o m,Bw w ((w.alloc o).drewN m):=λo m=>⟨rfl,rfl,rfl,cp,λk q=>Below.heap_alloc w o k q⟩;clear c;cases s:(d==1) with
 | true =>
   go_enter func61,ntmps61;go_wp2_with fail;go_quiet (first | (go_at_call 104;with_reducible refine Calls.quiet_of (j.out _ _)))
   go_wp2_with fail;go_ret;exact ⟨rfl,l _ _⟩
 | false =>
   go_enter func61,ntmps61;go_wp2_with fail;go_quiet (first | (go_at_call 104;with_reducible refine Calls.quiet_of (j.out _ _)))
   go_wp2_with fail;go_ret;exact ⟨rfl,l _ _⟩
end Go.Proofs.YtjifdmoehfbihaaGreatDoor
