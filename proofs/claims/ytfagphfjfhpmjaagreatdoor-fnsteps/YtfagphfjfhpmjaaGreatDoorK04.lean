/- Own lemmas. -/
import Derived.Test.YtfagphfjfhpmjaaGreatDoorAut
import Derived.Test.YtfagphfjfhpmjaaGreatDoorK02
import Derived.BigQuiet
set_option maxRecDepth 100000
set_option maxHeartbeats 1600000
namespace Go.Proofs.YtfagphfjfhpmjaaGreatDoor
open Go.RowKit Tryz
open IntKind renaming u64->Uz
set_option linter.unusedVariables false
variable (x:DV) (D d:Int)
theorem Gr:fP x D 0=(⟨x.t,x.cm,bits .and .u64 D 1==1,x.xs,x.ys,x.ir⟩,true):=by rw [fP]
theorem Gs:fP x D 1=(⟨x.t,D,x.so,x.xs,x.ys,x.ir⟩,true):=by rw [fP]
theorem Gt:fP x D 2=(⟨D,x.cm,x.so,x.xs,x.ys,x.ir⟩,true):=by rw [fP]
theorem zE (h:x.ys.length<4096):fP x D 3=(⟨x.t,x.cm,x.so,x.xs,x.ys++[IntKind.u8.wrap D],x.ir⟩,true):=by rw [fP,if_pos h]
theorem zF (h:¬ x.ys.length<4096):fP x D 3=(x,true):=by rw [fP,if_neg h]
theorem Gu:fP x D 4=(⟨x.t,x.cm,x.so,x.xs,x.ys,wrap64 (bits .and .u64 D 1)⟩,true):=by rw [fP]
theorem Gv:fP x D 5=(x,true):=by rw [fP]
theorem Gx:fP x D 6=(zeroD,false):=by rw [fP]<;>omega
theorem tf (p:Bool) (a1:Option Addr) (f c1:Nat) (a2:Option Addr) (r c2:Nat) (cm:Int) (w:World) (c:f<=1048576): CB 71 #[.agg #[.u D,.u d,.bool p,.slice a1 f c1,.slice a2 r c2,.i cm]] w (.u (Uz.wrap (Uz.wrap (Uz.wrap (8*gt p)+Uz.wrap (128*gt (decide (d<=D))))+Uz.wrap (2048*gt ((cm==1)&&decide (0<f)))))):=by
 have j:Hid (∀ (b:Bool) w,Calls prog 120 #[.bool b] w λe g=>e=.returned (.u (gt b))/\∃ m,g=w.drewN m):=λb w=>(vi b w).mono λ_ _ h=>⟨h.1,0,h.2⟩;have l:∀ o m,Bw w ((w.alloc o).drewN m):=λo m=>⟨rfl,rfl,rfl,cp,λk q=>Below.heap_alloc w o k q⟩;clear c;cases s:(cm==1) with
 | true =>
   go_enter func71,ntmps71;go_wp2_with fail;go_quiet (first | (go_at_call 120;with_reducible refine Calls.quiet_of (j.out _ _)))
   go_wp2_with fail;go_ret;exact ⟨rfl,l _ _⟩
 | false =>
   go_enter func71,ntmps71;go_wp2_with fail;go_quiet (first | (go_at_call 120;with_reducible refine Calls.quiet_of (j.out _ _)))
   go_wp2_with fail;go_ret;exact ⟨rfl,l _ _⟩
end Go.Proofs.YtfagphfjfhpmjaaGreatDoor
