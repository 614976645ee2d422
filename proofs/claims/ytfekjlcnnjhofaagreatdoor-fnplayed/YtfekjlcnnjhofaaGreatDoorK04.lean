/- Own lemmas. -/
import Derived.Test.YtfekjlcnnjhofaaGreatDoorAut
import Derived.Test.YtfekjlcnnjhofaaGreatDoorK02
import Derived.BigQuiet
set_option maxRecDepth 100000
set_option maxHeartbeats 1600000
namespace Go.Proofs.YtfekjlcnnjhofaaGreatDoor
open Go.RowKit Tryz
open IntKind renaming u64->Uz
set_option linter.unusedVariables false
variable (x:DV) (D d:Int)
theorem GH:fU x D 0=(⟨x.t,x.cm,bits .and .u64 D 1==1,x.xs,x.ys,x.ir⟩,true):=by rw [fU]
theorem GI:fU x D 1=(⟨x.t,D,x.so,x.xs,x.ys,x.ir⟩,true):=by rw [fU]
theorem GJ:fU x D 2=(⟨D,x.cm,x.so,x.xs,x.ys,x.ir⟩,true):=by rw [fU]
theorem zF (h:x.ys.length<4096):fU x D 3=(⟨x.t,x.cm,x.so,x.xs,x.ys++[IntKind.u8.wrap D],x.ir⟩,true):=by rw [fU,JZ8 h]
theorem zG (h:¬ x.ys.length<4096):fU x D 3=(x,true):=by rw [fU,JZ9 h]
theorem GK:fU x D 4=(⟨x.t,x.cm,x.so,x.xs,x.ys,wrap64 (bits .and .u64 D 1)⟩,true):=by rw [fU]
theorem GL:fU x D 5=(x,true):=by rw [fU]
theorem GM:fU x D 6=(zeroD,false):=by rw [fU]<;>omega
theorem tj (p:Bool) (a1:Option Addr) (f c1:Nat) (a2:Option Addr) (r c2:Nat) (cm:Int) (w:World) (c:f<=1048576): CB 30 #[.agg #[.u D,.u d,.bool p,.slice a1 f c1,.slice a2 r c2,.i cm]] w (.u (Uz.wrap (Uz.wrap (Uz.wrap (8*gv p)+Uz.wrap (128*gv (decide (d<=D))))+Uz.wrap (2048*gv ((cm==1)&&decide (0<f)))))):=by
 have j:Hid (∀ (b:Bool) w,Calls prog 48 #[.bool b] w λe g=>e=.returned (.u (gv b))/\∃ m,g=w.drewN m):=λb w=>(ve b w).mono λ_ _ h=>⟨h.1,0,h.2⟩;have l:∀ o m,Bw w ((w.alloc o).drewN m):=λo m=>⟨rfl,rfl,rfl,di,λk q=>Below.heap_alloc w o k q⟩;clear c;cases s:(cm==1) with
 | true =>
   go_enter func30,ntmps30;go_wp2_with fail;go_quiet (first | (go_at_call 48;with_reducible refine Calls.quiet_of (j.out _ _)))
   go_wp2_with fail;go_ret;exact ⟨rfl,l _ _⟩
 | false =>
   go_enter func30,ntmps30;go_wp2_with fail;go_quiet (first | (go_at_call 48;with_reducible refine Calls.quiet_of (j.out _ _)))
   go_wp2_with fail;go_ret;exact ⟨rfl,l _ _⟩
