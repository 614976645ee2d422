/- What Leave and Enter are drawn. By tools/genDrawT.py. -/
import Derived.Test.YtaicnnkcdpdhaacDoorDrawS
namespace Go.Proofs.YtaicnnkcdpdhaacDoor
open Go.RowKit
set_option linter.unusedVariables false

theorem results_d3 {fn : Func} {t u v : Tmp} (h : fn.results = #[.tmp t, .tmp u, .tmp v]) (tmps : Array Value) (P : Program) (w : World) :
    (results fn tmps).run P w = .ok (.tuple #[tmps.getD t undef, tmps.getD u undef, tmps.getD v undef]) w := by
  simp only [results, h]
  simp

theorem results_d6 {fn : Func} {t u v x y z : Tmp} (h : fn.results = #[.tmp t, .tmp u, .tmp v, .tmp x, .tmp y, .tmp z]) (tmps : Array Value) (P : Program) (w : World) :
    (results fn tmps).run P w = .ok (.tuple #[tmps.getD t undef, tmps.getD u undef, tmps.getD v undef, tmps.getD x undef, tmps.getD y undef, tmps.getD z undef]) w := by
  simp only [results, h]
  simp

end Go.Proofs.YtaicnnkcdpdhaacDoor
