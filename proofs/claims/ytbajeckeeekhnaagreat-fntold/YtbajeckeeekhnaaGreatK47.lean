/- Own lemmas. -/
import Derived.WalkKit
import Derived.Great.BuildSlice
import Derived.Laws.Rows
namespace Go.Proofs.YtbajeckeeekhnaaGreat
open Go.RowKit
set_option linter.unusedVariables false

theorem eval_put_ne {a:Act} {d q:Tmp} (v:Value) (h:d≠q):(a.put (some d) v).eval (.tmp q)=a.eval (.tmp q):=by
 simp [Act.put,Act.eval,Array.getD_eq_getD_getElem?,h]

theorem eval_put_same {a:Act} {d:Tmp} (v:Value) (h:d < a.tmps.size):(a.put (some d) v).eval (.tmp d)=v:=by
 simp [Act.put,Act.eval,Array.getD_eq_getD_getElem?,h]

theorem ret_row {P:Program} {fn:Func} {R:Ending→World→Prop} {id:Nat} {o1 o2:Oper} {a:Act} {w:World} (d p q:Tmp) (ty:TypeId)
 (h1g:o1.guard=none) (h1:o1.op=.load ty (.tmp p)) (h1d:o1.dst=some d) (h2g:o2.guard=none) (h2:o2.op=.store ty (.tmp q) (.tmp d)) (h2d:o2.dst=none)
 (hres:fn.results=#[.cell q ty]) (m r:Nat) (hm:a.eval (.tmp p)=.pointer (some ⟨m,0,none⟩)) (hr:a.eval (.tmp q)=.pointer (some ⟨r,0,none⟩))
 (hdq:d≠q) (hdl:d < a.tmps.size) (hdef:a.defers=[]) (cs old:Array Value) (t t2:TypeId) (fr:Nat × Nat) (ds:TypeDesc)
 (RM:w.heap[m]?=some (.cells cs t fr)) (RR:w.heap[r]?=some (.cells old t2 (0,0))) (hu:P.underlying ty=some ds) (hd2:(match ds with | .struct _ | .array _ _=>true | _=>false)=true)
 (hi:(P.info? ty).map (·.size)=some cs.size) (ho:old.size=cs.size) (hone:cs.all (·.oneCell')=true) (hR:R (.returned (.agg cs)) (w.setRow r cs)) :
 ((Code.region id #[o1,o2] false).seq Code.ret).wp P (bodyPost P fn R) a w:=by
 refine wp_seq (wp_region_list ?_)
 refine wpList_load_row h1g ty (.tmp p) h1 m hm t cs fr ds RM hu hd2 hi ?_
 rw [h1d]
 refine wpList_store_rowTo h2g ty (.tmp q) (.tmp d) h2 h2d r cs ((eval_put_ne _ hdq).trans hr) (eval_put_same _ hdl) t2 old RR hi ho hone ?_
 refine wpList_nil ?_
 refine wp_ret ?_
 refine bodyPost_ret (results_cell_row hres _ _ r t2 cs (0,0) ds ?_ (setRow_heap w r _ cs _ _ RR) hu hd2 hi) hdef hR
 have:=(eval_put_ne (a:=a) (.agg cs) hdq).trans hr
 exact this

end Go.Proofs.YtbajeckeeekhnaaGreat
