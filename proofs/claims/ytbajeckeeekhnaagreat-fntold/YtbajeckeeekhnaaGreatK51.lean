/- Own lemmas. -/
import Derived.Test.YtbajeckeeekhnaaGreatK05
import Derived.Test.YtbajeckeeekhnaaGreatK41
namespace Go.Proofs.YtbajeckeeekhnaaGreat
open Go.RowKit
set_option linter.unusedVariables false

theorem big_any (a:Option Addr) (n cap:Nat) (w:World):Calls Tryz.prog 4 #[.slice a n cap] w fun e w'=>e=.returned (.bool (decide (4096 < n)))∧w'=w:=by
 by_cases h:4096 < n
 ·have F:Hid (decide (4096 < n)=true):=by show decide (4096 < n)=true;simpa using h
  have d:decide ((4096:Int) < (n:Int))=true:=by simp;omega
  clear h
  go_enter Tryz.func4,Tryz.ntmps4
  go_wp2_with fail
  go_ret
  exact ⟨by rw [F.out];rfl,rfl⟩
 ·have F:Hid (decide (4096 < n)=false):=by show decide (4096 < n)=false;simpa using h
  have d:decide ((4096:Int) < (n:Int))=false:=by simp;omega
  clear h
  go_enter Tryz.func4,Tryz.ntmps4
  go_wp2_with fail
  go_ret
  exact ⟨by rw [F.out];rfl,rfl⟩

theorem code_of {w:World} {a:Option Addr} {n cap:Nat} {zs:List Int} (h:IsRow .u8 w a n cap zs) (hn:n≤4096):∃ ys,Code w a n ys:=by
 obtain ⟨ys,h1,h2,h3,_⟩:=h.sl
 exact ⟨ys,h1,hn,h2,h3⟩

end Go.Proofs.YtbajeckeeekhnaaGreat
