/- Own lemmas. -/
import Derived.Test.YtbajeckeeekhnaaGreatK28
namespace Go.Proofs.YtbajeckeeekhnaaGreat
open Go.RowKit
set_option linter.unusedVariables false

theorem l1Widen32 (x:Int) (w:World):Calls Tryz.prog 84 #[.int .u64 x,.int .u64 32] w fun e w'=>e=.returned (.int .u64 (widen 32 x))∧w'=w:=l1Widen_any x 32 (by omega) (by omega) w

theorem l3Div_div (a b:Int) (a0:0≤a) (a1:a < 18446744073709551616) (b0:0≤b) (b1:b < 18446744073709551616) (w:World):Calls Tryz.prog 99 #[.string ⟨#[100,105,118]⟩,.int .u64 a,.int .u64 b] w fun e w'=>e=.returned (.int .u64 (AF.div.v a b))∧w'=w:=by
 by_cases h:b=0
 ·have F:Hid (AF.div.v a b=18446744073709551615):=by show _=_;simp [AF.v,h]
  have d:(wrap64 b==0)=true:=by simpa using (wrap64_zero b0 b1).mpr h
  clear h
  go_enter Tryz.func99,Tryz.ntmps99
  go_wp2_with fail
  go_ret
  exact ⟨by rw [F.out];rfl,rfl⟩
 by_cases h2:b=18446744073709551615
 ·have F:Hid (AF.div.v a b=IntKind.u64.wrap (-a)):=by
   show _=_
   simp only [AF.v,if_neg h]
   rw [(wrap64_ones b0 b1).mpr h2]
   exact div_ones a a0 a1
  have d:(wrap64 b==0)=false:=by simpa using fun k=>h ((wrap64_zero b0 b1).mp k)
  have d2:(wrap64 b == -1)=true:=by simpa using (wrap64_ones b0 b1).mpr h2
  clear h h2
  go_enter Tryz.func99,Tryz.ntmps99
  go_wp2_with fail
  go_ret
  exact ⟨by rw [F.out];rfl,rfl⟩
 ·have F:Hid (AF.div.v a b=IntKind.u64.wrap (wrap64 ((wrap64 a).tdiv (wrap64 b)))):=by show _=_;simp [AF.v,h]
  have d:(wrap64 b==0)=false:=by simpa using fun k=>h ((wrap64_zero b0 b1).mp k)
  have d2:(wrap64 b == -1)=false:=by simpa using fun k=>h2 ((wrap64_ones b0 b1).mp k)
  have d3:¬ wrap64 b=0:=fun k=>h ((wrap64_zero b0 b1).mp k)
  clear h h2
  go_enter Tryz.func99,Tryz.ntmps99
  go_wp2_with fail
  go_ret
  exact ⟨by rw [F.out];rfl,rfl⟩

theorem l3Div_rem (a b:Int) (a0:0≤a) (a1:a < 18446744073709551616) (b0:0≤b) (b1:b < 18446744073709551616) (w:World):Calls Tryz.prog 99 #[.string ⟨#[114,101,109]⟩,.int .u64 a,.int .u64 b] w fun e w'=>e=.returned (.int .u64 (AF.rem.v a b))∧w'=w:=by
 by_cases h:b=0
 ·have F:Hid (AF.rem.v a b=a):=by show _=_;simp [AF.v,h]
  have d:(wrap64 b==0)=true:=by simpa using (wrap64_zero b0 b1).mpr h
  clear h
  go_enter Tryz.func99,Tryz.ntmps99
  go_wp2_with fail
  go_ret
  exact ⟨by rw [F.out];rfl,rfl⟩
 by_cases h2:b=18446744073709551615
 ·have F:Hid (AF.rem.v a b=0):=by
   show _=_
   simp only [AF.v,if_neg h]
   rw [(wrap64_ones b0 b1).mpr h2]
   exact rem_ones a
  have d:(wrap64 b==0)=false:=by simpa using fun k=>h ((wrap64_zero b0 b1).mp k)
  have d2:(wrap64 b == -1)=true:=by simpa using (wrap64_ones b0 b1).mpr h2
  clear h h2
  go_enter Tryz.func99,Tryz.ntmps99
  go_wp2_with fail
  go_ret
  exact ⟨by rw [F.out];rfl,rfl⟩
 ·have F:Hid (AF.rem.v a b=IntKind.u64.wrap ((wrap64 a).tmod (wrap64 b))):=by show _=_;simp [AF.v,h]
  have d:(wrap64 b==0)=false:=by simpa using fun k=>h ((wrap64_zero b0 b1).mp k)
  have d2:(wrap64 b == -1)=false:=by simpa using fun k=>h2 ((wrap64_ones b0 b1).mp k)
  have d3:¬ wrap64 b=0:=fun k=>h ((wrap64_zero b0 b1).mp k)
  clear h h2
  go_enter Tryz.func99,Tryz.ntmps99
  go_wp2_with fail
  go_ret
  exact ⟨by rw [F.out];rfl,rfl⟩

theorem l3Div_divu (a b:Int) (a0:0≤a) (a1:a < 18446744073709551616) (b0:0≤b) (b1:b < 18446744073709551616) (w:World):Calls Tryz.prog 99 #[.string ⟨#[100,105,118,117]⟩,.int .u64 a,.int .u64 b] w fun e w'=>e=.returned (.int .u64 (AF.divu.v a b))∧w'=w:=by
 by_cases h:b=0
 ·have F:Hid (AF.divu.v a b=18446744073709551615):=by show _=_;simp [AF.v,h]
  have d:(b==0)=true:=by simpa using h
  clear h
  go_enter Tryz.func99,Tryz.ntmps99
  go_wp2_with fail
  go_ret
  exact ⟨by rw [F.out];rfl,rfl⟩
 ·have F:Hid (AF.divu.v a b=IntKind.u64.wrap (a.tdiv b)):=by show _=_;simp [AF.v,h]
  have d:(b==0)=false:=by simpa using h
  clear a0 a1 b0 b1
  go_enter Tryz.func99,Tryz.ntmps99
  go_wp2_with fail
  go_ret
  exact ⟨by rw [F.out];rfl,rfl⟩

theorem l3Div_remu (a b:Int) (a0:0≤a) (a1:a < 18446744073709551616) (b0:0≤b) (b1:b < 18446744073709551616) (w:World):Calls Tryz.prog 99 #[.string ⟨#[114,101,109,117]⟩,.int .u64 a,.int .u64 b] w fun e w'=>e=.returned (.int .u64 (AF.remu.v a b))∧w'=w:=by
 by_cases h:b=0
 ·have F:Hid (AF.remu.v a b=a):=by show _=_;simp [AF.v,h]
  have d:(b==0)=true:=by simpa using h
  clear h
  go_enter Tryz.func99,Tryz.ntmps99
  go_wp2_with fail
  go_ret
  exact ⟨by rw [F.out];rfl,rfl⟩
 ·have F:Hid (AF.remu.v a b=a.tmod b):=by show _=_;simp [AF.v,h]
  have d:(b==0)=false:=by simpa using h
  clear a0 a1 b0 b1
  go_enter Tryz.func99,Tryz.ntmps99
  go_wp2_with fail
  go_ret
  exact ⟨by rw [F.out];rfl,rfl⟩

set_option maxRecDepth 100000 in
set_option maxHeartbeats 1600000 in
theorem l3Op_0 (a b:Int) (a0:0≤a) (a1:a < 18446744073709551616) (b0:0≤b) (b1:b < 18446744073709551616) (w:World):Calls Tryz.prog 85 #[.string ⟨#[97,100,100,105]⟩,.int .u64 a,.int .u64 b] w fun e w'=>e=.returned (.int .u64 ((aoAt 0).v a b))∧w'=w:=by
 go_enter Tryz.func85,Tryz.ntmps85
 go_wp2_with (fail)
 go_ret
 exact ⟨rfl,rfl⟩

set_option maxRecDepth 100000 in
set_option maxHeartbeats 1600000 in
theorem l3Op_1 (a b:Int) (a0:0≤a) (a1:a < 18446744073709551616) (b0:0≤b) (b1:b < 18446744073709551616) (w:World):Calls Tryz.prog 85 #[.string ⟨#[115,108,116,105]⟩,.int .u64 a,.int .u64 b] w fun e w'=>e=.returned (.int .u64 ((aoAt 1).v a b))∧w'=w:=by
 go_enter Tryz.func85,Tryz.ntmps85
 go_wp2_with ((go_at_call 45;with_reducible refine (l3If_any _ _).mono ?_;rintro e w1 ⟨rfl,rfl⟩))
 go_ret
 exact ⟨rfl,rfl⟩

set_option maxRecDepth 100000 in
set_option maxHeartbeats 1600000 in
theorem l3Op_2 (a b:Int) (a0:0≤a) (a1:a < 18446744073709551616) (b0:0≤b) (b1:b < 18446744073709551616) (w:World):Calls Tryz.prog 85 #[.string ⟨#[115,108,116,105,117]⟩,.int .u64 a,.int .u64 b] w fun e w'=>e=.returned (.int .u64 ((aoAt 2).v a b))∧w'=w:=by
 go_enter Tryz.func85,Tryz.ntmps85
 go_wp2_with ((go_at_call 45;with_reducible refine (l3If_any _ _).mono ?_;rintro e w1 ⟨rfl,rfl⟩))
 go_ret
 exact ⟨rfl,rfl⟩

set_option maxRecDepth 100000 in
set_option maxHeartbeats 1600000 in
theorem l3Op_3 (a b:Int) (a0:0≤a) (a1:a < 18446744073709551616) (b0:0≤b) (b1:b < 18446744073709551616) (w:World):Calls Tryz.prog 85 #[.string ⟨#[120,111,114,105]⟩,.int .u64 a,.int .u64 b] w fun e w'=>e=.returned (.int .u64 ((aoAt 3).v a b))∧w'=w:=by
 go_enter Tryz.func85,Tryz.ntmps85
 go_wp2_with (fail)
 go_ret
 exact ⟨rfl,rfl⟩

set_option maxRecDepth 100000 in
set_option maxHeartbeats 1600000 in
theorem l3Op_4 (a b:Int) (a0:0≤a) (a1:a < 18446744073709551616) (b0:0≤b) (b1:b < 18446744073709551616) (w:World):Calls Tryz.prog 85 #[.string ⟨#[111,114,105]⟩,.int .u64 a,.int .u64 b] w fun e w'=>e=.returned (.int .u64 ((aoAt 4).v a b))∧w'=w:=by
 go_enter Tryz.func85,Tryz.ntmps85
 go_wp2_with (fail)
 go_ret
 exact ⟨rfl,rfl⟩

set_option maxRecDepth 100000 in
set_option maxHeartbeats 1600000 in
theorem l3Op_5 (a b:Int) (a0:0≤a) (a1:a < 18446744073709551616) (b0:0≤b) (b1:b < 18446744073709551616) (w:World):Calls Tryz.prog 85 #[.string ⟨#[97,110,100,105]⟩,.int .u64 a,.int .u64 b] w fun e w'=>e=.returned (.int .u64 ((aoAt 5).v a b))∧w'=w:=by
 go_enter Tryz.func85,Tryz.ntmps85
 go_wp2_with (fail)
 go_ret
 exact ⟨rfl,rfl⟩

set_option maxRecDepth 100000 in
set_option maxHeartbeats 1600000 in
theorem l3Op_6 (a b:Int) (a0:0≤a) (a1:a < 18446744073709551616) (b0:0≤b) (b1:b < 18446744073709551616) (w:World):Calls Tryz.prog 85 #[.string ⟨#[115,108,108,105]⟩,.int .u64 a,.int .u64 b] w fun e w'=>e=.returned (.int .u64 ((aoAt 6).v a b))∧w'=w:=by
 have hm:bits .and .u64 b 63=(sh b:Int):=by rw [← sh_eq];exact and_low b 6 b0 b1 (by omega)
 have hlt:=sh_lt b
 go_enter Tryz.func85,Tryz.ntmps85
 go_wp2_with (fail)
 go_ret
 exact ⟨rfl,rfl⟩

set_option maxRecDepth 100000 in
set_option maxHeartbeats 1600000 in
theorem l3Op_7 (a b:Int) (a0:0≤a) (a1:a < 18446744073709551616) (b0:0≤b) (b1:b < 18446744073709551616) (w:World):Calls Tryz.prog 85 #[.string ⟨#[115,114,108,105]⟩,.int .u64 a,.int .u64 b] w fun e w'=>e=.returned (.int .u64 ((aoAt 7).v a b))∧w'=w:=by
 have hm:bits .and .u64 b 63=(sh b:Int):=by rw [← sh_eq];exact and_low b 6 b0 b1 (by omega)
 have hlt:=sh_lt b
 go_enter Tryz.func85,Tryz.ntmps85
 go_wp2_with (fail)
 go_ret
 exact ⟨rfl,rfl⟩

set_option maxRecDepth 100000 in
set_option maxHeartbeats 1600000 in
theorem l3Op_8 (a b:Int) (a0:0≤a) (a1:a < 18446744073709551616) (b0:0≤b) (b1:b < 18446744073709551616) (w:World):Calls Tryz.prog 85 #[.string ⟨#[115,114,97,105]⟩,.int .u64 a,.int .u64 b] w fun e w'=>e=.returned (.int .u64 ((aoAt 8).v a b))∧w'=w:=by
 have hm:bits .and .u64 b 63=(sh b:Int):=by rw [← sh_eq];exact and_low b 6 b0 b1 (by omega)
 have hlt:=sh_lt b
 go_enter Tryz.func85,Tryz.ntmps85
 go_wp2_with (fail)
 go_ret
 exact ⟨rfl,rfl⟩

set_option maxRecDepth 100000 in
set_option maxHeartbeats 1600000 in
theorem l3Op_9 (a b:Int) (a0:0≤a) (a1:a < 18446744073709551616) (b0:0≤b) (b1:b < 18446744073709551616) (w:World):Calls Tryz.prog 85 #[.string ⟨#[97,100,100,105,119]⟩,.int .u64 a,.int .u64 b] w fun e w'=>e=.returned (.int .u64 ((aoAt 9).v a b))∧w'=w:=by
 have F:Hid ((aoAt 9).v a b=widen 32 (IntKind.u64.wrap (a+b))):=(w_sum a b).symm
 go_enter Tryz.func85,Tryz.ntmps85
 go_wp2_with ((go_at_call 84;with_reducible refine (l1Widen32 _ _).mono ?_;rintro e w1 ⟨rfl,rfl⟩))
 go_ret
 exact ⟨by rw [F.out];rfl,rfl⟩

set_option maxRecDepth 100000 in
set_option maxHeartbeats 1600000 in
theorem l3Op_10 (a b:Int) (a0:0≤a) (a1:a < 18446744073709551616) (b0:0≤b) (b1:b < 18446744073709551616) (w:World):Calls Tryz.prog 85 #[.string ⟨#[115,108,108,105,119]⟩,.int .u64 a,.int .u64 b] w fun e w'=>e=.returned (.int .u64 ((aoAt 10).v a b))∧w'=w:=by
 have hm:bits .and .u64 b 31=(sh5 b:Int):=by rw [← sh5_eq];exact and_low b 5 b0 b1 (by omega)
 have hlt:=sh5_lt b
 have F:Hid ((aoAt 10).v a b=widen 32 (IntKind.u64.wrap (a*2 ^ sh5 b))):=(w_sl a b).symm
 go_enter Tryz.func85,Tryz.ntmps85
 go_wp2_with ((go_at_call 84;with_reducible refine (l1Widen32 _ _).mono ?_;rintro e w1 ⟨rfl,rfl⟩))
 go_ret
 exact ⟨by rw [F.out];rfl,rfl⟩

set_option maxRecDepth 100000 in
set_option maxHeartbeats 1600000 in
theorem l3Op_11 (a b:Int) (a0:0≤a) (a1:a < 18446744073709551616) (b0:0≤b) (b1:b < 18446744073709551616) (w:World):Calls Tryz.prog 85 #[.string ⟨#[115,114,108,105,119]⟩,.int .u64 a,.int .u64 b] w fun e w'=>e=.returned (.int .u64 ((aoAt 11).v a b))∧w'=w:=by
 have hm:bits .and .u64 b 31=(sh5 b:Int):=by rw [← sh5_eq];exact and_low b 5 b0 b1 (by omega)
 have hlt:=sh5_lt b
 have ha:=mask32 a a0 a1
 have F:Hid ((aoAt 11).v a b=widen 32 (a % 4294967296 / 2 ^ sh5 b)):=(w_sr a b).symm
 go_enter Tryz.func85,Tryz.ntmps85
 go_wp2_with ((go_at_call 84;with_reducible refine (l1Widen32 _ _).mono ?_;rintro e w1 ⟨rfl,rfl⟩))
 go_ret
 exact ⟨by rw [F.out];rfl,rfl⟩

set_option maxRecDepth 100000 in
set_option maxHeartbeats 1600000 in
theorem l3Op_12 (a b:Int) (a0:0≤a) (a1:a < 18446744073709551616) (b0:0≤b) (b1:b < 18446744073709551616) (w:World):Calls Tryz.prog 85 #[.string ⟨#[115,114,97,105,119]⟩,.int .u64 a,.int .u64 b] w fun e w'=>e=.returned (.int .u64 ((aoAt 12).v a b))∧w'=w:=by
 have hm:bits .and .u64 b 31=(sh5 b:Int):=by rw [← sh5_eq];exact and_low b 5 b0 b1 (by omega)
 have hlt:=sh5_lt b
 have F:Hid ((aoAt 12).v a b=IntKind.u64.wrap (wrap64 (widen 32 a) / 2 ^ sh5 b)):=(w_sra a b).symm
 go_enter Tryz.func85,Tryz.ntmps85
 go_wp2_with ((go_at_call 84;with_reducible refine (l1Widen32 _ _).mono ?_;rintro e w1 ⟨rfl,rfl⟩))
 go_ret
 exact ⟨by rw [F.out];rfl,rfl⟩

set_option maxRecDepth 100000 in
set_option maxHeartbeats 1600000 in
theorem l3Op_13 (a b:Int) (a0:0≤a) (a1:a < 18446744073709551616) (b0:0≤b) (b1:b < 18446744073709551616) (w:World):Calls Tryz.prog 85 #[.string ⟨#[97,100,100]⟩,.int .u64 a,.int .u64 b] w fun e w'=>e=.returned (.int .u64 ((aoAt 13).v a b))∧w'=w:=by
 go_enter Tryz.func85,Tryz.ntmps85
 go_wp2_with (fail)
 go_ret
 exact ⟨rfl,rfl⟩

set_option maxRecDepth 100000 in
set_option maxHeartbeats 1600000 in
theorem l3Op_14 (a b:Int) (a0:0≤a) (a1:a < 18446744073709551616) (b0:0≤b) (b1:b < 18446744073709551616) (w:World):Calls Tryz.prog 85 #[.string ⟨#[115,117,98]⟩,.int .u64 a,.int .u64 b] w fun e w'=>e=.returned (.int .u64 ((aoAt 14).v a b))∧w'=w:=by
 go_enter Tryz.func85,Tryz.ntmps85
 go_wp2_with (fail)
 go_ret
 exact ⟨rfl,rfl⟩

set_option maxRecDepth 100000 in
set_option maxHeartbeats 1600000 in
theorem l3Op_15 (a b:Int) (a0:0≤a) (a1:a < 18446744073709551616) (b0:0≤b) (b1:b < 18446744073709551616) (w:World):Calls Tryz.prog 85 #[.string ⟨#[115,108,108]⟩,.int .u64 a,.int .u64 b] w fun e w'=>e=.returned (.int .u64 ((aoAt 15).v a b))∧w'=w:=by
 have hm:bits .and .u64 b 63=(sh b:Int):=by rw [← sh_eq];exact and_low b 6 b0 b1 (by omega)
 have hlt:=sh_lt b
 go_enter Tryz.func85,Tryz.ntmps85
 go_wp2_with (fail)
 go_ret
 exact ⟨rfl,rfl⟩

set_option maxRecDepth 100000 in
set_option maxHeartbeats 1600000 in
theorem l3Op_16 (a b:Int) (a0:0≤a) (a1:a < 18446744073709551616) (b0:0≤b) (b1:b < 18446744073709551616) (w:World):Calls Tryz.prog 85 #[.string ⟨#[115,108,116]⟩,.int .u64 a,.int .u64 b] w fun e w'=>e=.returned (.int .u64 ((aoAt 16).v a b))∧w'=w:=by
 go_enter Tryz.func85,Tryz.ntmps85
 go_wp2_with ((go_at_call 45;with_reducible refine (l3If_any _ _).mono ?_;rintro e w1 ⟨rfl,rfl⟩))
 go_ret
 exact ⟨rfl,rfl⟩

set_option maxRecDepth 100000 in
set_option maxHeartbeats 1600000 in
theorem l3Op_17 (a b:Int) (a0:0≤a) (a1:a < 18446744073709551616) (b0:0≤b) (b1:b < 18446744073709551616) (w:World):Calls Tryz.prog 85 #[.string ⟨#[115,108,116,117]⟩,.int .u64 a,.int .u64 b] w fun e w'=>e=.returned (.int .u64 ((aoAt 17).v a b))∧w'=w:=by
 go_enter Tryz.func85,Tryz.ntmps85
 go_wp2_with ((go_at_call 45;with_reducible refine (l3If_any _ _).mono ?_;rintro e w1 ⟨rfl,rfl⟩))
 go_ret
 exact ⟨rfl,rfl⟩

set_option maxRecDepth 100000 in
set_option maxHeartbeats 1600000 in
theorem l3Op_18 (a b:Int) (a0:0≤a) (a1:a < 18446744073709551616) (b0:0≤b) (b1:b < 18446744073709551616) (w:World):Calls Tryz.prog 85 #[.string ⟨#[120,111,114]⟩,.int .u64 a,.int .u64 b] w fun e w'=>e=.returned (.int .u64 ((aoAt 18).v a b))∧w'=w:=by
 go_enter Tryz.func85,Tryz.ntmps85
 go_wp2_with (fail)
 go_ret
 exact ⟨rfl,rfl⟩

set_option maxRecDepth 100000 in
set_option maxHeartbeats 1600000 in
theorem l3Op_19 (a b:Int) (a0:0≤a) (a1:a < 18446744073709551616) (b0:0≤b) (b1:b < 18446744073709551616) (w:World):Calls Tryz.prog 85 #[.string ⟨#[115,114,108]⟩,.int .u64 a,.int .u64 b] w fun e w'=>e=.returned (.int .u64 ((aoAt 19).v a b))∧w'=w:=by
 have hm:bits .and .u64 b 63=(sh b:Int):=by rw [← sh_eq];exact and_low b 6 b0 b1 (by omega)
 have hlt:=sh_lt b
 go_enter Tryz.func85,Tryz.ntmps85
 go_wp2_with (fail)
 go_ret
 exact ⟨rfl,rfl⟩

set_option maxRecDepth 100000 in
set_option maxHeartbeats 1600000 in
theorem l3Op_20 (a b:Int) (a0:0≤a) (a1:a < 18446744073709551616) (b0:0≤b) (b1:b < 18446744073709551616) (w:World):Calls Tryz.prog 85 #[.string ⟨#[115,114,97]⟩,.int .u64 a,.int .u64 b] w fun e w'=>e=.returned (.int .u64 ((aoAt 20).v a b))∧w'=w:=by
 have hm:bits .and .u64 b 63=(sh b:Int):=by rw [← sh_eq];exact and_low b 6 b0 b1 (by omega)
 have hlt:=sh_lt b
 go_enter Tryz.func85,Tryz.ntmps85
 go_wp2_with (fail)
 go_ret
 exact ⟨rfl,rfl⟩

set_option maxRecDepth 100000 in
set_option maxHeartbeats 1600000 in
theorem l3Op_21 (a b:Int) (a0:0≤a) (a1:a < 18446744073709551616) (b0:0≤b) (b1:b < 18446744073709551616) (w:World):Calls Tryz.prog 85 #[.string ⟨#[111,114]⟩,.int .u64 a,.int .u64 b] w fun e w'=>e=.returned (.int .u64 ((aoAt 21).v a b))∧w'=w:=by
 go_enter Tryz.func85,Tryz.ntmps85
 go_wp2_with (fail)
 go_ret
 exact ⟨rfl,rfl⟩

set_option maxRecDepth 100000 in
set_option maxHeartbeats 1600000 in
theorem l3Op_22 (a b:Int) (a0:0≤a) (a1:a < 18446744073709551616) (b0:0≤b) (b1:b < 18446744073709551616) (w:World):Calls Tryz.prog 85 #[.string ⟨#[97,110,100]⟩,.int .u64 a,.int .u64 b] w fun e w'=>e=.returned (.int .u64 ((aoAt 22).v a b))∧w'=w:=by
 go_enter Tryz.func85,Tryz.ntmps85
 go_wp2_with (fail)
 go_ret
 exact ⟨rfl,rfl⟩

set_option maxRecDepth 100000 in
set_option maxHeartbeats 1600000 in
theorem l3Op_23 (a b:Int) (a0:0≤a) (a1:a < 18446744073709551616) (b0:0≤b) (b1:b < 18446744073709551616) (w:World):Calls Tryz.prog 85 #[.string ⟨#[97,100,100,119]⟩,.int .u64 a,.int .u64 b] w fun e w'=>e=.returned (.int .u64 ((aoAt 23).v a b))∧w'=w:=by
 have F:Hid ((aoAt 23).v a b=widen 32 (IntKind.u64.wrap (a+b))):=(w_sum a b).symm
 go_enter Tryz.func85,Tryz.ntmps85
 go_wp2_with ((go_at_call 84;with_reducible refine (l1Widen32 _ _).mono ?_;rintro e w1 ⟨rfl,rfl⟩))
 go_ret
 exact ⟨by rw [F.out];rfl,rfl⟩

set_option maxRecDepth 100000 in
set_option maxHeartbeats 1600000 in
theorem l3Op_24 (a b:Int) (a0:0≤a) (a1:a < 18446744073709551616) (b0:0≤b) (b1:b < 18446744073709551616) (w:World):Calls Tryz.prog 85 #[.string ⟨#[115,117,98,119]⟩,.int .u64 a,.int .u64 b] w fun e w'=>e=.returned (.int .u64 ((aoAt 24).v a b))∧w'=w:=by
 have F:Hid ((aoAt 24).v a b=widen 32 (IntKind.u64.wrap (a - b))):=(w_sub a b).symm
 go_enter Tryz.func85,Tryz.ntmps85
 go_wp2_with ((go_at_call 84;with_reducible refine (l1Widen32 _ _).mono ?_;rintro e w1 ⟨rfl,rfl⟩))
 go_ret
 exact ⟨by rw [F.out];rfl,rfl⟩

set_option maxRecDepth 100000 in
set_option maxHeartbeats 1600000 in
theorem l3Op_25 (a b:Int) (a0:0≤a) (a1:a < 18446744073709551616) (b0:0≤b) (b1:b < 18446744073709551616) (w:World):Calls Tryz.prog 85 #[.string ⟨#[115,108,108,119]⟩,.int .u64 a,.int .u64 b] w fun e w'=>e=.returned (.int .u64 ((aoAt 25).v a b))∧w'=w:=by
 have hm:bits .and .u64 b 31=(sh5 b:Int):=by rw [← sh5_eq];exact and_low b 5 b0 b1 (by omega)
 have hlt:=sh5_lt b
 have F:Hid ((aoAt 25).v a b=widen 32 (IntKind.u64.wrap (a*2 ^ sh5 b))):=(w_sl a b).symm
 go_enter Tryz.func85,Tryz.ntmps85
 go_wp2_with ((go_at_call 84;with_reducible refine (l1Widen32 _ _).mono ?_;rintro e w1 ⟨rfl,rfl⟩))
 go_ret
 exact ⟨by rw [F.out];rfl,rfl⟩

set_option maxRecDepth 100000 in
set_option maxHeartbeats 1600000 in
theorem l3Op_26 (a b:Int) (a0:0≤a) (a1:a < 18446744073709551616) (b0:0≤b) (b1:b < 18446744073709551616) (w:World):Calls Tryz.prog 85 #[.string ⟨#[115,114,108,119]⟩,.int .u64 a,.int .u64 b] w fun e w'=>e=.returned (.int .u64 ((aoAt 26).v a b))∧w'=w:=by
 have hm:bits .and .u64 b 31=(sh5 b:Int):=by rw [← sh5_eq];exact and_low b 5 b0 b1 (by omega)
 have hlt:=sh5_lt b
 have ha:=mask32 a a0 a1
 have F:Hid ((aoAt 26).v a b=widen 32 (a % 4294967296 / 2 ^ sh5 b)):=(w_sr a b).symm
 go_enter Tryz.func85,Tryz.ntmps85
 go_wp2_with ((go_at_call 84;with_reducible refine (l1Widen32 _ _).mono ?_;rintro e w1 ⟨rfl,rfl⟩))
 go_ret
 exact ⟨by rw [F.out];rfl,rfl⟩

set_option maxRecDepth 100000 in
set_option maxHeartbeats 1600000 in
theorem l3Op_27 (a b:Int) (a0:0≤a) (a1:a < 18446744073709551616) (b0:0≤b) (b1:b < 18446744073709551616) (w:World):Calls Tryz.prog 85 #[.string ⟨#[115,114,97,119]⟩,.int .u64 a,.int .u64 b] w fun e w'=>e=.returned (.int .u64 ((aoAt 27).v a b))∧w'=w:=by
 have hm:bits .and .u64 b 31=(sh5 b:Int):=by rw [← sh5_eq];exact and_low b 5 b0 b1 (by omega)
 have hlt:=sh5_lt b
 have F:Hid ((aoAt 27).v a b=IntKind.u64.wrap (wrap64 (widen 32 a) / 2 ^ sh5 b)):=(w_sra a b).symm
 go_enter Tryz.func85,Tryz.ntmps85
 go_wp2_with ((go_at_call 84;with_reducible refine (l1Widen32 _ _).mono ?_;rintro e w1 ⟨rfl,rfl⟩))
 go_ret
 exact ⟨by rw [F.out];rfl,rfl⟩

set_option maxRecDepth 100000 in
set_option maxHeartbeats 1600000 in
theorem l3Op_28 (a b:Int) (a0:0≤a) (a1:a < 18446744073709551616) (b0:0≤b) (b1:b < 18446744073709551616) (w:World):Calls Tryz.prog 85 #[.string ⟨#[109,117,108]⟩,.int .u64 a,.int .u64 b] w fun e w'=>e=.returned (.int .u64 ((aoAt 28).v a b))∧w'=w:=by
 go_enter Tryz.func85,Tryz.ntmps85
 go_wp2_with (fail)
 go_ret
 exact ⟨rfl,rfl⟩

set_option maxRecDepth 100000 in
set_option maxHeartbeats 1600000 in
theorem l3Op_29 (a b:Int) (a0:0≤a) (a1:a < 18446744073709551616) (b0:0≤b) (b1:b < 18446744073709551616) (w:World):Calls Tryz.prog 85 #[.string ⟨#[109,117,108,104]⟩,.int .u64 a,.int .u64 b] w fun e w'=>e=.returned (.int .u64 ((aoAt 29).v a b))∧w'=w:=by
 by_cases h1:wrap64 a < 0
 ·by_cases h2:wrap64 b < 0
  ·have F:Hid ((aoAt 29).v a b=IntKind.u64.wrap (IntKind.u64.wrap (highV a b - b) - a)):=by show _=_;simp [aoAt,aos,AO.v,AF.v,highSV,highSuV,h1,h2]
   have d1:decide (wrap64 a < 0)=true:=by simpa using h1
   have d2:decide (wrap64 b < 0)=true:=by simpa using h2
   clear h1 h2
   go_enter Tryz.func85,Tryz.ntmps85
   go_wp2_with (go_at_call 98;with_reducible refine (specHigh_any a b a0 a1 b0 b1 _).mono ?_;rintro e w1 ⟨rfl,rfl⟩)
   go_ret
   exact ⟨by rw [F.out];rfl,rfl⟩
  ·have F:Hid ((aoAt 29).v a b=IntKind.u64.wrap (highV a b - b)):=by show _=_;simp [aoAt,aos,AO.v,AF.v,highSV,highSuV,h1,h2]
   have d1:decide (wrap64 a < 0)=true:=by simpa using h1
   have d2:decide (wrap64 b < 0)=false:=by simpa using h2
   clear h1 h2
   go_enter Tryz.func85,Tryz.ntmps85
   go_wp2_with (go_at_call 98;with_reducible refine (specHigh_any a b a0 a1 b0 b1 _).mono ?_;rintro e w1 ⟨rfl,rfl⟩)
   go_ret
   exact ⟨by rw [F.out];rfl,rfl⟩
 ·by_cases h2:wrap64 b < 0
  ·have F:Hid ((aoAt 29).v a b=IntKind.u64.wrap (highV a b - a)):=by show _=_;simp [aoAt,aos,AO.v,AF.v,highSV,highSuV,h1,h2]
   have d1:decide (wrap64 a < 0)=false:=by simpa using h1
   have d2:decide (wrap64 b < 0)=true:=by simpa using h2
   clear h1 h2
   go_enter Tryz.func85,Tryz.ntmps85
   go_wp2_with (go_at_call 98;with_reducible refine (specHigh_any a b a0 a1 b0 b1 _).mono ?_;rintro e w1 ⟨rfl,rfl⟩)
   go_ret
   exact ⟨by rw [F.out];rfl,rfl⟩
  ·have F:Hid ((aoAt 29).v a b=highV a b):=by show _=_;simp [aoAt,aos,AO.v,AF.v,highSV,highSuV,h1,h2]
   have d1:decide (wrap64 a < 0)=false:=by simpa using h1
   have d2:decide (wrap64 b < 0)=false:=by simpa using h2
   clear h1 h2
   go_enter Tryz.func85,Tryz.ntmps85
   go_wp2_with (go_at_call 98;with_reducible refine (specHigh_any a b a0 a1 b0 b1 _).mono ?_;rintro e w1 ⟨rfl,rfl⟩)
   go_ret
   exact ⟨by rw [F.out];rfl,rfl⟩

set_option maxRecDepth 100000 in
set_option maxHeartbeats 1600000 in
theorem l3Op_30 (a b:Int) (a0:0≤a) (a1:a < 18446744073709551616) (b0:0≤b) (b1:b < 18446744073709551616) (w:World):Calls Tryz.prog 85 #[.string ⟨#[109,117,108,104,115,117]⟩,.int .u64 a,.int .u64 b] w fun e w'=>e=.returned (.int .u64 ((aoAt 30).v a b))∧w'=w:=by
 by_cases h1:wrap64 a < 0
 ·have F:Hid ((aoAt 30).v a b=IntKind.u64.wrap (highV a b - b)):=by show _=_;simp [aoAt,aos,AO.v,AF.v,highSuV,h1]
  have d1:decide (wrap64 a < 0)=true:=by simpa using h1
  clear h1
  go_enter Tryz.func85,Tryz.ntmps85
  go_wp2_with (go_at_call 98;with_reducible refine (specHigh_any a b a0 a1 b0 b1 _).mono ?_;rintro e w1 ⟨rfl,rfl⟩)
  go_ret
  exact ⟨by rw [F.out];rfl,rfl⟩
 ·have F:Hid ((aoAt 30).v a b=highV a b):=by show _=_;simp [aoAt,aos,AO.v,AF.v,highSuV,h1]
  have d1:decide (wrap64 a < 0)=false:=by simpa using h1
  clear h1
  go_enter Tryz.func85,Tryz.ntmps85
  go_wp2_with (go_at_call 98;with_reducible refine (specHigh_any a b a0 a1 b0 b1 _).mono ?_;rintro e w1 ⟨rfl,rfl⟩)
  go_ret
  exact ⟨by rw [F.out];rfl,rfl⟩

set_option maxRecDepth 100000 in
set_option maxHeartbeats 1600000 in
theorem l3Op_31 (a b:Int) (a0:0≤a) (a1:a < 18446744073709551616) (b0:0≤b) (b1:b < 18446744073709551616) (w:World):Calls Tryz.prog 85 #[.string ⟨#[109,117,108,104,117]⟩,.int .u64 a,.int .u64 b] w fun e w'=>e=.returned (.int .u64 ((aoAt 31).v a b))∧w'=w:=by
 go_enter Tryz.func85,Tryz.ntmps85
 go_wp2_with ((go_at_call 98;with_reducible refine (specHigh_any a b a0 a1 b0 b1 _).mono ?_;rintro e w1 ⟨rfl,rfl⟩))
 go_ret
 exact ⟨rfl,rfl⟩

set_option maxRecDepth 100000 in
set_option maxHeartbeats 1600000 in
theorem l3Op_32 (a b:Int) (a0:0≤a) (a1:a < 18446744073709551616) (b0:0≤b) (b1:b < 18446744073709551616) (w:World):Calls Tryz.prog 85 #[.string ⟨#[100,105,118]⟩,.int .u64 a,.int .u64 b] w fun e w'=>e=.returned (.int .u64 ((aoAt 32).v a b))∧w'=w:=by
 have ba:=And.intro a0 a1
 have bb:=And.intro b0 b1
 go_enter Tryz.func85,Tryz.ntmps85
 go_wp2_with ((go_at_call 99;with_reducible refine (l3Div_div a b ba.1 ba.2 bb.1 bb.2 _).mono ?_;rintro e w1 ⟨rfl,rfl⟩))
 go_ret
 exact ⟨rfl,rfl⟩

set_option maxRecDepth 100000 in
set_option maxHeartbeats 1600000 in
theorem l3Op_33 (a b:Int) (a0:0≤a) (a1:a < 18446744073709551616) (b0:0≤b) (b1:b < 18446744073709551616) (w:World):Calls Tryz.prog 85 #[.string ⟨#[100,105,118,117]⟩,.int .u64 a,.int .u64 b] w fun e w'=>e=.returned (.int .u64 ((aoAt 33).v a b))∧w'=w:=by
 have ba:=And.intro a0 a1
 have bb:=And.intro b0 b1
 go_enter Tryz.func85,Tryz.ntmps85
 go_wp2_with ((go_at_call 99;with_reducible refine (l3Div_divu a b ba.1 ba.2 bb.1 bb.2 _).mono ?_;rintro e w1 ⟨rfl,rfl⟩))
 go_ret
 exact ⟨rfl,rfl⟩

set_option maxRecDepth 100000 in
set_option maxHeartbeats 1600000 in
theorem l3Op_34 (a b:Int) (a0:0≤a) (a1:a < 18446744073709551616) (b0:0≤b) (b1:b < 18446744073709551616) (w:World):Calls Tryz.prog 85 #[.string ⟨#[114,101,109]⟩,.int .u64 a,.int .u64 b] w fun e w'=>e=.returned (.int .u64 ((aoAt 34).v a b))∧w'=w:=by
 have ba:=And.intro a0 a1
 have bb:=And.intro b0 b1
 go_enter Tryz.func85,Tryz.ntmps85
 go_wp2_with ((go_at_call 99;with_reducible refine (l3Div_rem a b ba.1 ba.2 bb.1 bb.2 _).mono ?_;rintro e w1 ⟨rfl,rfl⟩))
 go_ret
 exact ⟨rfl,rfl⟩

set_option maxRecDepth 100000 in
set_option maxHeartbeats 1600000 in
theorem l3Op_35 (a b:Int) (a0:0≤a) (a1:a < 18446744073709551616) (b0:0≤b) (b1:b < 18446744073709551616) (w:World):Calls Tryz.prog 85 #[.string ⟨#[114,101,109,117]⟩,.int .u64 a,.int .u64 b] w fun e w'=>e=.returned (.int .u64 ((aoAt 35).v a b))∧w'=w:=by
 have ba:=And.intro a0 a1
 have bb:=And.intro b0 b1
 go_enter Tryz.func85,Tryz.ntmps85
 go_wp2_with ((go_at_call 99;with_reducible refine (l3Div_remu a b ba.1 ba.2 bb.1 bb.2 _).mono ?_;rintro e w1 ⟨rfl,rfl⟩))
 go_ret
 exact ⟨rfl,rfl⟩

set_option maxRecDepth 100000 in
set_option maxHeartbeats 1600000 in
theorem l3Op_36 (a b:Int) (a0:0≤a) (a1:a < 18446744073709551616) (b0:0≤b) (b1:b < 18446744073709551616) (w:World):Calls Tryz.prog 85 #[.string ⟨#[109,117,108,119]⟩,.int .u64 a,.int .u64 b] w fun e w'=>e=.returned (.int .u64 ((aoAt 36).v a b))∧w'=w:=by
 have F:Hid ((aoAt 36).v a b=widen 32 (IntKind.u64.wrap (a*b))):=(w_mul a b).symm
 go_enter Tryz.func85,Tryz.ntmps85
 go_wp2_with ((go_at_call 84;with_reducible refine (l1Widen32 _ _).mono ?_;rintro e w1 ⟨rfl,rfl⟩))
 go_ret
 exact ⟨by rw [F.out];rfl,rfl⟩

set_option maxRecDepth 100000 in
set_option maxHeartbeats 1600000 in
theorem l3Op_37 (a b:Int) (a0:0≤a) (a1:a < 18446744073709551616) (b0:0≤b) (b1:b < 18446744073709551616) (w:World):Calls Tryz.prog 85 #[.string ⟨#[100,105,118,119]⟩,.int .u64 a,.int .u64 b] w fun e w'=>e=.returned (.int .u64 ((aoAt 37).v a b))∧w'=w:=by
 have ba:=widen32_bd a
 have bb:=widen32_bd b
 go_enter Tryz.func85,Tryz.ntmps85
 go_wp2_with (first | (go_at_call 84;with_reducible refine (l1Widen32 _ _).mono ?_;rintro e w1 ⟨rfl,rfl⟩) | (go_at_call 99;with_reducible refine (l3Div_div (widen 32 a) (widen 32 b) ba.1 ba.2 bb.1 bb.2 _).mono ?_;rintro e w1 ⟨rfl,rfl⟩))
 go_ret
 exact ⟨rfl,rfl⟩

set_option maxRecDepth 100000 in
set_option maxHeartbeats 1600000 in
theorem l3Op_38 (a b:Int) (a0:0≤a) (a1:a < 18446744073709551616) (b0:0≤b) (b1:b < 18446744073709551616) (w:World):Calls Tryz.prog 85 #[.string ⟨#[100,105,118,117,119]⟩,.int .u64 a,.int .u64 b] w fun e w'=>e=.returned (.int .u64 ((aoAt 38).v a b))∧w'=w:=by
 have ha:=mask32 a a0 a1
 have hb:=mask32 b b0 b1
 have ba:0≤a % 4294967296∧a % 4294967296 < 18446744073709551616:=by omega
 have bb:0≤b % 4294967296∧b % 4294967296 < 18446744073709551616:=by omega
 go_enter Tryz.func85,Tryz.ntmps85
 go_wp2_with (first | (go_at_call 84;with_reducible refine (l1Widen32 _ _).mono ?_;rintro e w1 ⟨rfl,rfl⟩) | (go_at_call 99;with_reducible refine (l3Div_divu (a % 4294967296) (b % 4294967296) ba.1 ba.2 bb.1 bb.2 _).mono ?_;rintro e w1 ⟨rfl,rfl⟩))
 go_ret
 exact ⟨rfl,rfl⟩

set_option maxRecDepth 100000 in
set_option maxHeartbeats 1600000 in
theorem l3Op_39 (a b:Int) (a0:0≤a) (a1:a < 18446744073709551616) (b0:0≤b) (b1:b < 18446744073709551616) (w:World):Calls Tryz.prog 85 #[.string ⟨#[114,101,109,119]⟩,.int .u64 a,.int .u64 b] w fun e w'=>e=.returned (.int .u64 ((aoAt 39).v a b))∧w'=w:=by
 have ba:=widen32_bd a
 have bb:=widen32_bd b
 go_enter Tryz.func85,Tryz.ntmps85
 go_wp2_with (first | (go_at_call 84;with_reducible refine (l1Widen32 _ _).mono ?_;rintro e w1 ⟨rfl,rfl⟩) | (go_at_call 99;with_reducible refine (l3Div_rem (widen 32 a) (widen 32 b) ba.1 ba.2 bb.1 bb.2 _).mono ?_;rintro e w1 ⟨rfl,rfl⟩))
 go_ret
 exact ⟨rfl,rfl⟩

set_option maxRecDepth 100000 in
set_option maxHeartbeats 1600000 in
theorem l3Op_40 (a b:Int) (a0:0≤a) (a1:a < 18446744073709551616) (b0:0≤b) (b1:b < 18446744073709551616) (w:World):Calls Tryz.prog 85 #[.string ⟨#[114,101,109,117,119]⟩,.int .u64 a,.int .u64 b] w fun e w'=>e=.returned (.int .u64 ((aoAt 40).v a b))∧w'=w:=by
 have ha:=mask32 a a0 a1
 have hb:=mask32 b b0 b1
 have ba:0≤a % 4294967296∧a % 4294967296 < 18446744073709551616:=by omega
 have bb:0≤b % 4294967296∧b % 4294967296 < 18446744073709551616:=by omega
 go_enter Tryz.func85,Tryz.ntmps85
 go_wp2_with (first | (go_at_call 84;with_reducible refine (l1Widen32 _ _).mono ?_;rintro e w1 ⟨rfl,rfl⟩) | (go_at_call 99;with_reducible refine (l3Div_remu (a % 4294967296) (b % 4294967296) ba.1 ba.2 bb.1 bb.2 _).mono ?_;rintro e w1 ⟨rfl,rfl⟩))
 go_ret
 exact ⟨rfl,rfl⟩

theorem l3Op_any (k:Nat) (hk:k < 41) (s:ByteArray) (hs:s=(rowAt (k+21)).name) (a b:Int) (a0:0≤a) (a1:a < 18446744073709551616) (b0:0≤b) (b1:b < 18446744073709551616) (w:World):Calls Tryz.prog 85 #[.string s,.int .u64 a,.int .u64 b] w fun e w'=>e=.returned (.int .u64 ((aoAt k).v a b))∧w'=w:=by
 subst hs
 match k,hk with
 | 0,_=>exact l3Op_0 a b a0 a1 b0 b1 w
 | 1,_=>exact l3Op_1 a b a0 a1 b0 b1 w
 | 2,_=>exact l3Op_2 a b a0 a1 b0 b1 w
 | 3,_=>exact l3Op_3 a b a0 a1 b0 b1 w
 | 4,_=>exact l3Op_4 a b a0 a1 b0 b1 w
 | 5,_=>exact l3Op_5 a b a0 a1 b0 b1 w
 | 6,_=>exact l3Op_6 a b a0 a1 b0 b1 w
 | 7,_=>exact l3Op_7 a b a0 a1 b0 b1 w
 | 8,_=>exact l3Op_8 a b a0 a1 b0 b1 w
 | 9,_=>exact l3Op_9 a b a0 a1 b0 b1 w
 | 10,_=>exact l3Op_10 a b a0 a1 b0 b1 w
 | 11,_=>exact l3Op_11 a b a0 a1 b0 b1 w
 | 12,_=>exact l3Op_12 a b a0 a1 b0 b1 w
 | 13,_=>exact l3Op_13 a b a0 a1 b0 b1 w
 | 14,_=>exact l3Op_14 a b a0 a1 b0 b1 w
 | 15,_=>exact l3Op_15 a b a0 a1 b0 b1 w
 | 16,_=>exact l3Op_16 a b a0 a1 b0 b1 w
 | 17,_=>exact l3Op_17 a b a0 a1 b0 b1 w
 | 18,_=>exact l3Op_18 a b a0 a1 b0 b1 w
 | 19,_=>exact l3Op_19 a b a0 a1 b0 b1 w
 | 20,_=>exact l3Op_20 a b a0 a1 b0 b1 w
 | 21,_=>exact l3Op_21 a b a0 a1 b0 b1 w
 | 22,_=>exact l3Op_22 a b a0 a1 b0 b1 w
 | 23,_=>exact l3Op_23 a b a0 a1 b0 b1 w
 | 24,_=>exact l3Op_24 a b a0 a1 b0 b1 w
 | 25,_=>exact l3Op_25 a b a0 a1 b0 b1 w
 | 26,_=>exact l3Op_26 a b a0 a1 b0 b1 w
 | 27,_=>exact l3Op_27 a b a0 a1 b0 b1 w
 | 28,_=>exact l3Op_28 a b a0 a1 b0 b1 w
 | 29,_=>exact l3Op_29 a b a0 a1 b0 b1 w
 | 30,_=>exact l3Op_30 a b a0 a1 b0 b1 w
 | 31,_=>exact l3Op_31 a b a0 a1 b0 b1 w
 | 32,_=>exact l3Op_32 a b a0 a1 b0 b1 w
 | 33,_=>exact l3Op_33 a b a0 a1 b0 b1 w
 | 34,_=>exact l3Op_34 a b a0 a1 b0 b1 w
 | 35,_=>exact l3Op_35 a b a0 a1 b0 b1 w
 | 36,_=>exact l3Op_36 a b a0 a1 b0 b1 w
 | 37,_=>exact l3Op_37 a b a0 a1 b0 b1 w
 | 38,_=>exact l3Op_38 a b a0 a1 b0 b1 w
 | 39,_=>exact l3Op_39 a b a0 a1 b0 b1 w
 | 40,_=>exact l3Op_40 a b a0 a1 b0 b1 w
 | k+41,h=>exact absurd h (by omega)

set_option maxHeartbeats 800000 in
theorem specAlu_any (op a b:Int) (hw:(Lit.int .i64 op).wf=true) (a0:0≤a) (a1:a < 18446744073709551616) (b0:0≤b) (b1:b < 18446744073709551616) (w:World) :
 Calls Tryz.prog 66 #[.int .i64 op,.int .u64 a,.int .u64 b] w fun e w'=>e=.returned (.tuple #[.int .u64 (aluV op a b),.bool (aluB op)])∧Below w.heap.size w w':=by
 cases h:aluB op with
 | false =>
   have e:aluV op a b=0:=by simp [aluV,h]
   rw [e]
   have F2:decide (22≤op∧op≤62)=false:=h
   clear h e
   go_enter Tryz.func66,Tryz.ntmps66
   go_wp2_with fail
   refine (l1In_any op 22 62 _).mono ?_
   rintro e w1 ⟨rfl,rfl⟩
   rw [F2]
   clear F2
   go_wp2_with fail
   go_ret2
   exact ⟨rfl,Below.refl _ _⟩
 | true =>
   have h2:22≤op∧op≤62:=by simpa [aluB] using h
   have F2:decide (22≤op∧op≤62)=true:=h
   obtain ⟨k,rfl⟩:∃ k:Nat,op=(k:Int)+22:=⟨(op - 22).toNat,by omega⟩
   have e:aluV ((k:Int)+22) a b=(aoAt k).v a b:=by simp [aluV,h]
   rw [e]
   have hn:nameOf ((k:Int)+22)=(rowAt (k+21)).name:=by
    have hB:opB ((k:Int)+22)=true:=by simp [opB];omega
    have ht:((k:Int)+22 - 1).toNat=k+21:=by omega
    simp [nameOf,hB,ht]
   have HO:Hid (∀ w,Calls Tryz.prog 85 #[.string (nameOf ((k:Int)+22)),.int .u64 a,.int .u64 b] w fun e w'=>e=.returned (.int .u64 ((aoAt k).v a b))∧w'=w):=l3Op_any k (by omega) _ hn a b a0 a1 b0 b1
   obtain ⟨s,hs⟩:∃ s,s=nameOf ((k:Int)+22):=⟨_,rfl⟩
   have HN:Hid (∀ w,Calls Tryz.prog 86 #[.int .i64 ((k:Int)+22)] w fun e w'=>e=.returned (.string (nameOf ((k:Int)+22)))∧Below w.heap.size w w'):=specName_any _ hw
   rw [← hs] at HO HN
   clear h h2 e hn hs
   go_enter Tryz.func66,Tryz.ntmps66
   go_wp2_with fail
   refine (l1In_any _ 22 62 _).mono ?_
   rintro e w1 ⟨rfl,hw1⟩
   subst hw1
   rw [F2]
   clear F2
   go_wp2_with fail
   refine (HN.out _).mono ?_
   rintro e w2 ⟨rfl,hb⟩
   go_wp2_with fail
   refine (HO.out _).mono ?_
   rintro e w3 ⟨rfl,rfl⟩
   go_wp2_with fail
   go_ret2
   exact ⟨rfl,hb⟩

end Go.Proofs.YtbajeckeeekhnaaGreat
