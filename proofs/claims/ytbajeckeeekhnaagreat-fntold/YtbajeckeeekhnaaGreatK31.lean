/- Own lemmas. -/
import Derived.Test.YtbajeckeeekhnaaGreatK28
namespace Go.Proofs.YtbajeckeeekhnaaGreat
open Go.RowKit
set_option linter.unusedVariables false

set_option maxRecDepth 100000 in
set_option maxHeartbeats 1600000 in
theorem specAmo_d0 (a b:Int) (a0:0≤a) (a1:a < 18446744073709551616) (b0:0≤b) (b1:b < 18446744073709551616) (w:World):Calls Tryz.prog 87 #[.int .i64 76,.int .u64 a,.int .u64 b] w fun e w'=>e=.returned (.tuple #[.int .u64 ((mfAt 0).v a b),.bool true])∧w'=w:=by
 have m1:=and_allA a0 a1
 have m2:=and_allA b0 b1
 have WN:Hid (∀ (x:Int) (w:World),Calls Tryz.prog 84 #[.int .u64 x,.int .u64 64] w fun e w'=>e=.returned (.int .u64 (widen 64 x))∧w'=w):=fun x w=>l1Widen_any x 64 (by omega) (by omega) w
 have e1:=widen64_id a0 a1
 have e2:=widen64_id b0 b1
 have F:Hid ((mfAt 0).v a b=b):=rfl
 go_enter Tryz.func87,Tryz.ntmps87
 go_wp2_with (first | (go_at_call 27;with_reducible refine (l1In_any _ _ _ _).mono ?_;rintro e w1 ⟨rfl,rfl⟩) | (go_at_call 84;with_reducible refine (WN.out _ _).mono ?_;rintro e w1 ⟨rfl,rfl⟩))
 go_ret2
 exact ⟨by rw [F.out];rfl,rfl⟩

set_option maxRecDepth 100000 in
set_option maxHeartbeats 1600000 in
theorem specAmo_d1 (a b:Int) (a0:0≤a) (a1:a < 18446744073709551616) (b0:0≤b) (b1:b < 18446744073709551616) (w:World):Calls Tryz.prog 87 #[.int .i64 77,.int .u64 a,.int .u64 b] w fun e w'=>e=.returned (.tuple #[.int .u64 ((mfAt 1).v a b),.bool true])∧w'=w:=by
 have m1:=and_allA a0 a1
 have m2:=and_allA b0 b1
 have WN:Hid (∀ (x:Int) (w:World),Calls Tryz.prog 84 #[.int .u64 x,.int .u64 64] w fun e w'=>e=.returned (.int .u64 (widen 64 x))∧w'=w):=fun x w=>l1Widen_any x 64 (by omega) (by omega) w
 have e1:=widen64_id a0 a1
 have e2:=widen64_id b0 b1
 have F:Hid ((mfAt 1).v a b=IntKind.u64.wrap (a+b)):=rfl
 have s0:0≤IntKind.u64.wrap (a+b)∧IntKind.u64.wrap (a+b) < 18446744073709551616:=by rw [IntKind.wrap_u64];omega
 have m3:=and_allA s0.1 s0.2
 go_enter Tryz.func87,Tryz.ntmps87
 go_wp2_with (first | (go_at_call 27;with_reducible refine (l1In_any _ _ _ _).mono ?_;rintro e w1 ⟨rfl,rfl⟩) | (go_at_call 84;with_reducible refine (WN.out _ _).mono ?_;rintro e w1 ⟨rfl,rfl⟩))
 go_ret2
 exact ⟨by rw [F.out];rfl,rfl⟩

set_option maxRecDepth 100000 in
set_option maxHeartbeats 1600000 in
theorem specAmo_d2 (a b:Int) (a0:0≤a) (a1:a < 18446744073709551616) (b0:0≤b) (b1:b < 18446744073709551616) (w:World):Calls Tryz.prog 87 #[.int .i64 78,.int .u64 a,.int .u64 b] w fun e w'=>e=.returned (.tuple #[.int .u64 ((mfAt 2).v a b),.bool true])∧w'=w:=by
 have m1:=and_allA a0 a1
 have m2:=and_allA b0 b1
 have WN:Hid (∀ (x:Int) (w:World),Calls Tryz.prog 84 #[.int .u64 x,.int .u64 64] w fun e w'=>e=.returned (.int .u64 (widen 64 x))∧w'=w):=fun x w=>l1Widen_any x 64 (by omega) (by omega) w
 have e1:=widen64_id a0 a1
 have e2:=widen64_id b0 b1
 have F:Hid ((mfAt 2).v a b=bits .xor .u64 a b):=rfl
 go_enter Tryz.func87,Tryz.ntmps87
 go_wp2_with (first | (go_at_call 27;with_reducible refine (l1In_any _ _ _ _).mono ?_;rintro e w1 ⟨rfl,rfl⟩) | (go_at_call 84;with_reducible refine (WN.out _ _).mono ?_;rintro e w1 ⟨rfl,rfl⟩))
 go_ret2
 exact ⟨by rw [F.out];rfl,rfl⟩

set_option maxRecDepth 100000 in
set_option maxHeartbeats 1600000 in
theorem specAmo_d3 (a b:Int) (a0:0≤a) (a1:a < 18446744073709551616) (b0:0≤b) (b1:b < 18446744073709551616) (w:World):Calls Tryz.prog 87 #[.int .i64 79,.int .u64 a,.int .u64 b] w fun e w'=>e=.returned (.tuple #[.int .u64 ((mfAt 3).v a b),.bool true])∧w'=w:=by
 have m1:=and_allA a0 a1
 have m2:=and_allA b0 b1
 have WN:Hid (∀ (x:Int) (w:World),Calls Tryz.prog 84 #[.int .u64 x,.int .u64 64] w fun e w'=>e=.returned (.int .u64 (widen 64 x))∧w'=w):=fun x w=>l1Widen_any x 64 (by omega) (by omega) w
 have e1:=widen64_id a0 a1
 have e2:=widen64_id b0 b1
 have F:Hid ((mfAt 3).v a b=bits .and .u64 a b):=rfl
 go_enter Tryz.func87,Tryz.ntmps87
 go_wp2_with (first | (go_at_call 27;with_reducible refine (l1In_any _ _ _ _).mono ?_;rintro e w1 ⟨rfl,rfl⟩) | (go_at_call 84;with_reducible refine (WN.out _ _).mono ?_;rintro e w1 ⟨rfl,rfl⟩))
 go_ret2
 exact ⟨by rw [F.out];rfl,rfl⟩

set_option maxRecDepth 100000 in
set_option maxHeartbeats 1600000 in
theorem specAmo_d4 (a b:Int) (a0:0≤a) (a1:a < 18446744073709551616) (b0:0≤b) (b1:b < 18446744073709551616) (w:World):Calls Tryz.prog 87 #[.int .i64 80,.int .u64 a,.int .u64 b] w fun e w'=>e=.returned (.tuple #[.int .u64 ((mfAt 4).v a b),.bool true])∧w'=w:=by
 have m1:=and_allA a0 a1
 have m2:=and_allA b0 b1
 have WN:Hid (∀ (x:Int) (w:World),Calls Tryz.prog 84 #[.int .u64 x,.int .u64 64] w fun e w'=>e=.returned (.int .u64 (widen 64 x))∧w'=w):=fun x w=>l1Widen_any x 64 (by omega) (by omega) w
 have e1:=widen64_id a0 a1
 have e2:=widen64_id b0 b1
 have F:Hid ((mfAt 4).v a b=bits .or .u64 a b):=rfl
 go_enter Tryz.func87,Tryz.ntmps87
 go_wp2_with (first | (go_at_call 27;with_reducible refine (l1In_any _ _ _ _).mono ?_;rintro e w1 ⟨rfl,rfl⟩) | (go_at_call 84;with_reducible refine (WN.out _ _).mono ?_;rintro e w1 ⟨rfl,rfl⟩))
 go_ret2
 exact ⟨by rw [F.out];rfl,rfl⟩

set_option maxRecDepth 100000 in
set_option maxHeartbeats 1600000 in
theorem specAmo_d5 (a b:Int) (a0:0≤a) (a1:a < 18446744073709551616) (b0:0≤b) (b1:b < 18446744073709551616) (w:World):Calls Tryz.prog 87 #[.int .i64 81,.int .u64 a,.int .u64 b] w fun e w'=>e=.returned (.tuple #[.int .u64 ((mfAt 5).v a b),.bool true])∧w'=w:=by
 have m1:=and_allA a0 a1
 have m2:=and_allA b0 b1
 have WN:Hid (∀ (x:Int) (w:World),Calls Tryz.prog 84 #[.int .u64 x,.int .u64 64] w fun e w'=>e=.returned (.int .u64 (widen 64 x))∧w'=w):=fun x w=>l1Widen_any x 64 (by omega) (by omega) w
 have e1:=widen64_id a0 a1
 have e2:=widen64_id b0 b1
 have F0:(mfAt 5).v a b=if wrap64 a < wrap64 b then a else b:=smin_eq a0 a1 b0 b1
 by_cases hc:wrap64 a < wrap64 b
 ·have F:Hid ((mfAt 5).v a b=a):=by rw [F0,if_pos hc];rfl
  have d:decide (wrap64 a < wrap64 b)=true:=by simpa using hc
  clear F0 hc
  go_enter Tryz.func87,Tryz.ntmps87
  go_wp2_with (first | (go_at_call 27;with_reducible refine (l1In_any _ _ _ _).mono ?_;rintro e w1 ⟨rfl,rfl⟩) | (go_at_call 84;with_reducible refine (WN.out _ _).mono ?_;rintro e w1 ⟨rfl,rfl⟩))
  go_ret2
  exact ⟨by rw [F.out];rfl,rfl⟩
 ·have F:Hid ((mfAt 5).v a b=b):=by rw [F0,if_neg hc];rfl
  have d:decide (wrap64 a < wrap64 b)=false:=by simpa using hc
  clear F0 hc
  go_enter Tryz.func87,Tryz.ntmps87
  go_wp2_with (first | (go_at_call 27;with_reducible refine (l1In_any _ _ _ _).mono ?_;rintro e w1 ⟨rfl,rfl⟩) | (go_at_call 84;with_reducible refine (WN.out _ _).mono ?_;rintro e w1 ⟨rfl,rfl⟩))
  go_ret2
  exact ⟨by rw [F.out];rfl,rfl⟩

set_option maxRecDepth 100000 in
set_option maxHeartbeats 1600000 in
theorem specAmo_d6 (a b:Int) (a0:0≤a) (a1:a < 18446744073709551616) (b0:0≤b) (b1:b < 18446744073709551616) (w:World):Calls Tryz.prog 87 #[.int .i64 82,.int .u64 a,.int .u64 b] w fun e w'=>e=.returned (.tuple #[.int .u64 ((mfAt 6).v a b),.bool true])∧w'=w:=by
 have m1:=and_allA a0 a1
 have m2:=and_allA b0 b1
 have WN:Hid (∀ (x:Int) (w:World),Calls Tryz.prog 84 #[.int .u64 x,.int .u64 64] w fun e w'=>e=.returned (.int .u64 (widen 64 x))∧w'=w):=fun x w=>l1Widen_any x 64 (by omega) (by omega) w
 have e1:=widen64_id a0 a1
 have e2:=widen64_id b0 b1
 have F0:(mfAt 6).v a b=if wrap64 a < wrap64 b then b else a:=rfl
 by_cases hc:wrap64 a < wrap64 b
 ·have F:Hid ((mfAt 6).v a b=b):=by rw [F0,if_pos hc];rfl
  have d:decide (wrap64 a < wrap64 b)=true:=by simpa using hc
  clear F0 hc
  go_enter Tryz.func87,Tryz.ntmps87
  go_wp2_with (first | (go_at_call 27;with_reducible refine (l1In_any _ _ _ _).mono ?_;rintro e w1 ⟨rfl,rfl⟩) | (go_at_call 84;with_reducible refine (WN.out _ _).mono ?_;rintro e w1 ⟨rfl,rfl⟩))
  go_ret2
  exact ⟨by rw [F.out];rfl,rfl⟩
 ·have F:Hid ((mfAt 6).v a b=a):=by rw [F0,if_neg hc];rfl
  have d:decide (wrap64 a < wrap64 b)=false:=by simpa using hc
  clear F0 hc
  go_enter Tryz.func87,Tryz.ntmps87
  go_wp2_with (first | (go_at_call 27;with_reducible refine (l1In_any _ _ _ _).mono ?_;rintro e w1 ⟨rfl,rfl⟩) | (go_at_call 84;with_reducible refine (WN.out _ _).mono ?_;rintro e w1 ⟨rfl,rfl⟩))
  go_ret2
  exact ⟨by rw [F.out];rfl,rfl⟩

set_option maxRecDepth 100000 in
set_option maxHeartbeats 1600000 in
theorem specAmo_d7 (a b:Int) (a0:0≤a) (a1:a < 18446744073709551616) (b0:0≤b) (b1:b < 18446744073709551616) (w:World):Calls Tryz.prog 87 #[.int .i64 83,.int .u64 a,.int .u64 b] w fun e w'=>e=.returned (.tuple #[.int .u64 ((mfAt 7).v a b),.bool true])∧w'=w:=by
 have m1:=and_allA a0 a1
 have m2:=and_allA b0 b1
 have WN:Hid (∀ (x:Int) (w:World),Calls Tryz.prog 84 #[.int .u64 x,.int .u64 64] w fun e w'=>e=.returned (.int .u64 (widen 64 x))∧w'=w):=fun x w=>l1Widen_any x 64 (by omega) (by omega) w
 have e1:=widen64_id a0 a1
 have e2:=widen64_id b0 b1
 have F0:(mfAt 7).v a b=if a < b then a else b:=umin_eq a b
 by_cases hc:a < b
 ·have F:Hid ((mfAt 7).v a b=a):=by rw [F0,if_pos hc];rfl
  have d:decide (a < b)=true:=by simpa using hc
  clear F0 hc
  go_enter Tryz.func87,Tryz.ntmps87
  go_wp2_with (first | (go_at_call 27;with_reducible refine (l1In_any _ _ _ _).mono ?_;rintro e w1 ⟨rfl,rfl⟩) | (go_at_call 84;with_reducible refine (WN.out _ _).mono ?_;rintro e w1 ⟨rfl,rfl⟩))
  go_ret2
  exact ⟨by rw [F.out];rfl,rfl⟩
 ·have F:Hid ((mfAt 7).v a b=b):=by rw [F0,if_neg hc];rfl
  have d:decide (a < b)=false:=by simpa using hc
  clear F0 hc
  go_enter Tryz.func87,Tryz.ntmps87
  go_wp2_with (first | (go_at_call 27;with_reducible refine (l1In_any _ _ _ _).mono ?_;rintro e w1 ⟨rfl,rfl⟩) | (go_at_call 84;with_reducible refine (WN.out _ _).mono ?_;rintro e w1 ⟨rfl,rfl⟩))
  go_ret2
  exact ⟨by rw [F.out];rfl,rfl⟩

set_option maxRecDepth 100000 in
set_option maxHeartbeats 1600000 in
theorem specAmo_d8 (a b:Int) (a0:0≤a) (a1:a < 18446744073709551616) (b0:0≤b) (b1:b < 18446744073709551616) (w:World):Calls Tryz.prog 87 #[.int .i64 84,.int .u64 a,.int .u64 b] w fun e w'=>e=.returned (.tuple #[.int .u64 ((mfAt 8).v a b),.bool true])∧w'=w:=by
 have m1:=and_allA a0 a1
 have m2:=and_allA b0 b1
 have WN:Hid (∀ (x:Int) (w:World),Calls Tryz.prog 84 #[.int .u64 x,.int .u64 64] w fun e w'=>e=.returned (.int .u64 (widen 64 x))∧w'=w):=fun x w=>l1Widen_any x 64 (by omega) (by omega) w
 have e1:=widen64_id a0 a1
 have e2:=widen64_id b0 b1
 have F0:(mfAt 8).v a b=if a < b then b else a:=rfl
 by_cases hc:a < b
 ·have F:Hid ((mfAt 8).v a b=b):=by rw [F0,if_pos hc];rfl
  have d:decide (a < b)=true:=by simpa using hc
  clear F0 hc
  go_enter Tryz.func87,Tryz.ntmps87
  go_wp2_with (first | (go_at_call 27;with_reducible refine (l1In_any _ _ _ _).mono ?_;rintro e w1 ⟨rfl,rfl⟩) | (go_at_call 84;with_reducible refine (WN.out _ _).mono ?_;rintro e w1 ⟨rfl,rfl⟩))
  go_ret2
  exact ⟨by rw [F.out];rfl,rfl⟩
 ·have F:Hid ((mfAt 8).v a b=a):=by rw [F0,if_neg hc];rfl
  have d:decide (a < b)=false:=by simpa using hc
  clear F0 hc
  go_enter Tryz.func87,Tryz.ntmps87
  go_wp2_with (first | (go_at_call 27;with_reducible refine (l1In_any _ _ _ _).mono ?_;rintro e w1 ⟨rfl,rfl⟩) | (go_at_call 84;with_reducible refine (WN.out _ _).mono ?_;rintro e w1 ⟨rfl,rfl⟩))
  go_ret2
  exact ⟨by rw [F.out];rfl,rfl⟩

set_option maxRecDepth 100000 in
set_option maxHeartbeats 1600000 in
theorem specAmo_w0 (a b:Int) (a0:0≤a) (a1:a < 18446744073709551616) (b0:0≤b) (b1:b < 18446744073709551616) (w:World):Calls Tryz.prog 87 #[.int .i64 65,.int .u64 a,.int .u64 b] w fun e w'=>e=.returned (.tuple #[.int .u64 ((mfAt 0).v (widen 32 a) (widen 32 b) % 4294967296),.bool true])∧w'=w:=by
 have m1:=mask32 a a0 a1
 have m2:=mask32 b b0 b1
 have WN:Hid (∀ (x:Int) (w:World),Calls Tryz.prog 84 #[.int .u64 x,.int .u64 32] w fun e w'=>e=.returned (.int .u64 (widen 32 x))∧w'=w):=fun x w=>l1Widen_any x 32 (by omega) (by omega) w
 have e1:=widen32_of_low a
 have e2:=widen32_of_low b
 have F:Hid ((mfAt 0).v (widen 32 a) (widen 32 b) % 4294967296=(b % 4294967296)):=low_second a b
 go_enter Tryz.func87,Tryz.ntmps87
 go_wp2_with (first | (go_at_call 27;with_reducible refine (l1In_any _ _ _ _).mono ?_;rintro e w1 ⟨rfl,rfl⟩) | (go_at_call 84;with_reducible refine (WN.out _ _).mono ?_;rintro e w1 ⟨rfl,rfl⟩))
 go_ret2
 exact ⟨by rw [F.out];rfl,rfl⟩

set_option maxRecDepth 100000 in
set_option maxHeartbeats 1600000 in
theorem specAmo_w1 (a b:Int) (a0:0≤a) (a1:a < 18446744073709551616) (b0:0≤b) (b1:b < 18446744073709551616) (w:World):Calls Tryz.prog 87 #[.int .i64 66,.int .u64 a,.int .u64 b] w fun e w'=>e=.returned (.tuple #[.int .u64 ((mfAt 1).v (widen 32 a) (widen 32 b) % 4294967296),.bool true])∧w'=w:=by
 have m1:=mask32 a a0 a1
 have m2:=mask32 b b0 b1
 have WN:Hid (∀ (x:Int) (w:World),Calls Tryz.prog 84 #[.int .u64 x,.int .u64 32] w fun e w'=>e=.returned (.int .u64 (widen 32 x))∧w'=w):=fun x w=>l1Widen_any x 32 (by omega) (by omega) w
 have e1:=widen32_of_low a
 have e2:=widen32_of_low b
 have F:Hid ((mfAt 1).v (widen 32 a) (widen 32 b) % 4294967296=(a+b) % 4294967296):=((low_sum a b).trans (wrap_mod32 _)).trans (by omega)
 have m3:=mask32 ((a % 4294967296)+(b % 4294967296)) (by omega) (by omega)
 go_enter Tryz.func87,Tryz.ntmps87
 go_wp2_with (first | (go_at_call 27;with_reducible refine (l1In_any _ _ _ _).mono ?_;rintro e w1 ⟨rfl,rfl⟩) | (go_at_call 84;with_reducible refine (WN.out _ _).mono ?_;rintro e w1 ⟨rfl,rfl⟩))
 go_ret2
 exact ⟨by rw [F.out];rfl,rfl⟩

set_option maxRecDepth 100000 in
set_option maxHeartbeats 1600000 in
theorem specAmo_w2 (a b:Int) (a0:0≤a) (a1:a < 18446744073709551616) (b0:0≤b) (b1:b < 18446744073709551616) (w:World):Calls Tryz.prog 87 #[.int .i64 67,.int .u64 a,.int .u64 b] w fun e w'=>e=.returned (.tuple #[.int .u64 ((mfAt 2).v (widen 32 a) (widen 32 b) % 4294967296),.bool true])∧w'=w:=by
 have m1:=mask32 a a0 a1
 have m2:=mask32 b b0 b1
 have WN:Hid (∀ (x:Int) (w:World),Calls Tryz.prog 84 #[.int .u64 x,.int .u64 32] w fun e w'=>e=.returned (.int .u64 (widen 32 x))∧w'=w):=fun x w=>l1Widen_any x 32 (by omega) (by omega) w
 have e1:=widen32_of_low a
 have e2:=widen32_of_low b
 have F:Hid ((mfAt 2).v (widen 32 a) (widen 32 b) % 4294967296=bits .xor .u64 (a % 4294967296) (b % 4294967296)):=low_xorV a b
 go_enter Tryz.func87,Tryz.ntmps87
 go_wp2_with (first | (go_at_call 27;with_reducible refine (l1In_any _ _ _ _).mono ?_;rintro e w1 ⟨rfl,rfl⟩) | (go_at_call 84;with_reducible refine (WN.out _ _).mono ?_;rintro e w1 ⟨rfl,rfl⟩))
 go_ret2
 exact ⟨by rw [F.out];rfl,rfl⟩

set_option maxRecDepth 100000 in
set_option maxHeartbeats 1600000 in
theorem specAmo_w3 (a b:Int) (a0:0≤a) (a1:a < 18446744073709551616) (b0:0≤b) (b1:b < 18446744073709551616) (w:World):Calls Tryz.prog 87 #[.int .i64 68,.int .u64 a,.int .u64 b] w fun e w'=>e=.returned (.tuple #[.int .u64 ((mfAt 3).v (widen 32 a) (widen 32 b) % 4294967296),.bool true])∧w'=w:=by
 have m1:=mask32 a a0 a1
 have m2:=mask32 b b0 b1
 have WN:Hid (∀ (x:Int) (w:World),Calls Tryz.prog 84 #[.int .u64 x,.int .u64 32] w fun e w'=>e=.returned (.int .u64 (widen 32 x))∧w'=w):=fun x w=>l1Widen_any x 32 (by omega) (by omega) w
 have e1:=widen32_of_low a
 have e2:=widen32_of_low b
 have F:Hid ((mfAt 3).v (widen 32 a) (widen 32 b) % 4294967296=bits .and .u64 (a % 4294967296) (b % 4294967296)):=low_andV a b
 go_enter Tryz.func87,Tryz.ntmps87
 go_wp2_with (first | (go_at_call 27;with_reducible refine (l1In_any _ _ _ _).mono ?_;rintro e w1 ⟨rfl,rfl⟩) | (go_at_call 84;with_reducible refine (WN.out _ _).mono ?_;rintro e w1 ⟨rfl,rfl⟩))
 go_ret2
 exact ⟨by rw [F.out];rfl,rfl⟩

set_option maxRecDepth 100000 in
set_option maxHeartbeats 1600000 in
theorem specAmo_w4 (a b:Int) (a0:0≤a) (a1:a < 18446744073709551616) (b0:0≤b) (b1:b < 18446744073709551616) (w:World):Calls Tryz.prog 87 #[.int .i64 69,.int .u64 a,.int .u64 b] w fun e w'=>e=.returned (.tuple #[.int .u64 ((mfAt 4).v (widen 32 a) (widen 32 b) % 4294967296),.bool true])∧w'=w:=by
 have m1:=mask32 a a0 a1
 have m2:=mask32 b b0 b1
 have WN:Hid (∀ (x:Int) (w:World),Calls Tryz.prog 84 #[.int .u64 x,.int .u64 32] w fun e w'=>e=.returned (.int .u64 (widen 32 x))∧w'=w):=fun x w=>l1Widen_any x 32 (by omega) (by omega) w
 have e1:=widen32_of_low a
 have e2:=widen32_of_low b
 have F:Hid ((mfAt 4).v (widen 32 a) (widen 32 b) % 4294967296=bits .or .u64 (a % 4294967296) (b % 4294967296)):=low_orV a b
 go_enter Tryz.func87,Tryz.ntmps87
 go_wp2_with (first | (go_at_call 27;with_reducible refine (l1In_any _ _ _ _).mono ?_;rintro e w1 ⟨rfl,rfl⟩) | (go_at_call 84;with_reducible refine (WN.out _ _).mono ?_;rintro e w1 ⟨rfl,rfl⟩))
 go_ret2
 exact ⟨by rw [F.out];rfl,rfl⟩

set_option maxRecDepth 100000 in
set_option maxHeartbeats 1600000 in
theorem specAmo_w5 (a b:Int) (a0:0≤a) (a1:a < 18446744073709551616) (b0:0≤b) (b1:b < 18446744073709551616) (w:World):Calls Tryz.prog 87 #[.int .i64 70,.int .u64 a,.int .u64 b] w fun e w'=>e=.returned (.tuple #[.int .u64 ((mfAt 5).v (widen 32 a) (widen 32 b) % 4294967296),.bool true])∧w'=w:=by
 have m1:=mask32 a a0 a1
 have m2:=mask32 b b0 b1
 have WN:Hid (∀ (x:Int) (w:World),Calls Tryz.prog 84 #[.int .u64 x,.int .u64 32] w fun e w'=>e=.returned (.int .u64 (widen 32 x))∧w'=w):=fun x w=>l1Widen_any x 32 (by omega) (by omega) w
 have e1:=widen32_of_low a
 have e2:=widen32_of_low b
 have F0:(mfAt 5).v (widen 32 a) (widen 32 b) % 4294967296=if wrap64 (widen 32 a) < wrap64 (widen 32 b) then (a % 4294967296) else (b % 4294967296):=low_smin a b
 by_cases hc:wrap64 (widen 32 a) < wrap64 (widen 32 b)
 ·have F:Hid ((mfAt 5).v (widen 32 a) (widen 32 b) % 4294967296=(a % 4294967296)):=by rw [F0,if_pos hc];rfl
  have d:decide (wrap64 (widen 32 a) < wrap64 (widen 32 b))=true:=by simpa using hc
  clear F0 hc
  go_enter Tryz.func87,Tryz.ntmps87
  go_wp2_with (first | (go_at_call 27;with_reducible refine (l1In_any _ _ _ _).mono ?_;rintro e w1 ⟨rfl,rfl⟩) | (go_at_call 84;with_reducible refine (WN.out _ _).mono ?_;rintro e w1 ⟨rfl,rfl⟩))
  go_ret2
  exact ⟨by rw [F.out];rfl,rfl⟩
 ·have F:Hid ((mfAt 5).v (widen 32 a) (widen 32 b) % 4294967296=(b % 4294967296)):=by rw [F0,if_neg hc];rfl
  have d:decide (wrap64 (widen 32 a) < wrap64 (widen 32 b))=false:=by simpa using hc
  clear F0 hc
  go_enter Tryz.func87,Tryz.ntmps87
  go_wp2_with (first | (go_at_call 27;with_reducible refine (l1In_any _ _ _ _).mono ?_;rintro e w1 ⟨rfl,rfl⟩) | (go_at_call 84;with_reducible refine (WN.out _ _).mono ?_;rintro e w1 ⟨rfl,rfl⟩))
  go_ret2
  exact ⟨by rw [F.out];rfl,rfl⟩

set_option maxRecDepth 100000 in
set_option maxHeartbeats 1600000 in
theorem specAmo_w6 (a b:Int) (a0:0≤a) (a1:a < 18446744073709551616) (b0:0≤b) (b1:b < 18446744073709551616) (w:World):Calls Tryz.prog 87 #[.int .i64 71,.int .u64 a,.int .u64 b] w fun e w'=>e=.returned (.tuple #[.int .u64 ((mfAt 6).v (widen 32 a) (widen 32 b) % 4294967296),.bool true])∧w'=w:=by
 have m1:=mask32 a a0 a1
 have m2:=mask32 b b0 b1
 have WN:Hid (∀ (x:Int) (w:World),Calls Tryz.prog 84 #[.int .u64 x,.int .u64 32] w fun e w'=>e=.returned (.int .u64 (widen 32 x))∧w'=w):=fun x w=>l1Widen_any x 32 (by omega) (by omega) w
 have e1:=widen32_of_low a
 have e2:=widen32_of_low b
 have F0:(mfAt 6).v (widen 32 a) (widen 32 b) % 4294967296=if wrap64 (widen 32 a) < wrap64 (widen 32 b) then (b % 4294967296) else (a % 4294967296):=low_smax a b
 by_cases hc:wrap64 (widen 32 a) < wrap64 (widen 32 b)
 ·have F:Hid ((mfAt 6).v (widen 32 a) (widen 32 b) % 4294967296=(b % 4294967296)):=by rw [F0,if_pos hc];rfl
  have d:decide (wrap64 (widen 32 a) < wrap64 (widen 32 b))=true:=by simpa using hc
  clear F0 hc
  go_enter Tryz.func87,Tryz.ntmps87
  go_wp2_with (first | (go_at_call 27;with_reducible refine (l1In_any _ _ _ _).mono ?_;rintro e w1 ⟨rfl,rfl⟩) | (go_at_call 84;with_reducible refine (WN.out _ _).mono ?_;rintro e w1 ⟨rfl,rfl⟩))
  go_ret2
  exact ⟨by rw [F.out];rfl,rfl⟩
 ·have F:Hid ((mfAt 6).v (widen 32 a) (widen 32 b) % 4294967296=(a % 4294967296)):=by rw [F0,if_neg hc];rfl
  have d:decide (wrap64 (widen 32 a) < wrap64 (widen 32 b))=false:=by simpa using hc
  clear F0 hc
  go_enter Tryz.func87,Tryz.ntmps87
  go_wp2_with (first | (go_at_call 27;with_reducible refine (l1In_any _ _ _ _).mono ?_;rintro e w1 ⟨rfl,rfl⟩) | (go_at_call 84;with_reducible refine (WN.out _ _).mono ?_;rintro e w1 ⟨rfl,rfl⟩))
  go_ret2
  exact ⟨by rw [F.out];rfl,rfl⟩

set_option maxRecDepth 100000 in
set_option maxHeartbeats 1600000 in
theorem specAmo_w7 (a b:Int) (a0:0≤a) (a1:a < 18446744073709551616) (b0:0≤b) (b1:b < 18446744073709551616) (w:World):Calls Tryz.prog 87 #[.int .i64 72,.int .u64 a,.int .u64 b] w fun e w'=>e=.returned (.tuple #[.int .u64 ((mfAt 7).v (widen 32 a) (widen 32 b) % 4294967296),.bool true])∧w'=w:=by
 have m1:=mask32 a a0 a1
 have m2:=mask32 b b0 b1
 have WN:Hid (∀ (x:Int) (w:World),Calls Tryz.prog 84 #[.int .u64 x,.int .u64 32] w fun e w'=>e=.returned (.int .u64 (widen 32 x))∧w'=w):=fun x w=>l1Widen_any x 32 (by omega) (by omega) w
 have e1:=widen32_of_low a
 have e2:=widen32_of_low b
 have F0:(mfAt 7).v (widen 32 a) (widen 32 b) % 4294967296=if (a % 4294967296) < (b % 4294967296) then (a % 4294967296) else (b % 4294967296):=low_umin a b
 by_cases hc:(a % 4294967296) < (b % 4294967296)
 ·have F:Hid ((mfAt 7).v (widen 32 a) (widen 32 b) % 4294967296=(a % 4294967296)):=by rw [F0,if_pos hc];rfl
  have d:decide ((a % 4294967296) < (b % 4294967296))=true:=by simpa using hc
  clear F0 hc
  go_enter Tryz.func87,Tryz.ntmps87
  go_wp2_with (first | (go_at_call 27;with_reducible refine (l1In_any _ _ _ _).mono ?_;rintro e w1 ⟨rfl,rfl⟩) | (go_at_call 84;with_reducible refine (WN.out _ _).mono ?_;rintro e w1 ⟨rfl,rfl⟩))
  go_ret2
  exact ⟨by rw [F.out];rfl,rfl⟩
 ·have F:Hid ((mfAt 7).v (widen 32 a) (widen 32 b) % 4294967296=(b % 4294967296)):=by rw [F0,if_neg hc];rfl
  have d:decide ((a % 4294967296) < (b % 4294967296))=false:=by simpa using hc
  clear F0 hc
  go_enter Tryz.func87,Tryz.ntmps87
  go_wp2_with (first | (go_at_call 27;with_reducible refine (l1In_any _ _ _ _).mono ?_;rintro e w1 ⟨rfl,rfl⟩) | (go_at_call 84;with_reducible refine (WN.out _ _).mono ?_;rintro e w1 ⟨rfl,rfl⟩))
  go_ret2
  exact ⟨by rw [F.out];rfl,rfl⟩

set_option maxRecDepth 100000 in
set_option maxHeartbeats 1600000 in
theorem specAmo_w8 (a b:Int) (a0:0≤a) (a1:a < 18446744073709551616) (b0:0≤b) (b1:b < 18446744073709551616) (w:World):Calls Tryz.prog 87 #[.int .i64 73,.int .u64 a,.int .u64 b] w fun e w'=>e=.returned (.tuple #[.int .u64 ((mfAt 8).v (widen 32 a) (widen 32 b) % 4294967296),.bool true])∧w'=w:=by
 have m1:=mask32 a a0 a1
 have m2:=mask32 b b0 b1
 have WN:Hid (∀ (x:Int) (w:World),Calls Tryz.prog 84 #[.int .u64 x,.int .u64 32] w fun e w'=>e=.returned (.int .u64 (widen 32 x))∧w'=w):=fun x w=>l1Widen_any x 32 (by omega) (by omega) w
 have e1:=widen32_of_low a
 have e2:=widen32_of_low b
 have F0:(mfAt 8).v (widen 32 a) (widen 32 b) % 4294967296=if (a % 4294967296) < (b % 4294967296) then (b % 4294967296) else (a % 4294967296):=low_umax a b
 by_cases hc:(a % 4294967296) < (b % 4294967296)
 ·have F:Hid ((mfAt 8).v (widen 32 a) (widen 32 b) % 4294967296=(b % 4294967296)):=by rw [F0,if_pos hc];rfl
  have d:decide ((a % 4294967296) < (b % 4294967296))=true:=by simpa using hc
  clear F0 hc
  go_enter Tryz.func87,Tryz.ntmps87
  go_wp2_with (first | (go_at_call 27;with_reducible refine (l1In_any _ _ _ _).mono ?_;rintro e w1 ⟨rfl,rfl⟩) | (go_at_call 84;with_reducible refine (WN.out _ _).mono ?_;rintro e w1 ⟨rfl,rfl⟩))
  go_ret2
  exact ⟨by rw [F.out];rfl,rfl⟩
 ·have F:Hid ((mfAt 8).v (widen 32 a) (widen 32 b) % 4294967296=(a % 4294967296)):=by rw [F0,if_neg hc];rfl
  have d:decide ((a % 4294967296) < (b % 4294967296))=false:=by simpa using hc
  clear F0 hc
  go_enter Tryz.func87,Tryz.ntmps87
  go_wp2_with (first | (go_at_call 27;with_reducible refine (l1In_any _ _ _ _).mono ?_;rintro e w1 ⟨rfl,rfl⟩) | (go_at_call 84;with_reducible refine (WN.out _ _).mono ?_;rintro e w1 ⟨rfl,rfl⟩))
  go_ret2
  exact ⟨by rw [F.out];rfl,rfl⟩

theorem specAmo_d (k:Nat) (hk:k < 9) (a b:Int) (a0:0≤a) (a1:a < 18446744073709551616) (b0:0≤b) (b1:b < 18446744073709551616) (w:World):Calls Tryz.prog 87 #[.int .i64 ((k:Int)+76),.int .u64 a,.int .u64 b] w fun e w'=>e=.returned (.tuple #[.int .u64 ((mfAt k).v a b),.bool true])∧w'=w:=by
 match k,hk with
 | 0,_=>exact specAmo_d0 a b a0 a1 b0 b1 w
 | 1,_=>exact specAmo_d1 a b a0 a1 b0 b1 w
 | 2,_=>exact specAmo_d2 a b a0 a1 b0 b1 w
 | 3,_=>exact specAmo_d3 a b a0 a1 b0 b1 w
 | 4,_=>exact specAmo_d4 a b a0 a1 b0 b1 w
 | 5,_=>exact specAmo_d5 a b a0 a1 b0 b1 w
 | 6,_=>exact specAmo_d6 a b a0 a1 b0 b1 w
 | 7,_=>exact specAmo_d7 a b a0 a1 b0 b1 w
 | 8,_=>exact specAmo_d8 a b a0 a1 b0 b1 w
 | k+9,h=>exact absurd h (by omega)

theorem specAmo_w (k:Nat) (hk:k < 9) (a b:Int) (a0:0≤a) (a1:a < 18446744073709551616) (b0:0≤b) (b1:b < 18446744073709551616) (w:World):Calls Tryz.prog 87 #[.int .i64 ((k:Int)+65),.int .u64 a,.int .u64 b] w fun e w'=>e=.returned (.tuple #[.int .u64 ((mfAt k).v (widen 32 a) (widen 32 b) % 4294967296),.bool true])∧w'=w:=by
 match k,hk with
 | 0,_=>exact specAmo_w0 a b a0 a1 b0 b1 w
 | 1,_=>exact specAmo_w1 a b a0 a1 b0 b1 w
 | 2,_=>exact specAmo_w2 a b a0 a1 b0 b1 w
 | 3,_=>exact specAmo_w3 a b a0 a1 b0 b1 w
 | 4,_=>exact specAmo_w4 a b a0 a1 b0 b1 w
 | 5,_=>exact specAmo_w5 a b a0 a1 b0 b1 w
 | 6,_=>exact specAmo_w6 a b a0 a1 b0 b1 w
 | 7,_=>exact specAmo_w7 a b a0 a1 b0 b1 w
 | 8,_=>exact specAmo_w8 a b a0 a1 b0 b1 w
 | k+9,h=>exact absurd h (by omega)

theorem specAmo_any (op a b:Int) (a0:0≤a) (a1:a < 18446744073709551616) (b0:0≤b) (b1:b < 18446744073709551616) (w:World) :
 Calls Tryz.prog 87 #[.int .i64 op,.int .u64 a,.int .u64 b] w fun e w'=>e=.returned (.tuple #[.int .u64 (amoV op a b),.bool (amoB op)])∧w'=w:=by
 cases h:amoB op with
 | false =>
   rw [amo_none h]
   have h2:¬ (65≤op∧op≤73)∧¬ (76≤op∧op≤84):=by simpa [amoB] using h
   have d1:decide (76≤op∧op≤84)=false:=by simpa using h2.2
   have d2:decide (65≤op∧op≤73)=false:=by simpa using h2.1
   clear h h2
   go_enter Tryz.func87,Tryz.ntmps87
   go_wp2_with (go_at_call 27;with_reducible refine (l1In_any _ _ _ _).mono ?_;rintro e w1 ⟨rfl,rfl⟩)
   go_ret2
   exact ⟨rfl,rfl⟩
 | true =>
   obtain ⟨k,hk,rfl | rfl⟩:=amo_cases h
   ·rw [amo_wide hk];exact specAmo_d k hk a b a0 a1 b0 b1 w
   ·rw [amo_low hk];exact specAmo_w k hk a b a0 a1 b0 b1 w

end Go.Proofs.YtbajeckeeekhnaaGreat
