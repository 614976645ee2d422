/- Own lemmas. -/
import Derived.Test.YtkhofppmeoooaaaGreatDoorK01
import Derived.Test.YtkhofppmeoooaaaGreatDoorK04
import Derived.Laws.BytesArg
namespace Go.Proofs.YtkhofppmeoooaaaGreatDoor
open Go.RowKit
set_option linter.unusedVariables false

theorem put_get (zs:List Int) (f:Nat) (x:Int) (j:Nat):∀ k,j < k→f+k≤zs.length→(put zs f x k).getD (f+j) 0=x / 256 ^ j % 256:=by
 intro k
 induction k with
 | zero=>intro h;omega
 | succ k ih =>
  intro hj hl
  rw [put]
  by_cases e:j=k
  ·subst e
   have:f+j < (put zs f x j).length:=by rw [put_len];omega
   simp [List.getD,this]
  ·have h1:((put zs f x k).set (f+k) (x / 256 ^ k % 256)).getD (f+j) 0=(put zs f x k).getD (f+j) 0:=by
    have:f+k≠f+j:=by omega
    simp only [List.getD,List.getElem?_set_ne this]
   rw [h1];exact ih (by omega) (by omega)

theorem le_same (xs:List Int) (x:Int):∀ (m f d:Nat),(∀ j,j < m→xs.getD (f+j) 0=x / 256 ^ (d+j) % 256)→le xs f m=x / 256 ^ d % 256 ^ m:=by
 intro m
 induction m with
 | zero=>intro f d _;simp [le,Int.emod_one]
 | succ m ih =>
  intro f d h
  rw [le,ih (f+1) (d+1) (fun j hj=>by have:=h (j+1) (by omega);rw [show f+(j+1)=f+1+j from by omega,show d+(j+1)=d+1+j from by omega] at this;exact this)]
  have h0:=h 0 (by omega)
  rw [Nat.add_zero,Nat.add_zero] at h0
  rw [h0]
  have e1:x / 256 ^ (d+1)=x / 256 ^ d / 256:=by
   rw [Int.pow_succ,Int.ediv_ediv_of_nonneg (Int.le_of_lt (Int.pow_pos (by omega)))]
  have e2:(256:Int) ^ (m+1)=256*256 ^ m:=by rw [Int.pow_succ,Int.mul_comm]
  rw [e1,e2]
  generalize x / 256 ^ d=y
  have hp:(0:Int) < 256 ^ m:=Int.pow_pos (by omega)
  generalize (256:Int) ^ m=N at *
  have hq:=Int.emod_add_mul_ediv (y / 256) N
  have hy:=Int.emod_add_mul_ediv y 256
  have hb:=Int.emod_nonneg (y / 256) (show N≠0 by omega)
  have hb2:=Int.emod_lt_of_pos (y / 256) hp
  have e3:y=(y % 256+256*(y / 256 % N))+(256*N)*(y / 256 / N):=by
   have h1:256*(y / 256)=256*(y / 256 % N)+256*(N*(y / 256 / N)):=by rw [← Int.mul_add,hq]
   rw [Int.mul_assoc]
   omega
  have h2:256*(y / 256 % N)+256≤256*N:=by omega
  have e5:∀ (A K M:Int),0≤A→A < M→(A+M*K) % M=A:=fun A K M p q=>by rw [Int.add_mul_emod_self_left,Int.emod_eq_of_lt p q]
  have e6:=e5 (y % 256+256*(y / 256 % N)) (y / 256 / N) (256*N) (by omega) (by omega)
  rw [← e3] at e6
  exact e6.symm

theorem le_put (zs:List Int) (f m:Nat) (x:Int) (h:f+m≤zs.length):le (put zs f x m) f m=x % 256 ^ m:=by
 have:=le_same (put zs f x m) x m f 0 (fun j hj=>by rw [Nat.zero_add];exact put_get zs f x j m hj h)
 simpa using this

set_option maxHeartbeats 400000 in
theorem implStore_n (a:Option Addr) (n cap f m:Nat) (zs:List Int) (x:Int) (w:World) (hz:zs.length=n) (hn:n≤1048576) (hs:Sl .u8 w a zs) (hok:okB n (2147483648+(f:Int)) (m:Int)=true) (hx0:0≤x) (hx1:x≤18446744073709551615) :
 Calls Tryz.prog 113 #[.slice a n cap,.int .u64 (2147483648+(f:Int)),.int .i64 (m:Int),.int .u64 x] w fun e w'=>e=.returned (.tuple #[.slice (some ⟨w.heap.size,0,none⟩) n n,.bool true]) ∧
  w'.ownsRow w.heap.size 5 1 (.slice (some ⟨w.heap.size,0,none⟩) n n) n ((put zs f x m).map (Value.int .u8))∧Below w.heap.size w w':=by
 have HZ:Hid (zs.length=n):=hz
 obtain ⟨hr,hsz,hb1,hb2,hs1,hs2,hn1,hn2⟩:=okB_true hok
 have ha:0≤2147483648+(f:Int):=by omega
 have ha2:2147483648+(f:Int)≤18446744073709551615:=by omega
 clear hz
 have P2:Hid (placeB n (2147483648+(f:Int)) (m:Int)=f):=by
  show placeB n (2147483648+(f:Int)) (m:Int)=f
  simp only [placeB,hok,if_true]
  omega
 obtain ⟨b,off,rfl,hblt,hc0⟩:=hs 0 (by have:=HZ.out;omega)
 clear hc0
 obtain ⟨i0,hi,hz0,hz1,hz2⟩:=info_parts Tryz.info5
 have hsz5:(Tryz.prog.info? 5).map (·.size)=some 1:=by rw [hi];simp [hz1]
 have hb2':i0.bytes*n≤281474976710656:=by rw [hz2];omega
 have hb3:n≤maxLen:=by unfold maxLen;omega
 go_enter Tryz.func113,Tryz.ntmps113
 go_wp2_with (first | (go_at_call 116;refine (place_any _ _ _ _ _ _ hn ha ha2).mono ?_;rw [P2.out];rintro e w' ⟨rfl,hw'⟩;have hw2:=hw'.symm;subst hw2) | (at_make;refine wpList_make_full _ rfl (.tmp 24) (.tmp 24) 22 rfl w.heap.size 5 i0 (.int .u8 0) 1 Tryz.underlying22 hi hz0 hz1 .i64 .i64 _ _ n rfl rfl rfl rfl hb2' hb3 (Nat.le_refl _) ?_;intro w1 hown hgrow) | (refine wpList_copy_full rfl (.tmp 26) (.tmp 27) 22 rfl 5 Tryz.underlying22 hsz5 .u8 w.heap.size w.heap.size n n b off cap zs _ rfl rfl hown (hs.below ((Below.refl _ _).grown hgrow (Nat.le_refl _) (by intro k h;cases h))) HZ.out ?_;intro w2 hown2 hgrow2))
 have hbel2:Below w.heap.size w w2:=Below.grown ((Below.refl _ _).grown hgrow (Nat.le_refl _) (by intro k h;cases h)) hgrow2 hgrow.size (by intro k h;cases h;exact Nat.le_refl _)
 clear hown hgrow hgrow2 hs
 go_loopw [30] (fun i wr=>∃ j:Nat,j≤m∧i=.int .i64 (j:Int)∧wr.ownsRow w.heap.size 5 1 (.slice (some ⟨w.heap.size,0,none⟩) n n) n ((put zs f x j).map (Value.int .u8))∧Below w.heap.size w wr)
  (fun i _=>m - (intOf i).toNat)
 case atStart=>exact ⟨0,Nat.zero_le _,rfl,hown2,hbel2⟩
 case round =>
  obtain ⟨j,hj,rfl,hown1,hbel⟩:=hrel
  clear hown2 hbel2
  by_cases hlt:j < m
  ·have hfr:wr.frozen? ⟨w.heap.size,f+j,none⟩=false:=hown1.frozenAt (f+j)
   have hst:=(hown1.stored (f+j) (.int .u8 (x / 256 ^ j % 256))).1
   obtain ⟨v3,hv3⟩:∃ v,wr.cell? ⟨w.heap.size,f+j,none⟩=some v:=by
    rw [hown1.cellAt (f+j) (by omega)]
    exact ⟨_,List.getElem?_eq_getElem (by rw [List.length_map,put_len,HZ.out];omega)⟩
   rw [map_set_u8] at hst
   have hst1:(wr.setCell ⟨w.heap.size,f+j,none⟩ (.int .u8 (x / 256 ^ j % 256))).ownsRow w.heap.size 5 1 (.slice (some ⟨w.heap.size,0,none⟩) n n) n ((put zs f x (j+1)).map (Value.int .u8)):=hst
   have hst2:Below w.heap.size w (wr.setCell ⟨w.heap.size,f+j,none⟩ (.int .u8 (x / 256 ^ j % 256))):=hbel.setCell (Nat.le_refl _) _
   have hy0:0≤x / 256 ^ j:=Int.ediv_nonneg hx0 (Int.le_of_lt (Int.pow_pos (by omega)))
   clear hst hown1
   rw [← pow_8] at hst1 hst2 hy0
   go_wp2
   go_roundw
   case rel=>exact ⟨j+1,by omega,by go_num,hst1,hst2⟩
   case measure=>simp [intOf];omega
  ·have:j=m:=by omega
   subst this
   go_wp2
   go_ret2
   exact ⟨rfl,hown1,hbel⟩

theorem conv_sl (a:Option Addr) (n c:Nat) (zs:List Int) (w:World) (hz:zs.length=n) (hs:Sl .u8 w a zs) :
 (convert 22 9 (.slice a n c)).run Tryz.prog w=.ok (.string (strOfNums zs)) w:=by
 by_cases h0:n=0
 ·subst h0
  have hz2:zs=[]:=List.eq_nil_of_length_eq_zero hz
  subst hz2
  rw [run_convert_bytes_string w 22 9 5 a 0 c Tryz.underlying22 Tryz.underlying5 Tryz.underlying9]
  cases a<;>simp [Conv.bytesToString,loadCells,strOfNums]<;>rfl
 ·obtain ⟨b,off,rfl,_,_⟩:=hs 0 (by omega)
  refine run_convert_bytes_arg w 22 5 Tryz.underlying22 Tryz.underlying5 b off n c zs hz (fun i hi=>?_) 9 Tryz.underlying9
  obtain ⟨b',off',e,_,hc⟩:=hs i (by omega)
  simp only [Option.some.injEq,Addr.mk.injEq,and_true] at e
  obtain ⟨rfl,rfl⟩:=e
  exact hc

end Go.Proofs.YtkhofppmeoooaaaGreatDoor
