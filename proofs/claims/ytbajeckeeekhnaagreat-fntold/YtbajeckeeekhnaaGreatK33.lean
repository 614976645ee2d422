/- Own lemmas. -/
import Derived.Test.YtbajeckeeekhnaaGreatK28
namespace Go.Proofs.YtbajeckeeekhnaaGreat
open Go.RowKit
set_option linter.unusedVariables false

theorem findRow_some (x:Int):∀ n k j,findRow x n k=some j→k≤j∧j < k+n∧matchB j x=true:=by
 intro n
 induction n with
 | zero=>intro k j h;simp [findRow] at h
 | succ n ih =>
   intro k j h
   rw [findRow] at h
   split at h
   ·rename_i hm
    simp at h
    subst h
    exact ⟨by omega,by omega,hm⟩
   ·have:=ih (k+1) j h
    exact ⟨by omega,by omega,this.2.2⟩

theorem dec_some {x:Int} {i:Ins} (h:dec x=some i):x < 4294967296∧∃ k,k < 98∧matchB k x=true∧i=insAt k x:=by
 unfold dec at h
 split at h
 ·rename_i hx
  cases hf:findRow x 98 0 with
  | none=>rw [hf] at h;simp at h
  | some k =>
    rw [hf] at h
    simp at h
    obtain ⟨h1,h2,h3⟩:=findRow_some x 98 0 k hf
    exact ⟨hx,k,by omega,h3,h.symm⟩
 ·simp at h

theorem rdV_bd (f:Fm) (x:Int):0≤rdV f x∧rdV f x≤31:=by
 have:=fld_bd x 7 5
 unfold rdV;split<;>omega

theorem aV_bd (f:Fm) (x:Int):0≤aV f x∧aV f x≤31:=by
 have:=fld_bd x 15 5
 unfold aV;split<;>omega

theorem bV_bd (f:Fm) (x:Int):0≤bV f x∧bV f x≤31:=by
 have:=fld_bd x 20 5
 unfold bV;split<;>omega

theorem widen_even13 (x:Int) (h:x % 2=0):widen 13 x % 2=0:=by
 have e:(2:Int) ^ (64 - 13)=2251799813685248:=by decide
 unfold widen
 rw [e,IntKind.wrap_u64,IntKind.wrap_u64]
 unfold RowKit.wrap64
 omega

theorem widen_even21 (x:Int) (h:x % 2=0):widen 21 x % 2=0:=by
 have e:(2:Int) ^ (64 - 21)=8796093022208:=by decide
 unfold widen
 rw [e,IntKind.wrap_u64,IntKind.wrap_u64]
 unfold RowKit.wrap64
 omega

structure InsOk (i:Ins):Prop where
 op1:1≤i.op
 op98:i.op≤98
 rd0:0≤i.rd
 rd31:i.rd≤31
 a0:0≤i.a
 a31:i.a≤31
 b0:0≤i.b
 b31:i.b≤31
 im0 : -9223372036854775808≤i.imm
 im1:i.imm < 9223372036854775808
 even:(i.op=3∨5≤i.op∧i.op≤10)→i.imm % 2=0

theorem row_bj:∀ k,k < 98→(k=2∨4≤k∧k≤9)→(rowAt k).fm=.b∨(rowAt k).fm=.j:=by
 have h:(List.range 98).all (fun k=>!(decide (k=2∨4≤k∧k≤9))||(decide ((rowAt k).fm=.b∨(rowAt k).fm=.j)))=true:=by kernel_rfl
 intro k hk e
 have:=List.all_eq_true.1 h k (by simpa using hk)
 rw [decide_eq_true e] at this
 simpa using this

theorem dec_ok {x:Int} {i:Ins} (h:dec x=some i):InsOk i:=by
 obtain ⟨hx,k,hk,hm,rfl⟩:=dec_some h
 have h1:=rdV_bd (rowAt k).fm x
 have h2:=aV_bd (rowAt k).fm x
 have h3:=bV_bd (rowAt k).fm x
 have h4 : -9223372036854775808≤immV (rowAt k).fm x∧immV (rowAt k).fm x < 9223372036854775808:=by unfold immV RowKit.wrap64;omega
 refine ⟨by show (1:Int)≤(k:Int)+1;omega,by show (k:Int)+1≤98;omega,h1.1,h1.2,h2.1,h2.2,h3.1,h3.2,h4.1,h4.2,fun e=>?_⟩
 have e2:k=2∨4≤k∧k≤9:=by
  have e3:((k:Int)+1=3∨5≤(k:Int)+1∧(k:Int)+1≤10):=e
  omega
 show immV (rowAt k).fm x % 2=0
 rcases row_bj k hk e2 with q | q<;>rw [q]<;>unfold immV
 ·have:=widen_even13 (immU .b x) (by simp only [immU];omega)
  show RowKit.wrap64 (widen 13 (immU .b x)) % 2=0
  unfold RowKit.wrap64;omega
 ·have:=widen_even21 (immU .j x) (by simp only [immU];omega)
  show RowKit.wrap64 (widen 21 (immU .j x)) % 2=0
  unfold RowKit.wrap64;omega

end Go.Proofs.YtbajeckeeekhnaaGreat
