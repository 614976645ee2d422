/- Own lemmas. -/
import Derived.Laws.BitsAllLaws
import Derived.WalkKit
import Derived.WalkLawsBesides
import Derived.Laws.CopyOwn
import Derived.Test.YtbajeckeeekhnaaGreatProg
import Derived.Deep.AppendSrc
namespace Go.Proofs.YtbajeckeeekhnaaGreat
set_option linter.unusedVariables false

def ramOkB (n:Nat):Bool:=decide (4096≤n∧n≤65536∧n % 4096=0)

theorem ramOkB_bd {n:Nat} (h:ramOkB n=true):4096≤n∧n≤65536:=by
 unfold ramOkB at h
 have:=of_decide_eq_true h
 omega

def sizeB (s:Int):Bool:=decide (s=1∨s=2∨s=4∨s=8)

def okB (n:Nat) (addr size:Int):Bool:=ramOkB n&&sizeB size&&decide (2147483648≤addr∧addr - 2147483648+size≤n)

theorem okB_true {n:Nat} {addr size:Int} (h:okB n addr size=true) :
 ramOkB n=true∧sizeB size=true∧2147483648≤addr∧addr - 2147483648+size≤n∧1≤size∧size≤8∧4096≤n∧n≤65536:=by
 simp only [okB,Bool.and_eq_true,decide_eq_true_eq] at h
 obtain ⟨⟨h1,h2⟩,h3,h4⟩:=h
 have h5:size=1∨size=2∨size=4∨size=8:=of_decide_eq_true h2
 have h6:=ramOkB_bd h1
 exact ⟨h1,h2,h3,h4,by omega,by omega,h6.1,h6.2⟩

def le (zs:List Int):Nat→Nat→Int
 | _,0=>0
 | f,m+1=>zs.getD f 0+256*le zs (f+1) m

theorem le_bd (zs:List Int) (hz:∀ i,0≤zs.getD i 0∧zs.getD i 0≤255):∀ m f,0≤le zs f m∧le zs f m < 256 ^ m:=by
 intro m
 induction m with
 | zero=>intro f;simp [le]
 | succ m ih =>
   intro f
   have h1:=ih (f+1)
   have h2:=hz f
   have h3:(256:Int) ^ (m+1)=256*256 ^ m:=by rw [Int.pow_succ,Int.mul_comm]
   rw [le,h3]
   omega

theorem pow_256_mono (a b:Nat) (h:a≤b):(256:Int) ^ a≤256 ^ b:=by
 obtain ⟨d,rfl⟩:=Nat.exists_eq_add_of_le h
 rw [Int.pow_add]
 have h1:(0:Int) < 256 ^ a:=Int.pow_pos (by omega)
 have h2:(0:Int) < 256 ^ d:=Int.pow_pos (by omega)
 have h3:(256:Int) ^ a*1≤256 ^ a*256 ^ d:=Int.mul_le_mul_of_nonneg_left (by omega) (by omega)
 omega

theorem le_bd7 (zs:List Int) (hz:∀ i,0≤zs.getD i 0∧zs.getD i 0≤255) (m f:Nat) (hm:m≤7):0≤le zs f m∧le zs f m < 72057594037927936:=by
 have h:=le_bd zs hz m f
 have h2:=pow_256_mono m 7 hm
 have e7:(256:Int) ^ 7=72057594037927936:=by decide
 omega

theorem le_bd8 (zs:List Int) (hz:∀ i,0≤zs.getD i 0∧zs.getD i 0≤255) (m f:Nat) (hm:m≤8):0≤le zs f m∧le zs f m < 18446744073709551616:=by
 have h:=le_bd zs hz m f
 have h2:=pow_256_mono m 8 hm
 have e7:(256:Int) ^ 8=18446744073709551616:=by decide
 omega

theorem or_low (x y:Int) (h0:0≤x) (h1:x < 72057594037927936) (h2:0≤y) (h3:y≤255):bits .or .u64 (x*256) y=y+256*x:=by
 rw [u64_or (x*256) y (by omega) (by omega) h2 (by omega)]
 have hn:(x*256).toNat ||| y.toNat=(x*256).toNat+y.toNat:=nat_join 8 _ _ (by omega) (by omega)
 rw [hn]
 omega

def put (zs:List Int) (f:Nat) (x:Int):Nat→List Int
 | 0=>zs
 | k+1=>(put zs f x k).set (f+k) (x / 256 ^ k % 256)

theorem put_len (zs:List Int) (f:Nat) (x:Int):∀ k,(put zs f x k).length=zs.length:=by
 intro k
 induction k with
 | zero=>rfl
 | succ k ih=>simp [put,ih]

theorem put_bd (zs:List Int) (hz:∀ y ∈ zs,0≤y∧y≤255) (f:Nat) (x:Int):∀ k,∀ y ∈ put zs f x k,0≤y∧y≤255:=by
 intro k
 induction k with
 | zero=>exact hz
 | succ k ih =>
   intro y hy
   rcases List.mem_or_eq_of_mem_set hy with h | h
   ·exact ih y h
   ·subst h;omega

def marks (k:Int) (n:Nat):List Int:=(List.range n).map fun (i:Nat)=>(k+(i:Int)) % 256

end Go.Proofs.YtbajeckeeekhnaaGreat

namespace Go.Proofs.YtbajeckeeekhnaaGreat
open Go.RowKit
set_option linter.unusedVariables false

def Sl (k:IntKind) (w:World) (a:Option Addr) (zs:List Int):Prop :=
 ∀ i,i < zs.length→∃ b off,a=some ⟨b,off,none⟩∧b < w.heap.size∧w.cell? ⟨b,off+i,none⟩=some (.int k (zs.getD i 0))

theorem Sl.below {k:IntKind} {w w':World} {a:Option Addr} {zs:List Int} (h:Sl k w a zs) (hb:Below w.heap.size w w'):Sl k w' a zs:=by
 intro i hi
 obtain ⟨b,off,e,hlt,hc⟩:=h i hi
 exact ⟨b,off,e,Nat.lt_of_lt_of_le hlt hb.size,(hb.cell (by exact hlt)).trans hc⟩

theorem ownsRow_below {w w':World} {base:Nat} {e:TypeId} {size:Nat} {v:Value} {n:Nat} {xs:List Value} (h:w.ownsRow base e size v n xs) (hb:Below w.heap.size w w'):w'.ownsRow base e size v n xs:=by
 obtain ⟨h1,h2⟩:=h
 refine ⟨h1,?_⟩
 rcases h2 with h2 | ⟨g,cap,cur,hv,hg,hh,r⟩
 ·exact Or.inl h2
 ·have hlt:g < w.heap.size:=by
   rcases Nat.lt_or_ge g w.heap.size with h | h
   ·exact h
   ·rw [Array.getElem?_eq_none h] at hh;cases hh
  exact Or.inr ⟨g,cap,cur,hv,hg,by rw [hb.block g hlt];exact hh,r⟩

theorem own_lt {w:World} {base:Nat} {e:TypeId} {size g n cap:Nat} {xs:List Value} (h:w.ownsRow base e size (.slice (some ⟨g,0,none⟩) n cap) n xs):g < w.heap.size:=by
 obtain ⟨h1,h2⟩:=h
 rcases h2 with ⟨h2,_⟩ | ⟨g',cap',cur,hv,hg,hh,r⟩
 ·cases h2
 ·simp only [Value.slice.injEq,Option.some.injEq,Addr.mk.injEq,and_true,true_and] at hv
  obtain ⟨rfl,rfl⟩:=hv
  rcases Nat.lt_or_ge g w.heap.size with h | h
  ·exact h
  ·rw [Array.getElem?_eq_none h] at hh;cases hh

theorem own_sl {k:IntKind} {w:World} {base:Nat} {e:TypeId} {g n cap:Nat} {zs:List Int} (h:w.ownsRow base e 1 (.slice (some ⟨g,0,none⟩) n cap) n (zs.map (Value.int k))):Sl k w (some ⟨g,0,none⟩) zs:=by
 intro i hi
 have hl:n=zs.length:=by have:=h.1;simp at this;omega
 refine ⟨g,0,rfl,own_lt h,?_⟩
 rw [Nat.zero_add,h.cellAt i (by omega)]
 simp [List.getElem?_map,List.getElem?_eq_getElem hi,List.getD]

theorem own_sl' {k:IntKind} {w:World} {base:Nat} {e:TypeId} {a:Option Addr} {n cap:Nat} {zs:List Int} (h:w.ownsRow base e 1 (.slice a n cap) n (zs.map (Value.int k))):Sl k w a zs:=by
 rcases h.2 with ⟨h2,h3⟩ | ⟨g',cap',cur,hv,hg,hh,r⟩
 ·intro i hi
  have:=h.1
  simp at this
  omega
 ·simp only [Value.slice.injEq,true_and] at hv
  obtain ⟨rfl,rfl⟩:=hv
  exact own_sl h

def IsRow (k:IntKind) (w:World) (a:Option Addr) (len cap:Nat) (zs:List Int):Prop :=
 (a=none∧len=0∧cap=0∧zs=[]) ∨
 ∃ x,a=some x∧len≤cap∧cap≤maxLen∧zs.length=cap∧(∀ i,i < zs.length→w.cell? (x.add i)=some (.int k (zs.getD i 0)))∧∀ n ∈ zs,(Lit.int k n).wf=true

theorem IsRow.sl {k:IntKind} {w:World} {a:Option Addr} {len cap:Nat} {zs:List Int} (h:IsRow k w a len cap zs) :
 ∃ ys:List Int,ys.length=len∧Sl k w a ys∧(∀ y ∈ ys,(Lit.int k y).wf=true)∧len≤maxLen:=by
 rcases h with ⟨rfl,rfl,rfl,rfl⟩ | ⟨x,rfl,hl,hm,hz,hcell,hwz⟩
 ·exact ⟨[],rfl,fun i hi=>absurd hi (by simp),by simp,by unfold maxLen;omega⟩
 ·refine ⟨zs.take len,by simp;omega,?_,fun y hy=>hwz y (List.mem_of_mem_take hy),by omega⟩
  intro i hi
  simp only [List.length_take] at hi
  obtain ⟨b,off,spot⟩:=x
  have hspot:spot=none:=by simpa [Addr.add] using World.cell?_spot (hcell 0 (by omega))
  subst hspot
  have ha:(⟨b,off,none⟩:Addr).add i=⟨b,off+i,none⟩:=by
   by_cases h0:i=0
   ·subst h0;simp [Addr.add]
   ·simp [Addr.add,h0]
  have hc:=hcell i (by omega)
  rw [ha] at hc
  refine ⟨b,off,rfl,World.block_lt_of_cell? _ _ hc,?_⟩
  have e:(zs.take len).getD i 0=zs.getD i 0:=by simp [List.getD,show i < len by omega]
  rw [e]
  exact hc

theorem below_trans {w w1 w2:World} (h:Below w.heap.size w w1) (k:Below w1.heap.size w1 w2):Below w.heap.size w w2 :=
 h.trans (k.mono h.size)

theorem byte_bd {zs:List Int} (h:∀ y ∈ zs,(Lit.int .u8 y).wf=true) (k:Nat):0≤zs.getD k 0∧zs.getD k 0≤255:=by
 by_cases hk:k < zs.length
 ·have:=h (zs.getD k 0) (by simp [List.getD,List.getElem?_eq_getElem hk])
  simpa [Lit.wf,IntKind.min,IntKind.max,IntKind.signed,IntKind.bits] using this
 ·simp [List.getD,List.getElem?_eq_none (Nat.le_of_not_lt hk)]

theorem map_set_u8 (zs:List Int) (i:Nat) (y:Int):(zs.map (Value.int .u8)).set i (.int .u8 y)=(zs.set i y).map (Value.int .u8):=by
 rw [List.map_set]

theorem grown_trans {w a b:World} {row:Option Nat} (h:w.grownBy a row) (k:a.grownBy b row):w.grownBy b row :=
 ⟨k.os.trans h.os,k.tape.trans h.tape,k.output.trans h.output,Nat.le_trans h.size k.size,fun i hi hne=>(k.block i (Nat.lt_of_lt_of_le hi h.size) hne).trans (h.block i hi hne)⟩

theorem grown_refl (w:World) (row:Option Nat):w.grownBy w row:=⟨rfl,rfl,rfl,Nat.le_refl _,fun _ _ _=>rfl⟩

theorem own_shape {w:World} {base n:Nat} {e:TypeId} {v:Value} {xs:List Value} (h:w.ownsRow base e 1 v n xs) (hn:0 < n):∃ g c,v=.slice (some ⟨g,0,none⟩) n c∧base≤g:=by
 rcases h.2 with ⟨_,h3⟩ | ⟨g,cap,cur,hv,hg,_⟩
 ·omega
 ·exact ⟨g,cap,hv,hg⟩

theorem adds (b off j:Nat):(⟨b,off,none⟩:Addr).add j=⟨b,off+j,none⟩:=by
 by_cases h0:j=0
 ·subst h0;simp [Addr.add]
 ·simp [Addr.add,h0]

theorem kept_of {w w':World} {base:Nat} {e:TypeId} {size:Nat} {v:Value} {n:Nat} {xs:List Value} {row:Option Nat} (h:w.ownsRow base e size v n xs) (hg:w.grownBy w' row) (hne:∀ k,v.ownBlock=some k→row≠some k) :
 w'.ownsRow base e size v n xs:=by
 refine h.kept hg ?_
 cases hv:v.ownBlock with
 | none=>exact .inl rfl
 | some k=>exact .inr (fun h=>hne k hv h.symm)

theorem own_low {w:World} {base base':Nat} {e:TypeId} {size:Nat} {v:Value} {n:Nat} {xs:List Value} (h:w.ownsRow base e size v n xs) (hb:base'≤base):w.ownsRow base' e size v n xs:=by
 obtain ⟨h1,h2⟩:=h
 refine ⟨h1,?_⟩
 rcases h2 with h2 | ⟨g,cap,cur,hv,hg,r⟩
 ·exact Or.inl h2
 ·exact Or.inr ⟨g,cap,cur,hv,Nat.le_trans hb hg,r⟩

theorem Tryz.info5:(Tryz.prog.info? 5).map (fun i=>(i.zero,i.size,i.bytes))=some (some (.int .u8 0),1,1):=by kernel_rfl

theorem specRamOk_any (a:Option Addr) (n cap:Nat) (w:World) (hn:n≤1048576) :
 Calls Tryz.prog 24 #[.slice a n cap] w fun e w'=>e=.returned (.bool (ramOkB n))∧w'=w:=by
 by_cases h1:4096≤n
 ·by_cases h2:n≤65536
  ·have d2:decide ((n:Int)≤65536)=true:=by simp;omega
   by_cases h3:n % 4096=0
   ·have F:Hid (ramOkB n=true):=by show ramOkB n=true;simp [ramOkB,h1,h2,h3]
    have d3:((n:Int) % 4096==0)=true:=by simp;omega
    go_enter Tryz.func24,Tryz.ntmps24
    go_wp2
    go_ret
    exact ⟨by rw [F.out];rfl,rfl⟩
   ·have F:Hid (ramOkB n=false):=by show ramOkB n=false;simp [ramOkB,h3]
    have d3:((n:Int) % 4096==0)=false:=by simp;omega
    go_enter Tryz.func24,Tryz.ntmps24
    go_wp2
    go_ret
    exact ⟨by rw [F.out];rfl,rfl⟩
  ·have F:Hid (ramOkB n=false):=by show ramOkB n=false;simp [ramOkB,h2]
   have d2:decide ((n:Int)≤65536)=false:=by simp;omega
   go_enter Tryz.func24,Tryz.ntmps24
   go_wp2
   go_ret
   exact ⟨by rw [F.out];rfl,rfl⟩
 ·have F:Hid (ramOkB n=false):=by show ramOkB n=false;simp [ramOkB,h1]
  have d1:decide ((4096:Int)≤n)=false:=by simp;omega
  go_enter Tryz.func24,Tryz.ntmps24
  go_wp2
  go_ret
  exact ⟨by rw [F.out];rfl,rfl⟩

theorem implRamOk_any (a:Option Addr) (n cap:Nat) (w:World) (hn:n≤1048576) :
 Calls Tryz.prog 16 #[.slice a n cap] w fun e w'=>e=.returned (.bool (ramOkB n))∧w'=w:=by
 by_cases h1:4096≤n
 ·by_cases h2:n≤65536
  ·have d2:decide ((n:Int)≤65536)=true:=by simp;omega
   by_cases h3:n % 4096=0
   ·have F:Hid (ramOkB n=true):=by show ramOkB n=true;simp [ramOkB,h1,h2,h3]
    have d3:((n:Int) % 4096==0)=true:=by simp;omega
    go_enter Tryz.func16,Tryz.ntmps16
    go_wp2
    go_ret
    exact ⟨by rw [F.out];rfl,rfl⟩
   ·have F:Hid (ramOkB n=false):=by show ramOkB n=false;simp [ramOkB,h3]
    have d3:((n:Int) % 4096==0)=false:=by simp;omega
    go_enter Tryz.func16,Tryz.ntmps16
    go_wp2
    go_ret
    exact ⟨by rw [F.out];rfl,rfl⟩
  ·have F:Hid (ramOkB n=false):=by show ramOkB n=false;simp [ramOkB,h2]
   have d2:decide ((n:Int)≤65536)=false:=by simp;omega
   go_enter Tryz.func16,Tryz.ntmps16
   go_wp2
   go_ret
   exact ⟨by rw [F.out];rfl,rfl⟩
 ·have F:Hid (ramOkB n=false):=by show ramOkB n=false;simp [ramOkB,h1]
  have d1:decide ((4096:Int)≤n)=false:=by simp;omega
  go_enter Tryz.func16,Tryz.ntmps16
  go_wp2
  go_ret
  exact ⟨by rw [F.out];rfl,rfl⟩

set_option maxHeartbeats 400000 in
theorem inside_any (a:Option Addr) (n cap:Nat) (addr size:Int) (w:World) (hr:ramOkB n=true) (hsz:sizeB size=true) (ha:0≤addr) (ha2:addr≤18446744073709551615) :
 Calls Tryz.prog 79 #[.slice a n cap,.int .u64 addr,.int .i64 size] w fun e w'=>e=.returned (.bool (okB n addr size))∧w'=w:=by
 have hb:=ramOkB_bd hr
 have hs5:size=1∨size=2∨size=4∨size=8:=of_decide_eq_true hsz
 have hs1:1≤size:=by omega
 have hs2:size≤8:=by omega
 clear hs5
 by_cases hlow:2147483648≤addr
 ·by_cases hlt:addr - 2147483648 < n
  ·by_cases hin:size≤n - (addr - 2147483648)
   ·have F1:Hid (okB n addr size=true):=by show okB n addr size=true;simp [okB,hr,hsz];omega
    have d1:decide (2147483648≤addr)=true:=by simpa using hlow
    have d2:decide (addr - 2147483648 < (n:Int))=true:=by simpa using hlt
    have d3:decide (size≤(n:Int) - (addr - 2147483648))=true:=by simpa using hin
    go_enter Tryz.func79,Tryz.ntmps79
    go_wp2
    go_ret
    exact ⟨by rw [F1.out];rfl,rfl⟩
   ·have F1:Hid (okB n addr size=false):=by show okB n addr size=false;simp [okB];omega
    have d1:decide (2147483648≤addr)=true:=by simpa using hlow
    have d2:decide (addr - 2147483648 < (n:Int))=true:=by simpa using hlt
    have d3:decide (size≤(n:Int) - (addr - 2147483648))=false:=by simpa using hin
    go_enter Tryz.func79,Tryz.ntmps79
    go_wp2
    go_ret
    exact ⟨by rw [F1.out];rfl,rfl⟩
  ·have F1:Hid (okB n addr size=false):=by show okB n addr size=false;simp [okB];omega
   have d1:decide (2147483648≤addr)=true:=by simpa using hlow
   have d2:decide (addr - 2147483648 < (n:Int))=false:=by simpa using hlt
   go_enter Tryz.func79,Tryz.ntmps79
   go_wp2
   go_ret
   exact ⟨by rw [F1.out];rfl,rfl⟩
 ·have F1:Hid (okB n addr size=false):=by show okB n addr size=false;simp [okB];omega
  have d1:decide (2147483648≤addr)=false:=by simpa using hlow
  go_enter Tryz.func79,Tryz.ntmps79
  go_wp2
  go_ret
  exact ⟨by rw [F1.out];rfl,rfl⟩

set_option maxHeartbeats 400000 in
theorem l1Load_any (a:Option Addr) (n cap f m:Nat) (zs:List Int) (w:World) (hz:zs.length=n) (hn:n≤1048576) (hs:Sl .u8 w a zs) (hw:∀ y ∈ zs,(Lit.int .u8 y).wf=true)
 (hm1:1≤m) (hm:m≤8) (hf:f+m≤n) :
 Calls Tryz.prog 80 #[.slice a n cap,.int .u64 (2147483648+(f:Int)),.int .i64 (m:Int)] w fun e w'=>e=.returned (.int .u64 (le zs f m))∧w'=w:=by
 have HZ:Hid (zs.length=n):=hz
 have HW:Hid (∀ y ∈ zs,(Lit.int .u8 y).wf=true):=hw
 clear hz hw
 go_enter Tryz.func80,Tryz.ntmps80
 go_wp2
 go_loop [8,9] (fun x i=>∃ j:Nat,j≤m∧i=.int .i64 ((j:Int) - 1)∧x=.int .u64 (le zs (f+j) (m - j))) (fun _ i=>(intOf i+1).toNat)
 case atStart=>exact ⟨m,Nat.le_refl _,rfl,by simp [le]⟩
 case round =>
  obtain ⟨j,hj,rfl,rfl⟩:=hrel
  by_cases hlt:1≤j
  ·obtain ⟨k,rfl⟩:∃ k,j=k+1:=⟨j - 1,by omega⟩
   obtain ⟨b,off,rfl,hb,hc⟩:=hs (f+k) (by have:=HZ.out;omega)
   have hx:=byte_bd HW.out (f+k)
   obtain ⟨x,hxx⟩:∃ x,x=zs.getD (f+k) 0:=⟨_,rfl⟩
   obtain ⟨y,hyy⟩:∃ y,y=le zs (f+(k+1)) (m - (k+1)):=⟨_,rfl⟩
   rw [← hxx] at hc hx
   rw [← hyy]
   have hy:=le_bd7 zs (byte_bd HW.out) (m - (k+1)) (f+(k+1)) (by omega)
   rw [← hyy] at hy
   have S:Hid (bits .or .u64 (y*256) x=le zs (f+k) (m - k)):=by
    show bits .or .u64 (y*256) x=le zs (f+k) (m - k)
    rw [or_low y x hy.1 hy.2 hx.1 hx.2,show m - k=(m - (k+1))+1 from by omega,le,hxx,hyy]
    rfl
   clear hxx hyy
   go_wp2
   go_round
   case rel=>exact ⟨k,by omega,by go_num,by rw [← S.out]⟩
   case measure=>simp [intOf]
  ·have h0:j=0:=by omega
   subst h0
   go_wp2
   go_ret
   exact ⟨rfl,rfl⟩

theorem eight (g p n:Nat) (zs:List Int) (w:World) (hz:zs.length=n) (hp:p+8≤n) (hs:Sl .u8 w (some ⟨g,0,none⟩) zs) (hw:∀ y ∈ zs,(Lit.int .u8 y).wf=true) :
 ∃ b0 b1 b2 b3 b4 b5 b6 b7:Int,∃ B:{ bs:List Int // bs=[b0,b1,b2,b3,b4,b5,b6,b7] },
  w.cell? ⟨g,p,none⟩=some (.int .u8 b0)∧w.cell? ⟨g,p+1,none⟩=some (.int .u8 b1)∧w.cell? ⟨g,p+2,none⟩=some (.int .u8 b2)∧w.cell? ⟨g,p+3,none⟩=some (.int .u8 b3) ∧
  w.cell? ⟨g,p+4,none⟩=some (.int .u8 b4)∧w.cell? ⟨g,p+5,none⟩=some (.int .u8 b5)∧w.cell? ⟨g,p+6,none⟩=some (.int .u8 b6)∧w.cell? ⟨g,p+7,none⟩=some (.int .u8 b7) ∧
  Hid (∀ i,0≤B.1.getD i 0∧B.1.getD i 0≤255)∧Hid (le B.1 0 8=le zs p 8):=by
 have c:∀ i,i < 8→w.cell? ⟨g,p+i,none⟩=some (.int .u8 (zs.getD (p+i) 0)):=by
  intro i hi
  obtain ⟨b,off,e,_,hc⟩:=hs (p+i) (by omega)
  simp only [Option.some.injEq,Addr.mk.injEq,and_true] at e
  obtain ⟨rfl,rfl⟩:=e
  rw [Nat.zero_add] at hc
  exact hc
 have bd:=byte_bd hw
 refine ⟨_,_,_,_,_,_,_,_,⟨[zs.getD p 0,zs.getD (p+1) 0,zs.getD (p+2) 0,zs.getD (p+3) 0,zs.getD (p+4) 0,zs.getD (p+5) 0,zs.getD (p+6) 0,zs.getD (p+7) 0],rfl⟩,c 0 (by omega),c 1 (by omega),c 2 (by omega),c 3 (by omega),c 4 (by omega),c 5 (by omega),c 6 (by omega),c 7 (by omega),?_,?_⟩
 ·intro i
  match i with
  | 0=>exact bd p
  | 1=>exact bd (p+1)
  | 2=>exact bd (p+2)
  | 3=>exact bd (p+3)
  | 4=>exact bd (p+4)
  | 5=>exact bd (p+5)
  | 6=>exact bd (p+6)
  | 7=>exact bd (p+7)
  | i+8=>simp
 ·show le [zs.getD p 0,zs.getD (p+1) 0,zs.getD (p+2) 0,zs.getD (p+3) 0,zs.getD (p+4) 0,zs.getD (p+5) 0,zs.getD (p+6) 0,zs.getD (p+7) 0] 0 8=le zs p 8
  rfl

set_option maxHeartbeats 400000 in
theorem l1Put_any (g n cap f m base:Nat) (zs:List Int) (x:Int) (w:World) (hn:n≤1048576) (hm:m≤8) (hf:f+m≤n) (hx0:0≤x) (hx1:x≤18446744073709551615)
 (hown:w.ownsRow base 5 1 (.slice (some ⟨g,0,none⟩) n cap) n (zs.map (Value.int .u8))) :
 Calls Tryz.prog 36 #[.slice (some ⟨g,0,none⟩) n cap,.int .u64 (2147483648+(f:Int)),.int .i64 (m:Int),.int .u64 x] w fun e w'=>e=.returned (.tuple #[]) ∧
  w'.ownsRow base 5 1 (.slice (some ⟨g,0,none⟩) n cap) n ((put zs f x m).map (Value.int .u8))∧w.grownBy w' (some g):=by
 have HX:Hid (zs.length=n):=by show zs.length=n;have:=hown.1;simpa using this
 go_enter Tryz.func36,Tryz.ntmps36
 go_wp2
 go_loopw [3,9] (fun y i wr=>∃ j:Nat,j≤m∧i=.int .i64 (j:Int)∧y=.int .u64 (x / 256 ^ j)∧wr.ownsRow base 5 1 (.slice (some ⟨g,0,none⟩) n cap) n ((put zs f x j).map (Value.int .u8))∧w.grownBy wr (some g))
  (fun _ i _=>m - (intOf i).toNat)
 case atStart=>exact ⟨0,Nat.zero_le _,rfl,by simp,hown,grown_refl _ _⟩
 case round =>
  obtain ⟨j,hj,rfl,rfl,hown1,hgr⟩:=hrel
  clear hown
  by_cases hlt:j < m
  ·have hfr:wr.frozen? ⟨g,f+j,none⟩=false:=hown1.frozenAt (f+j)
   have hst:=hown1.stored (f+j) (.int .u8 (x / 256 ^ j % 256))
   obtain ⟨v3,hv3⟩:∃ v,wr.cell? ⟨g,f+j,none⟩=some v:=by
    rw [hown1.cellAt (f+j) (by omega)]
    exact ⟨_,List.getElem?_eq_getElem (by rw [List.length_map,put_len,HX.out];omega)⟩
   rw [map_set_u8] at hst
   have hst1:(wr.setCell ⟨g,f+j,none⟩ (.int .u8 (x / 256 ^ j % 256))).ownsRow base 5 1 (.slice (some ⟨g,0,none⟩) n cap) n ((put zs f x (j+1)).map (Value.int .u8)):=hst.1
   have hgr2:=grown_trans hgr hst.2
   have N:Hid (x / 256 ^ (j+1)=x / 256 ^ j / 256):=by
    show x / 256 ^ (j+1)=x / 256 ^ j / 256
    rw [Int.pow_succ,Int.ediv_ediv_of_nonneg (Int.le_of_lt (Int.pow_pos (by omega)))]
   have hy0:0≤x / 256 ^ j:=Int.ediv_nonneg hx0 (Int.le_of_lt (Int.pow_pos (by omega)))
   have hy1:x / 256 ^ j≤18446744073709551615:=Int.le_trans (Int.ediv_le_self _ hx0) hx1
   obtain ⟨y,hyy⟩:∃ y,y=x / 256 ^ j:=⟨_,rfl⟩
   rw [← hyy] at hst1 hgr2 hy0 hy1 N ⊢
   clear hst hown1 hyy
   go_wp2
   go_roundw
   case rel=>exact ⟨j+1,by omega,by go_num,by rw [N.out],hst1,hgr2⟩
   case measure=>simp [intOf];omega
  ·have:j=m:=by omega
   subst this
   go_wp2
   go_end0
   exact ⟨rfl,hown1,hgr⟩

structure FRow where
 t:TypeId
 v:Value
 n:Nat
 xs:List Value

structure Fam (B E:Nat) (w:World) (L:List FRow):Prop where
 own:∀ r ∈ L,w.ownsRow B r.t 1 r.v r.n r.xs
 hi:∀ r ∈ L,∀ k,r.v.ownBlock=some k→k < E
 ne:L.Pairwise (fun r s=>∀ k,r.v.ownBlock=some k→s.v.ownBlock≠some k)

structure Keep (B E:Nat) (w w':World):Prop where
 os:w'.os=w.os
 tape:w'.tape=w.tape
 output:w'.output=w.output
 size:w.heap.size≤w'.heap.size
 block:∀ k,k < w.heap.size→(k < B∨E≤k)→w'.heap[k]?=w.heap[k]?

theorem Keep.of_below {B E:Nat} {w w':World} (h:Below w.heap.size w w'):Keep B E w w':=⟨h.os,h.tape,h.output,h.size,fun k hk _=>h.block k hk⟩

theorem Keep.below {B0 B E:Nat} {w w':World} (h:Keep B E w w') (hB:B0≤B) (hw:B0≤w.heap.size):Below B0 w w':=⟨h.os,h.tape,h.output,h.size,fun k hk=>h.block k (by omega) (.inl (by omega))⟩

theorem Keep.of_grown {B E:Nat} {w w':World} {row:Option Nat} (h:w.grownBy w' row) (hr:∀ k,row=some k→B≤k∧k < E):Keep B E w w' :=
 ⟨h.os,h.tape,h.output,h.size,fun k hk ho=>h.block k hk (fun e=>by have:=hr k e.symm;omega)⟩

theorem fown_of {w w':World} {B n:Nat} {t:TypeId} {v:Value} {xs:List Value} (h:w.ownsRow B t 1 v n xs) (hk:∀ k,v.ownBlock=some k→w'.heap[k]?=w.heap[k]?):w'.ownsRow B t 1 v n xs:=by
 refine ⟨h.1,?_⟩
 rcases h.2 with h2 | ⟨g,cap,cur,h1,h2,h3,h4⟩
 ·exact .inl h2
 ·exact .inr ⟨g,cap,cur,h1,h2,(hk g (by rw [h1];rfl)).trans h3,h4⟩

theorem Fam.mono {B E:Nat} {w w':World} {L:List FRow} (h:Fam B E w L) (hk:∀ k,B≤k→k < E→k < w.heap.size→w'.heap[k]?=w.heap[k]?):Fam B E w' L :=
 ⟨fun r hr=>fown_of (h.own r hr) (fun k e=>hk k ((h.own r hr).lt k e).1 (h.hi r hr k e) ((h.own r hr).lt k e).2),h.hi,h.ne⟩

theorem Fam.below {B E:Nat} {w w':World} {L:List FRow} (h:Fam B E w L) (hb:Below w.heap.size w w'):Fam B E w' L:=h.mono fun k _ _ hk=>hb.block k hk

theorem Fam.low {B B' E E':Nat} {w:World} {L:List FRow} (h:Fam B E w L) (hb:B'≤B) (he:E≤E'):Fam B' E' w L :=
 ⟨fun r hr=>own_low (h.own r hr) hb,fun r hr k e=>Nat.lt_of_lt_of_le (h.hi r hr k e) he,h.ne⟩

theorem Fam.set {B E:Nat} {w:World} {L:List FRow} (h:Fam B E w L) (p:Addr) (v:Value) (hp:p.block < B∨E≤p.block):Fam B E (w.setCell p v) L:=h.mono fun k h1 h2 h3=>Below.heap_setCell w p v k (by omega)

theorem Fam.nil (B E:Nat) (w:World):Fam B E w []:=⟨fun r hr=>(nomatch hr),fun r hr=>(nomatch hr),List.Pairwise.nil⟩

theorem Fam.cons {B E:Nat} {w:World} {L:List FRow} (h:Fam B E w L) (r:FRow) (base E':Nat) (ho:w.ownsRow base r.t 1 r.v r.n r.xs) (h1:E≤base) (h2:B≤base) (h3:w.heap.size≤E') (h4:E≤E'):Fam B E' w (r :: L):=by
 refine ⟨fun s hs=>?_,fun s hs k e=>?_,List.pairwise_cons.2 ⟨fun s hs k e e2=>?_,h.ne⟩⟩
 ·rcases List.mem_cons.1 hs with rfl | hs
  ·exact own_low ho h2
  ·exact h.own s hs
 ·rcases List.mem_cons.1 hs with rfl | hs
  ·have:=(ho.lt k e).2;omega
  ·have:=h.hi s hs k e;omega
 ·have:=(ho.lt k e).1
  have:=h.hi s hs k e2
  omega

theorem Fam.snoc {B E:Nat} {w:World} {L:List FRow} (h:Fam B E w L) (r:FRow) (base E':Nat) (ho:w.ownsRow base r.t 1 r.v r.n r.xs) (h1:E≤base) (h2:B≤base) (h3:w.heap.size≤E') (h4:E≤E'):Fam B E' w (L ++ [r]):=by
 have c:=h.cons r base E' ho h1 h2 h3 h4
 refine ⟨fun s hs=>c.own s ?_,fun s hs=>c.hi s ?_,List.pairwise_append.2 ⟨h.ne,List.pairwise_singleton _ _,fun s hs q hq k e e2=>?_⟩⟩
 ·rcases List.mem_append.1 hs with hs | hs
  ·exact List.mem_cons_of_mem _ hs
  ·rw [List.mem_singleton.1 hs];exact List.mem_cons_self ..
 ·rcases List.mem_append.1 hs with hs | hs
  ·exact List.mem_cons_of_mem _ hs
  ·rw [List.mem_singleton.1 hs];exact List.mem_cons_self ..
 ·simp only [List.mem_singleton] at hq
  subst hq
  exact (List.pairwise_cons.1 c.ne).1 s hs k e2 e

theorem Fam.mark {B E:Nat} {w w':World} {L1 L2:List FRow} {r:FRow} (h:Fam B E w (L1 ++ r :: L2)) (hg:w.grownBy w' r.v.ownBlock) (xs:List Value) (ho:w'.ownsRow B r.t 1 r.v r.n xs):Fam B E w' (L1 ++ ⟨r.t,r.v,r.n,xs⟩ :: L2)∧Keep B E w w':=by
 have hne:=List.pairwise_append.1 h.ne
 have hne2:=List.pairwise_cons.1 hne.2.1
 have kept:∀ s ∈ L1 ++ r :: L2,(∀ k,s.v.ownBlock=some k→r.v.ownBlock≠some k)→w'.ownsRow B s.t 1 s.v s.n s.xs:=fun s hs hd=>fown_of (h.own s hs) (fun k e=>hg.block k ((h.own s hs).lt k e).2 (fun e2=>hd k e e2.symm))
 have hr:r ∈ L1 ++ r :: L2:=by simp
 refine ⟨⟨fun s hs=>?_,fun s hs k e=>?_,?_⟩,Keep.of_grown hg fun k e=>⟨((h.own r hr).lt k e).1,h.hi r hr k e⟩⟩
 ·rcases List.mem_append.1 hs with hs | hs
  ·exact kept s (List.mem_append_left _ hs) (fun k e=>hne.2.2 s hs r (List.mem_cons_self ..) k e)
  ·rcases List.mem_cons.1 hs with rfl | hs
   ·exact ho
   ·exact kept s (List.mem_append_right _ (List.mem_cons_of_mem _ hs)) (fun k e e2=>hne2.1 s hs k e2 e)
 ·rcases List.mem_append.1 hs with hs | hs
  ·exact h.hi s (List.mem_append_left _ hs) k e
  ·rcases List.mem_cons.1 hs with rfl | hs
   ·exact h.hi r hr k e
   ·exact h.hi s (List.mem_append_right _ (List.mem_cons_of_mem _ hs)) k e
 ·refine List.pairwise_append.2 ⟨hne.1,List.pairwise_cons.2 ⟨fun s hs k e=>hne2.1 s hs k e,hne2.2⟩,fun s hs q hq k e=>?_⟩
  rcases List.mem_cons.1 hq with rfl | hq
  ·exact hne.2.2 s hs r (List.mem_cons_self ..) k e
  ·exact hne.2.2 s hs q (List.mem_cons_of_mem _ hq) k e

def bRow (a:Option Addr) (n c:Nat) (xs:List Int):FRow:=⟨5,.slice a n c,n,xs.map (Value.int .u8)⟩

def devF (a1:Option Addr) (n1 c1:Nat) (xs:List Int) (a2:Option Addr) (n2 c2:Nat) (ys:List Int):List FRow:=[bRow a1 n1 c1 xs,bRow a2 n2 c2 ys]

theorem Fam.in_ {B E:Nat} {w:World} {a1:Option Addr} {n1 c1:Nat} {xs:List Int} {a2:Option Addr} {n2 c2:Nat} {ys:List Int} (h:Fam B E w (devF a1 n1 c1 xs a2 n2 c2 ys)):Sl .u8 w a1 xs:=own_sl' (h.own (bRow a1 n1 c1 xs) (by simp [devF]))

theorem Fam.out_ {B E:Nat} {w:World} {a1:Option Addr} {n1 c1:Nat} {xs:List Int} {a2:Option Addr} {n2 c2:Nat} {ys:List Int} (h:Fam B E w (devF a1 n1 c1 xs a2 n2 c2 ys)):Sl .u8 w a2 ys:=own_sl' (h.own (bRow a2 n2 c2 ys) (by simp [devF]))

theorem dhid {p:Prop} (h:p):Hid p:=h

theorem dstays {w w':World} (hb:Below w.heap.size w w') {g:Nat} {o:Obj} (h:w.heap[g]?=some o):w'.heap[g]?=some o:=by
 rw [hb.block g (Array.getElem?_eq_some_iff.1 h).1]
 exact h

theorem cells6 {W:World} {g:Nat} {a b c d e f:Value} {t:TypeId} (h:W.heap[g]?=some (.cells #[a,b,c,d,e,f] t (0,0))):W.cell? ⟨g,0,none⟩=some a∧W.cell? ⟨g,1,none⟩=some b∧W.cell? ⟨g,2,none⟩=some c∧W.cell? ⟨g,3,none⟩=some d∧W.cell? ⟨g,4,none⟩=some e∧W.cell? ⟨g,5,none⟩=some f:=by
 refine ⟨?_,?_,?_,?_,?_,?_⟩<;>simp [World.cell?,h]

theorem froz {W:World} {g:Nat} {cs:Array Value} {t:TypeId} (h:W.heap[g]?=some (.cells cs t (0,0))) (i:Nat):W.frozen? ⟨g,i,none⟩=false:=by simp [World.frozen?,h]

theorem froz6 {W:World} {g:Nat} {cs:Array Value} {t:TypeId} (h:W.heap[g]?=some (.cells cs t (0,0))):W.frozen? ⟨g,0,none⟩=false∧W.frozen? ⟨g,1,none⟩=false∧W.frozen? ⟨g,2,none⟩=false∧W.frozen? ⟨g,3,none⟩=false∧W.frozen? ⟨g,4,none⟩=false∧W.frozen? ⟨g,5,none⟩=false :=
 ⟨froz h 0,froz h 1,froz h 2,froz h 3,froz h 4,froz h 5⟩

theorem rows2 {w w2:World} {o1 o2:Obj} (hb:Below ((w.alloc o1).alloc o2).heap.size ((w.alloc o1).alloc o2) w2):w2.heap[w.heap.size]?=some o1∧w2.heap[w.heap.size+1]?=some o2:=by
 have e2:=heap_alloc_new (w.alloc o1) o2
 rw [World.size_alloc] at e2
 exact ⟨dstays hb ((Below.heap_alloc _ _ _ (by simp only [World.size_alloc];omega)).trans (heap_alloc_new w o1)),dstays hb e2⟩

theorem rows3 {w w2:World} {o1 o2 o3:Obj} (hb:Below (((w.alloc o1).alloc o2).alloc o3).heap.size (((w.alloc o1).alloc o2).alloc o3) w2) :
 w2.heap[w.heap.size]?=some o1∧w2.heap[w.heap.size+1]?=some o2∧w2.heap[w.heap.size+1+1]?=some o3:=by
 have e3:=heap_alloc_new ((w.alloc o1).alloc o2) o3
 rw [World.size_alloc,World.size_alloc] at e3
 have h:=rows2 (w:=w) (o1:=o1) (o2:=o2) (Below.refl _ ((w.alloc o1).alloc o2))
 exact ⟨dstays hb ((Below.heap_alloc _ _ _ (by simp only [World.size_alloc];omega)).trans h.1),dstays hb ((Below.heap_alloc _ _ _ (by simp only [World.size_alloc];omega)).trans h.2),dstays hb e3⟩

theorem row_set {w:World} {g:Nat} {cs:Array Value} {t:TypeId} {fr:Nat × Nat} (h:w.heap[g]?=some (.cells cs t fr)) (i:Nat) (v:Value) :
 (w.setCell ⟨g,i,none⟩ v).heap[g]?=some (.cells (cs.setIfInBounds i v) t fr):=by
 simp [World.setCell,Array.getElem?_modify,h]

theorem row_far {w:World} {g:Nat} {o:Obj} (h:w.heap[g]?=some o) (p:Addr) (v:Value) (hne:g≠p.block):(w.setCell p v).heap[g]?=some o:=(Below.heap_setCell w p v g hne).trans h

theorem size_set (w:World) (p:Addr) (v:Value):(w.setCell p v).heap.size=w.heap.size:=by simp [World.setCell]

theorem dev_size:(Tryz.prog.info? 27).map (·.size)=some 6:=by kernel_rfl

def put6 (w:World) (g:Nat) (x0 x1 x2 x3 x4 x5:Value):World:=(((((w.setCell ⟨g,0,none⟩ x0).setCell ⟨g,1,none⟩ x1).setCell ⟨g,2,none⟩ x2).setCell ⟨g,3,none⟩ x3).setCell ⟨g,4,none⟩ x4).setCell ⟨g,5,none⟩ x5

theorem row_put6 {w:World} {g:Nat} {a b c d e f:Value} {t:TypeId} {fr:Nat × Nat} (h:w.heap[g]?=some (.cells #[a,b,c,d,e,f] t fr)) (x0 x1 x2 x3 x4 x5:Value):(put6 w g x0 x1 x2 x3 x4 x5).heap[g]?=some (.cells #[x0,x1,x2,x3,x4,x5] t fr) :=
 row_set (row_set (row_set (row_set (row_set (row_set h 0 x0) 1 x1) 2 x2) 3 x3) 4 x4) 5 x5

theorem size_put6 (w:World) (g:Nat) (x0 x1 x2 x3 x4 x5:Value):(put6 w g x0 x1 x2 x3 x4 x5).heap.size=w.heap.size:=by
 unfold put6
 simp only [size_set]

theorem below_put6 {B:Nat} {v w:World} (h:Below B v w) {g:Nat} (hg:B≤g) (x0 x1 x2 x3 x4 x5:Value):Below B v (put6 w g x0 x1 x2 x3 x4 x5) :=
 (((((h.setCell (by exact hg) x0).setCell (by exact hg) x1).setCell (by exact hg) x2).setCell (by exact hg) x3).setCell (by exact hg) x4).setCell (by exact hg) x5

theorem Fam.put6 {B E:Nat} {w:World} {L:List FRow} (h:Fam B E w L) (g:Nat) (hg:g < B∨E≤g) (x0 x1 x2 x3 x4 x5:Value):Fam B E (put6 w g x0 x1 x2 x3 x4 x5) L :=
 (((((h.set ⟨g,0,none⟩ x0 hg).set ⟨g,1,none⟩ x1 hg).set ⟨g,2,none⟩ x2 hg).set ⟨g,3,none⟩ x3 hg).set ⟨g,4,none⟩ x4 hg).set ⟨g,5,none⟩ x5 hg

theorem own_empty8 (w:World) (base:Nat) (hb:base≤w.heap.size) (o:Obj) (ho:o=.cells #[] 5 (0,0)):(w.alloc o).ownsRow base 5 1 (.slice (some ⟨w.heap.size,0,none⟩) 0 0) 0 []:=by
 subst ho
 exact World.ownsRow_lit w #[] 0 hb (by unfold maxLen;omega) rfl

theorem wpList_app8 {ops:Array Oper} {rest:List Oper} {o:Oper} {a:Act} {Q:Exit→Act→World→Prop} {w:World} (hgd:o.guard=none) (s x:Operand)
 (ho:o.op=.call { callee:=.builtin .append,args:=#[s,x],argTypes:=#[22,22] }) (base g:Nat) (hs:a.eval s=.slice (some ⟨g,0,none⟩) 0 0) (hown:w.ownsRow base 5 1 (.slice (some ⟨g,0,none⟩) 0 0) 0 [])
 (ad:Option Addr) (m c:Nat) (zs:List Int) (hx:a.eval x=.slice ad m c) (hz:zs.length=m) (hm:m≤1048576) (hsl:Sl .u8 w ad zs) (hbase:base≤w.heap.size)
 (h:∀ a' c' w',w'.ownsRow base 5 1 (.slice a' m c') m (zs.map (Value.int .u8))→w.grownBy w' (some g)→wpList Tryz.prog ops Q rest (a.put o.dst (.slice a' m c')) w'):wpList Tryz.prog ops Q (o :: rest) a w:=by
 obtain ⟨i0,hi,hz0,hz1,hz2⟩:=info_parts Tryz.info5
 cases ad with
 | none =>
   have hm0:m=0:=by
    rcases Nat.eq_zero_or_pos m with h0 | h0
    ·exact h0
    ·obtain ⟨b,off,e,_⟩:=hsl 0 (by omega)
     cases e
   subst hm0
   have hzn:zs=[]:=List.length_eq_zero_iff.1 hz
   subst hzn
   refine wpList_plain hgd fun K hK=>?_
   have hr:=run_append_room_src (P:=Tryz.prog) w 22 22 o.type 5 i0 Tryz.underlying22 hi g 0 0 0 (.slice none 0 c) 0 [] (Src.ofNil w Tryz.underlying22 c) (by omega) (fun j hj=>by simp at hj) (fun j hj=>by simp at hj)
   unfold Oper.wp execOp
   simp only [ho,resolve,invoke,builtin,Sem.run_bind,Sem.run_pure,Result.andThen_ok,List.map_toArray,List.map_cons,List.map_nil,hs,hx,hr]
   exact hK _ _ (h _ _ w hown ⟨rfl,rfl,rfl,Nat.le_refl _,fun _ _ _=>rfl⟩)
 | some A =>
   have hnews:∀ j u,(zs.map (Value.int .u8))[j]?=some u→w.cell? (A.add j)=some u:=by
    intro j u hu
    have hj:j < zs.length:=by
     rcases Nat.lt_or_ge j zs.length with h | h
     ·exact h
     ·rw [List.getElem?_eq_none (by simpa using h)] at hu;cases hu
    obtain ⟨b,off,e,_,hc⟩:=hsl j hj
    cases e
    rw [adds,hc]
    rw [List.getElem?_map,List.getElem?_eq_getElem hj] at hu
    rw [List.getD_eq_getElem?_getD,List.getElem?_eq_getElem hj]
    exact hu
   refine wpList_append_own _ hgd s x 22 ho base 5 i0 (.int .u8 0) 1 1 Tryz.underlying22 hi hz0 hz1 hz2 rfl (by decide) _ 0 [] hs hown A m c (zs.map (Value.int .u8)) hx (by rw [List.length_map,hz];omega) hnews (ints_oneCell _ _) (by unfold maxLen;omega) (by omega) hbase ?_
   intro v' w' h1 h2 h3
   simp only [Nat.zero_add,List.nil_append] at h1
   have hv:∃ a' c',v'=.slice a' m c':=by
    rcases h1.2 with ⟨e,e0⟩ | ⟨g',cap,cur,e,_⟩
    ·exact ⟨none,0,by rw [e,e0]⟩
    ·exact ⟨_,_,e⟩
   obtain ⟨a',c',rfl⟩:=hv
   exact h a' c' w' h1 h2

structure DV where
 t:Int
 cm:Int
 so:Bool
 xs:List Int
 ys:List Int
 ir:Int

def zeroD:DV:=⟨0,0,false,[],[],0⟩

def dvc (D:DV) (a1:Option Addr) (c1:Nat) (a2:Option Addr) (c2:Nat):Array Value:=#[.int .u64 D.t,.int .u64 D.cm,.bool D.so,.slice a1 D.xs.length c1,.slice a2 D.ys.length c2,.int .i64 D.ir]

def dvF (D:DV) (a1:Option Addr) (c1:Nat) (a2:Option Addr) (c2:Nat):List FRow:=devF a1 D.xs.length c1 D.xs a2 D.ys.length c2 D.ys

def bytesOk (D:DV):Prop:=(∀ y ∈ D.xs,(Lit.int .u8 y).wf=true)∧∀ y ∈ D.ys,(Lit.int .u8 y).wf=true

def okD (n1 n2:Nat) (ir:Int):Bool:=decide (n1≤16)&&decide (n2≤4096)&&decide (0≤ir∧ir≤1)

def sel (addr size:Int):Nat :=
 if addr=33554432∧size=4 then 0 else if addr=33570816∧size=8 then 1 else if addr=33603576∧size=8 then 2 else if addr=268435456∧size=1 then 3 else if addr=268435457∧size=1 then 4 else if addr=268435461∧size=1 then 5 else 6

def oneIf (b:Bool):Int:=if b=true then 1 else 0

def ldV (D:DV):Nat→Int × DV × Bool
 | 0=>(oneIf D.so,D,true)
 | 1=>(D.cm,D,true)
 | 2=>(D.t,D,true)
 | 3=>(D.xs.getD 0 0,⟨D.t,D.cm,D.so,D.xs.drop 1,D.ys,D.ir⟩,true)
 | 4=>(IntKind.u64.wrap D.ir,D,true)
 | 5=>(IntKind.u64.wrap (32+oneIf (decide (0 < D.xs.length))),D,true)
 | _=>(0,zeroD,false)

def stV (D:DV) (x:Int):Nat→DV × Bool
 | 0=>(⟨D.t,D.cm,bits .and .u64 x 1==1,D.xs,D.ys,D.ir⟩,true)
 | 1=>(⟨D.t,x,D.so,D.xs,D.ys,D.ir⟩,true)
 | 2=>(⟨x,D.cm,D.so,D.xs,D.ys,D.ir⟩,true)
 | 3=>(⟨D.t,D.cm,D.so,D.xs,if D.ys.length < 4096 then D.ys ++ [IntKind.u8.wrap x] else D.ys,D.ir⟩,true)
 | 4=>(⟨D.t,D.cm,D.so,D.xs,D.ys,wrap64 (bits .and .u64 x 1)⟩,true)
 | 5=>(D,true)
 | _=>(zeroD,false)

def linesV (D:DV):Int:=IntKind.u64.wrap (IntKind.u64.wrap (IntKind.u64.wrap (8*oneIf D.so)+IntKind.u64.wrap (128*oneIf (decide (D.cm≤D.t))))+IntKind.u64.wrap (2048*oneIf ((D.ir==1)&&decide (0 < D.xs.length))))

def linesD (D:DV):Int:=if okD D.xs.length D.ys.length D.ir=true then linesV D else 0

theorem sel_cases (addr size:Int) (P:Nat→Prop) (h0:addr=33554432→size=4→P 0) (h1:addr=33570816→size=8→P 1) (h2:addr=33603576→size=8→P 2) (h3:addr=268435456→size=1→P 3) (h4:addr=268435457→size=1→P 4) (h5:addr=268435461→size=1→P 5)
 (h6:(addr=33554432→¬ size=4)→(addr=33570816→¬ size=8)→(addr=33603576→¬ size=8)→(addr=268435456→¬ size=1)→(addr=268435457→¬ size=1)→(addr=268435461→¬ size=1)→P 6):P (sel addr size):=by
 unfold sel
 split
 ·rename_i h;exact h0 h.1 h.2
 ·rename_i k0
  split
  ·rename_i h;exact h1 h.1 h.2
  ·rename_i k1
   split
   ·rename_i h;exact h2 h.1 h.2
   ·rename_i k2
    split
    ·rename_i h;exact h3 h.1 h.2
    ·rename_i k3
     split
     ·rename_i h;exact h4 h.1 h.2
     ·rename_i k4
      split
      ·rename_i h;exact h5 h.1 h.2
      ·rename_i k5
       exact h6 (fun a b=>k0 ⟨a,b⟩) (fun a b=>k1 ⟨a,b⟩) (fun a b=>k2 ⟨a,b⟩) (fun a b=>k3 ⟨a,b⟩) (fun a b=>k4 ⟨a,b⟩) (fun a b=>k5 ⟨a,b⟩)

theorem fam_zero (B E:Nat) (w:World):Fam B E w (dvF zeroD none 0 none 0):=by
 refine ⟨fun r hr=>?_,fun r hr k e=>?_,?_⟩
 ·simp only [dvF,devF,List.mem_cons,List.not_mem_nil,or_false] at hr
  rcases hr with rfl | rfl
  ·exact ⟨rfl,.inl ⟨rfl,rfl⟩⟩
  ·exact ⟨rfl,.inl ⟨rfl,rfl⟩⟩
 ·simp only [dvF,devF,List.mem_cons,List.not_mem_nil,or_false] at hr
  rcases hr with rfl | rfl
  ·cases e
  ·cases e
 ·exact List.pairwise_cons.2 ⟨fun s hs k e=>(by cases e),List.pairwise_singleton _ _⟩

theorem Fam.newIn {B E:Nat} {w:World} {a1:Option Addr} {n1 c1:Nat} {xs:List Int} {a2:Option Addr} {n2 c2:Nat} {ys:List Int} (h:Fam B E w (devF a1 n1 c1 xs a2 n2 c2 ys)) (a:Option Addr) (n c:Nat) (zs:List Int) (base E':Nat) (ho:w.ownsRow base 5 1 (.slice a n c) n (zs.map (Value.int .u8))) (h1:E≤base) (h2:B≤base) (h3:w.heap.size≤E') (h4:E≤E'):Fam B E' w (devF a n c zs a2 n2 c2 ys):=by
 have t:Fam B E w [bRow a2 n2 c2 ys]:=⟨fun r hr=>h.own r (List.mem_cons_of_mem _ hr),fun r hr=>h.hi r (List.mem_cons_of_mem _ hr),(List.pairwise_cons.1 h.ne).2⟩
 exact t.cons (bRow a n c zs) base E' ho h1 h2 h3 h4

theorem Fam.newOut {B E:Nat} {w:World} {a1:Option Addr} {n1 c1:Nat} {xs:List Int} {a2:Option Addr} {n2 c2:Nat} {ys:List Int} (h:Fam B E w (devF a1 n1 c1 xs a2 n2 c2 ys)) (a:Option Addr) (n c:Nat) (zs:List Int) (base E':Nat) (ho:w.ownsRow base 5 1 (.slice a n c) n (zs.map (Value.int .u8))) (h1:E≤base) (h2:B≤base) (h3:w.heap.size≤E') (h4:E≤E'):Fam B E' w (devF a1 n1 c1 xs a n c zs):=by
 have t:Fam B E w [bRow a1 n1 c1 xs]:=⟨fun r hr=>h.own r (by rw [List.mem_singleton.1 hr];exact List.mem_cons_self ..),fun r hr=>h.hi r (by rw [List.mem_singleton.1 hr];exact List.mem_cons_self ..),List.pairwise_singleton _ _⟩
 exact t.snoc (bRow a n c zs) base E' ho h1 h2 h3 h4

theorem results_tct8 {P:Program} {fn:Func} {s p u:Tmp} {ty:TypeId} (h:fn.results=#[.tmp s,.cell p ty,.tmp u]) (tmps:Array Value) (w:World) (g:Nat) (t:TypeId) (cs:Array Value) (fr:Nat × Nat) (d:TypeDesc)
 (hp:tmps.getD p undef=.pointer (some ⟨g,0,none⟩)) (hg:w.heap[g]?=some (.cells cs t fr))
 (hu:P.underlying ty=some d) (hd:(match d with | .struct _ | .array _ _=>true | _=>false)=true) (hi:(P.info? ty).map (·.size)=some cs.size) :
 (results fn tmps).run P w=.ok (.tuple #[tmps.getD s undef,.agg cs,tmps.getD u undef]) w:=by
 have h1:(results fn tmps).run P w=((asAddr (tmps.getD p undef)).run P w).andThen fun a w₁=>((loadVar ty a).run P w₁).andThen fun v w₂=>.ok (.tuple #[tmps.getD s undef,v,tmps.getD u undef]) w₂:=by
  simp only [results,h]
  simp [Sem.run_bind,Result.andThen]
 rw [h1,hp]
 simp [asAddr,run_loadVar_row w g t ty cs fr d hg hu hd hi]

theorem results_ct8 {P:Program} {fn:Func} {p u:Tmp} {ty:TypeId} (h:fn.results=#[.cell p ty,.tmp u]) (tmps:Array Value) (w:World) (g:Nat) (t:TypeId) (cs:Array Value) (fr:Nat × Nat) (d:TypeDesc)
 (hp:tmps.getD p undef=.pointer (some ⟨g,0,none⟩)) (hg:w.heap[g]?=some (.cells cs t fr))
 (hu:P.underlying ty=some d) (hd:(match d with | .struct _ | .array _ _=>true | _=>false)=true) (hi:(P.info? ty).map (·.size)=some cs.size) :
 (results fn tmps).run P w=.ok (.tuple #[.agg cs,tmps.getD u undef]) w:=by
 have h1:(results fn tmps).run P w=((asAddr (tmps.getD p undef)).run P w).andThen fun a w₁=>((loadVar ty a).run P w₁).andThen fun v w₂=>.ok (.tuple #[v,tmps.getD u undef]) w₂:=by
  simp only [results,h]
  simp [Sem.run_bind,Result.andThen]
 rw [h1,hp]
 simp [asAddr,run_loadVar_row w g t ty cs fr d hg hu hd hi]

theorem infoW:(Tryz.prog.info? 24).map (fun i=>(i.zero,i.size,i.bytes))=some (some (.int .u64 0),1,8):=by kernel_rfl

theorem map_set_u64 (zs:List Int) (i:Nat) (y:Int):(zs.map (Value.int .u64)).set i (.int .u64 y)=(zs.set i y).map (Value.int .u64):=by
 rw [List.map_set]

end Go.Proofs.YtbajeckeeekhnaaGreat
