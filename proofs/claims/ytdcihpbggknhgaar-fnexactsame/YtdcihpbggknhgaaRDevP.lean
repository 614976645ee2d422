/- Devices, in plain numbers. -/
import Derived.Test.YtdcihpbggknhgaaRDevC
namespace Go.Proofs.YtdcihpbggknhgaaR
open Go.RowKit
set_option linter.unusedVariables false

structure DV where
  t : Int
  cm : Int
  so : Bool
  xs : List Int
  ys : List Int
  ir : Int

def zeroD : DV := ⟨0, 0, false, [], [], 0⟩

def dvc (D : DV) (a1 : Option Addr) (c1 : Nat) (a2 : Option Addr) (c2 : Nat) : Array Value := #[.int .u64 D.t, .int .u64 D.cm, .bool D.so, .slice a1 D.xs.length c1, .slice a2 D.ys.length c2, .int .i64 D.ir]

/-- The memory of a device. -/
def dvF (D : DV) (a1 : Option Addr) (c1 : Nat) (a2 : Option Addr) (c2 : Nat) : List FRow := devF a1 D.xs.length c1 D.xs a2 D.ys.length c2 D.ys

/-- What a device's bytes must be. -/
def bytesOk (D : DV) : Prop := (∀ y ∈ D.xs, (Lit.int .u8 y).wf = true) ∧ ∀ y ∈ D.ys, (Lit.int .u8 y).wf = true

def okD (n1 n2 : Nat) (ir : Int) : Bool := decide (n1 ≤ 16) && decide (n2 ≤ 4096) && decide (0 ≤ ir ∧ ir ≤ 1)

/-- Which of the six places is meant; 6: none. -/
def sel (addr size : Int) : Nat :=
  if addr = 33554432 ∧ size = 4 then 0 else if addr = 33570816 ∧ size = 8 then 1 else if addr = 33603576 ∧ size = 8 then 2 else if addr = 268435456 ∧ size = 1 then 3 else if addr = 268435457 ∧ size = 1 then 4 else if addr = 268435461 ∧ size = 1 then 5 else 6

def oneIf (b : Bool) : Int := if b = true then 1 else 0

def ldV (D : DV) : Nat → Int × DV × Bool
  | 0 => (oneIf D.so, D, true)
  | 1 => (D.cm, D, true)
  | 2 => (D.t, D, true)
  | 3 => (D.xs.getD 0 0, ⟨D.t, D.cm, D.so, D.xs.drop 1, D.ys, D.ir⟩, true)
  | 4 => (IntKind.u64.wrap D.ir, D, true)
  | 5 => (IntKind.u64.wrap (32 + oneIf (decide (0 < D.xs.length))), D, true)
  | _ => (0, zeroD, false)

def stV (D : DV) (x : Int) : Nat → DV × Bool
  | 0 => (⟨D.t, D.cm, bits .and .u64 x 1 == 1, D.xs, D.ys, D.ir⟩, true)
  | 1 => (⟨D.t, x, D.so, D.xs, D.ys, D.ir⟩, true)
  | 2 => (⟨x, D.cm, D.so, D.xs, D.ys, D.ir⟩, true)
  | 3 => (⟨D.t, D.cm, D.so, D.xs, if D.ys.length < 4096 then D.ys ++ [IntKind.u8.wrap x] else D.ys, D.ir⟩, true)
  | 4 => (⟨D.t, D.cm, D.so, D.xs, D.ys, wrap64 (bits .and .u64 x 1)⟩, true)
  | 5 => (D, true)
  | _ => (zeroD, false)

def linesV (D : DV) : Int := IntKind.u64.wrap (IntKind.u64.wrap (IntKind.u64.wrap (8 * oneIf D.so) + IntKind.u64.wrap (128 * oneIf (decide (D.cm ≤ D.t)))) + IntKind.u64.wrap (2048 * oneIf ((D.ir == 1) && decide (0 < D.xs.length))))

def loadD (D : DV) (addr size : Int) : Int × DV × Bool := if okD D.xs.length D.ys.length D.ir = true then ldV D (sel addr size) else (0, zeroD, false)

def storeD (D : DV) (addr size x : Int) : DV × Bool := if okD D.xs.length D.ys.length D.ir = true then stV D x (sel addr size) else (zeroD, false)

def linesD (D : DV) : Int := if okD D.xs.length D.ys.length D.ir = true then linesV D else 0

def tickD (D : DV) (n : Int) : DV := if (okD D.xs.length D.ys.length D.ir && !decide (n < 0)) = true then ⟨IntKind.u64.wrap (D.t + IntKind.u64.wrap n), D.cm, D.so, D.xs, D.ys, D.ir⟩ else zeroD

def byteD (D : DV) (b : Int) : DV := if okD D.xs.length D.ys.length D.ir = true then ⟨D.t, D.cm, D.so, if D.xs.length < 16 then D.xs ++ [b] else D.xs, D.ys, D.ir⟩ else zeroD

theorem sel_cases (addr size : Int) (P : Nat → Prop) (h0 : addr = 33554432 → size = 4 → P 0) (h1 : addr = 33570816 → size = 8 → P 1) (h2 : addr = 33603576 → size = 8 → P 2) (h3 : addr = 268435456 → size = 1 → P 3) (h4 : addr = 268435457 → size = 1 → P 4) (h5 : addr = 268435461 → size = 1 → P 5)
    (h6 : (addr = 33554432 → ¬ size = 4) → (addr = 33570816 → ¬ size = 8) → (addr = 33603576 → ¬ size = 8) → (addr = 268435456 → ¬ size = 1) → (addr = 268435457 → ¬ size = 1) → (addr = 268435461 → ¬ size = 1) → P 6) : P (sel addr size) := by
  unfold sel
  split
  · rename_i h; exact h0 h.1 h.2
  · rename_i k0
    split
    · rename_i h; exact h1 h.1 h.2
    · rename_i k1
      split
      · rename_i h; exact h2 h.1 h.2
      · rename_i k2
        split
        · rename_i h; exact h3 h.1 h.2
        · rename_i k3
          split
          · rename_i h; exact h4 h.1 h.2
          · rename_i k4
            split
            · rename_i h; exact h5 h.1 h.2
            · rename_i k5
              exact h6 (fun a b => k0 ⟨a, b⟩) (fun a b => k1 ⟨a, b⟩) (fun a b => k2 ⟨a, b⟩) (fun a b => k3 ⟨a, b⟩) (fun a b => k4 ⟨a, b⟩) (fun a b => k5 ⟨a, b⟩)

theorem fam_zero (B E : Nat) (w : World) : Fam B E w (dvF zeroD none 0 none 0) := by
  refine ⟨fun r hr => ?_, fun r hr k e => ?_, ?_⟩
  · simp only [dvF, devF, List.mem_cons, List.not_mem_nil, or_false] at hr
    rcases hr with rfl | rfl
    · exact ⟨rfl, .inl ⟨rfl, rfl⟩⟩
    · exact ⟨rfl, .inl ⟨rfl, rfl⟩⟩
  · simp only [dvF, devF, List.mem_cons, List.not_mem_nil, or_false] at hr
    rcases hr with rfl | rfl
    · cases e
    · cases e
  · exact List.pairwise_cons.2 ⟨fun s hs k e => (by cases e), List.pairwise_singleton _ _⟩

/-- What came in is laid anew; what goes out stays. -/
theorem Fam.newIn {B E : Nat} {w : World} {a1 : Option Addr} {n1 c1 : Nat} {xs : List Int} {a2 : Option Addr} {n2 c2 : Nat} {ys : List Int} (h : Fam B E w (devF a1 n1 c1 xs a2 n2 c2 ys)) (a : Option Addr) (n c : Nat) (zs : List Int) (base E' : Nat) (ho : w.ownsRow base 5 1 (.slice a n c) n (zs.map (Value.int .u8))) (h1 : E ≤ base) (h2 : B ≤ base) (h3 : w.heap.size ≤ E') (h4 : E ≤ E') : Fam B E' w (devF a n c zs a2 n2 c2 ys) := by
  have t : Fam B E w [bRow a2 n2 c2 ys] := ⟨fun r hr => h.own r (List.mem_cons_of_mem _ hr), fun r hr => h.hi r (List.mem_cons_of_mem _ hr), (List.pairwise_cons.1 h.ne).2⟩
  exact t.cons (bRow a n c zs) base E' ho h1 h2 h3 h4

theorem Fam.newOut {B E : Nat} {w : World} {a1 : Option Addr} {n1 c1 : Nat} {xs : List Int} {a2 : Option Addr} {n2 c2 : Nat} {ys : List Int} (h : Fam B E w (devF a1 n1 c1 xs a2 n2 c2 ys)) (a : Option Addr) (n c : Nat) (zs : List Int) (base E' : Nat) (ho : w.ownsRow base 5 1 (.slice a n c) n (zs.map (Value.int .u8))) (h1 : E ≤ base) (h2 : B ≤ base) (h3 : w.heap.size ≤ E') (h4 : E ≤ E') : Fam B E' w (devF a1 n1 c1 xs a n c zs) := by
  have t : Fam B E w [bRow a1 n1 c1 xs] := ⟨fun r hr => h.own r (by rw [List.mem_singleton.1 hr]; exact List.mem_cons_self ..), fun r hr => h.hi r (by rw [List.mem_singleton.1 hr]; exact List.mem_cons_self ..), List.pairwise_singleton _ _⟩
  exact t.snoc (bRow a n c zs) base E' ho h1 h2 h3 h4

theorem results_tct8 {P : Program} {fn : Func} {s p u : Tmp} {ty : TypeId} (h : fn.results = #[.tmp s, .cell p ty, .tmp u]) (tmps : Array Value) (w : World) (g : Nat) (t : TypeId) (cs : Array Value) (fr : Nat × Nat) (d : TypeDesc)
    (hp : tmps.getD p undef = .pointer (some ⟨g, 0, none⟩)) (hg : w.heap[g]? = some (.cells cs t fr))
    (hu : P.underlying ty = some d) (hd : (match d with | .struct _ | .array _ _ => true | _ => false) = true) (hi : (P.info? ty).map (·.size) = some cs.size) :
    (results fn tmps).run P w = .ok (.tuple #[tmps.getD s undef, .agg cs, tmps.getD u undef]) w := by
  have h1 : (results fn tmps).run P w = ((asAddr (tmps.getD p undef)).run P w).andThen fun a w₁ => ((loadVar ty a).run P w₁).andThen fun v w₂ => .ok (.tuple #[tmps.getD s undef, v, tmps.getD u undef]) w₂ := by
    simp only [results, h]
    simp [Sem.run_bind, Result.andThen]
  rw [h1, hp]
  simp [asAddr, run_loadVar_row w g t ty cs fr d hg hu hd hi]

theorem results_ct8 {P : Program} {fn : Func} {p u : Tmp} {ty : TypeId} (h : fn.results = #[.cell p ty, .tmp u]) (tmps : Array Value) (w : World) (g : Nat) (t : TypeId) (cs : Array Value) (fr : Nat × Nat) (d : TypeDesc)
    (hp : tmps.getD p undef = .pointer (some ⟨g, 0, none⟩)) (hg : w.heap[g]? = some (.cells cs t fr))
    (hu : P.underlying ty = some d) (hd : (match d with | .struct _ | .array _ _ => true | _ => false) = true) (hi : (P.info? ty).map (·.size) = some cs.size) :
    (results fn tmps).run P w = .ok (.tuple #[.agg cs, tmps.getD u undef]) w := by
  have h1 : (results fn tmps).run P w = ((asAddr (tmps.getD p undef)).run P w).andThen fun a w₁ => ((loadVar ty a).run P w₁).andThen fun v w₂ => .ok (.tuple #[v, tmps.getD u undef]) w₂ := by
    simp only [results, h]
    simp [Sem.run_bind, Result.andThen]
  rw [h1, hp]
  simp [asAddr, run_loadVar_row w g t ty cs fr d hg hu hd hi]

end Go.Proofs.YtdcihpbggknhgaaR
