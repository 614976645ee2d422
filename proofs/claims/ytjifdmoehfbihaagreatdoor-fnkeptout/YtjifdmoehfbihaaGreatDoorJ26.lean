/- Own lemmas. -/
import Derived.Test.YtjifdmoehfbihaaGreatDoorAuj
import Derived.Test.YtjifdmoehfbihaaGreatDoorJ25
set_option maxRecDepth 100000
set_option maxHeartbeats 6400000
namespace Go.Proofs.YtjifdmoehfbihaaGreatDoor
open Go.RowKit Tryz
open IntKind renaming u64->Uz
set_option linter.unusedVariables false
variable {w g n a m:Nat} {M A W:World} {b:Option Addr} {B:List Int} {k:MV} {r:MA} {p:IntKind} {j:TypeId} {v:Int} (t:MV) (N c:MA) (d:List Int) (l:World) (x C:Nat)
theorem Gv:∃ i,prog.info? 22=some i/\i.zero=some (.u 0)/\i.size=1:=by
 have h:(prog.info? 22).map (λi=>(i.zero,i.size))=some (some (.u 0),1):=ba
 cases a:prog.info? 22 with
 | none=>rw [a] at h;cases h
 | some i=>rw [a] at h;simp at h;exact ⟨i,rfl,h.1,h.2⟩
theorem O4 {wr:World} (h:Rm M g b n w A a m wr) (hm:m<=1048576) (f k:Nat) (x:Int) (hk:k<=8) (u:f+k<=m) (hx:U x): Calls prog 119 #[.slice (some ⟨a,0,none⟩) m m,.u (2147483648+(f:Int)),.i (k:Int),.u x] wr λe p=>e=.returned (.tuple #[])/\Rm M g b n w A a m p/\wr.grownBy p (some a):=by
 obtain ⟨zs,B,cap,c,v,t⟩:=h;refine (yv a m m f k _ zs x wr hm hk u hx.1 (by have:=hx.2;omega) cap).mono λe p ⟨r,s,d⟩=>⟨r,⟨jT zs f x k,IK zs B f x k,s,?_,v,t⟩,d⟩;have C:M.heap.size<=A.heap.size:=by
  rcases Nat.lt_or_ge A.heap.size M.heap.size with q|q;·have:=c.1.new;omega
  ·exact q
 obtain ⟨i,y,z,j⟩:=c.1.row;have l:=(Array.getElem?_eq_some_iff.1 j).1;refine ⟨⟨c.1.new,?_,i,y,z,(d.block g l bv).trans j⟩,⟨d.os.trans c.2.os,d.tape.trans c.2.tape,d.output.trans c.2.output,Nat.le_trans c.2.size d.size,λk hk o=>(d.block k (Nat.lt_of_lt_of_le hk c.2.size) bv).trans (c.2.block k hk o)⟩⟩;exact c.1.below.grown d c.1.below.size (by intro k hk;cases hk;omega)
theorem Gx:U 0:=⟨bc,bc⟩
theorem Sz:U ((List.replicate x (0:Int)).getD C 0):=by simp only [List.getD,List.getElem?_replicate];split<;>exact ⟨cp,cp⟩
theorem O5 (c:∀ y ∈ d,(Lit.int .u8 y).wf=true) (hl:d.length=4096\/d.length=8192):Mf (Bh d):=by
 have a:bf d.length=true:=by rcases hl with e|e<;>rw [e]<;>decide
 unfold Bh;rw [if_pos a];refine ⟨by simp [cL,nY],λj=>Sz 32 j,by simp [cL,nY],?_,hl,c,⟨Gx,Gx,.inl rfl,⟨λy b=>(nomatch b),λy b=>(nomatch b)⟩,Nat.zero_le _,Nat.zero_le _⟩,(show U 2147483648 from ⟨bc,bc⟩),Gx,.inr (.inr rfl)⟩;exact GX (Sz 22) 9 (aT _)
theorem Up (D:DV) (a1:Option Addr) (c1:Nat) (a2:Option Addr) (c2:Nat):((aj t N).toList.take 5++(gh D a1 c1 a2 c2).toList++(aj t N).toList.drop (5+(gh D a1 c1 a2 c2).size)).toArray=aj (dc t D) (kC N a1 c1 a2 c2):=rfl
theorem Uq:(do pure (.value (<- Instr.buildSlice 39 2 #[(0,.i 0),(1,.i 1)])):Sem Next).run prog l=.ok (.value (.slice (some ⟨l.heap.size,0,none⟩) 2 2)) (l.alloc (.cells #[.i 0,.i 1] 2)):=by obtain ⟨c,b,e⟩:=Option.map_eq_some_iff.1 (show (prog.info? 2).map (λi=>(i.zero,i.size))=some (some (.i 0),1) by kernel_rfl);simp only [Prod.mk.injEq] at e;obtain ⟨a,e2⟩:=e;have:=run_buildSlice (P:=prog) l 39 2 2 #[(0,.i 0),(1,.i 1)] #[.i 0,.i 1] c (.i 0) underlying39 b a ph ph (by rw [e2];kernel_rfl);simp [this]
def Dj (w0:World) (g:Nat) (a:Option Addr) (n cap:Nat) (w:World) (m j:Nat):Prop:=∀ M A W,Dm w0 g a n cap w w.heap.size m M A W->Wg prog (λ_=>True) (bodyPost prog Tryz.f100 λe b=>∃ (M:MV) (A:MA),e=.returned (.agg (aj M A))/\Hid (Mf M)/\Hid (bz w.heap.size b.heap.size b (aH M A))/\Hid (Cs w0 g a n cap w b)) Tryz.f100.ntmps [.code (aw j (aM Tryz.f100))] [(0,.p g 0,0),(2,.p w.heap.size 0,0),(8,.p m 0,1)] W
set_option maxRecDepth 100000
theorem Dm.eng {P:Program} {fn:Func} {Rs:Ending->World->Prop}:n6 P (Dm M g b n w A a m k r) (Dm M g b n w A a m k r) [⟨m,aj k r,[]⟩] true (bodyPost P fn Rs):=
 ⟨λ_ h=>h,λW h x w0=>by rw [List.mem_singleton.1 w0];exact ⟨_,_,h.mp.row⟩,λ_ W h=>h.below (Below.refl _ _).drew,cJ⟩
theorem Dm.rows (h:Dm M g b n w A a m k r W):iq W [⟨m,aj k r,[]⟩]:=⟨⟨_,_,h.mp.row⟩,trivial⟩
theorem Dm.putC (h:Dm M g b n w A a m k r W) (w0:Nat) (c:r.ac=some ⟨w0,0,none⟩) (i:Nat) (f:i<22) (hv:U v):(do Instr.storeAt 22 (.p w0 i) (.u v);pure Next.skip:Sem Next).run prog W=.ok .skip (W.setCell ⟨w0,i,none⟩ (.u v))/\Dm M g b n w A a m (cM k (k.cs.set i v)) r (W.setCell ⟨w0,i,none⟩ (.u v)):=by obtain ⟨j,_,e,_,_,d⟩:=h.atC;rw [c] at e;cases e;exact ⟨iD (d i f) ba rfl,h.setC w0 c i hv⟩
theorem Dm.putX (h:Dm M g b n w A a m k r W) (w0:Nat) (c:r.ax=some ⟨w0,0,none⟩) (i:Nat) (f:i<32) (hv:U v):(do Instr.storeAt 22 (.p w0 i) (.u v);pure Next.skip:Sem Next).run prog W=.ok .skip (W.setCell ⟨w0,i,none⟩ (.u v))/\Dm M g b n w A a m (xM k (k.x.set i v)) r (W.setCell ⟨w0,i,none⟩ (.u v)):=by obtain ⟨j,_,e,_,_,d⟩:=h.atX;rw [c] at e;cases e;exact ⟨iD (d i f) ba rfl,h.setX w0 c i hv⟩
theorem VJ:Dj M g b n w A m 17:=by intro w0 cap W h;refine ct h.rows {} 40 (aD (g:=A.heap.size) (t:=32) (ty:=32) (cells:=aj w0 cap) h.res ba rfl (rK w0 cap)) ?_;obtain ⟨f,k⟩:=h.outM (aj w0 cap);exact gz (R:=[]) trivial {} 40 λa c=>⟨_,results_cell_row rfl a.tmps _ A.heap.size 32 (aj w0 cap) (0,0) _ (c.slot ba) (setRow_heap _ _ _ _ _ _ h.res) underlying32 rfl ba,w0,cap,rfl,h.fit,f,k⟩
theorem Vx:Dj M g b n w A m 16:=by intro w0 cap W h;refine aO (R:=[]) trivial {} 40 (yD w0 cap (A.heap.size+1) m W h.fit.cs h.fit.len h.mp) ?_;rintro e V ⟨rfl,c,a⟩;refine ⟨_,0,rfl,?_⟩;refine an (R:=[]) trivial {} 1 ?_;exact af _ _ (VJ _ _ _ (h.step (h.mp.under a) c (OZ h.fit)))
theorem Vy (a:Code M b n B):Dj M g b n w A m 15:=by
 intro w0 cap W h;refine aO (R:=[]) trivial {} 40 (bG a 12 bc W h.cur) ?_;rintro e V ⟨c,rfl,d⟩;refine ⟨_,0,rfl,?_⟩;replace h:=h.next d.out;cases c with
 | false =>refine an (R:=[]) trivial {} 3 ?_;exact af _ _ (Vx _ _ _ h)
 | true =>refine ct h.rows {} 40 (bJ (i:=13) (T:=4) (v:=.bool true) h.mp.row nn ba rfl) ?_;refine an (R:=[]) trivial {} 1 ?_;exact af _ _ (Vx _ _ _ (h.setWt true))
theorem WN (a:Code M b n B):Dj M g b n w A m 14:=by
 intro w0 cap W h;refine aO (R:=[]) trivial {} 40 (bG a 5 bc W h.cur) ?_;rintro e V ⟨c,rfl,d⟩;refine ⟨_,0,rfl,?_⟩;replace h:=h.next d.out;cases c with
 | false =>refine an (R:=[]) trivial {} 3 ?_;exact af _ _ (Vy a _ _ _ h)
 | true =>refine ct h.rows {} 40 (bJ (i:=12) (T:=4) (v:=.bool true) h.mp.row nn ba rfl) ?_;replace h:=h.setHl true;refine aO (R:=[]) trivial {} 40 (aB a 1024 bc _ h.cur) ?_;rintro e V ⟨x,rfl,f,d⟩;refine ⟨_,0,rfl,?_⟩;replace h:=h.next d.out;refine ct h.rows {} 40 (bJ (i:=11) (T:=22) (v:=.u (Uz.wrap (2147483648+Uz.wrap (8*Uz.wrap x)))) h.mp.row nn ba rfl) ?_;refine an (R:=[]) trivial {} 1 ?_;exact af _ _ (Vy a _ _ _ (h.setHd _ (aT _)))
theorem VK (a:Code M b n B):Dj M g b n w A m 13:=by
 intro w0 cap W h;refine aO (R:=[]) trivial {} 40 (bG a 6 bc W h.cur) ?_;rintro e V ⟨c,rfl,d⟩;refine ⟨_,0,rfl,?_⟩;replace h:=h.next d.out;cases c with
 | false =>refine an (R:=[]) trivial {} 3 ?_;exact af _ _ (WN a _ _ _ h)
 | true =>refine aO (R:=[]) trivial {} 40 (aB a 8 bc _ h.cur) ?_;rintro e V ⟨x,rfl,f,d⟩;refine ⟨_,0,rfl,?_⟩;replace h:=h.next d.out;refine ct h.rows {} 40 (bJ (i:=0) (T:=22) (v:=.u (Uz.wrap (2147483648+Uz.wrap (4*Uz.wrap x)))) h.mp.row nn ba rfl) ?_;refine an (R:=[]) trivial {} 1 ?_;exact af _ _ (WN a _ _ _ (h.setPc _ (aT _)))
theorem Vz (w0:Code M b n B) (h:Dm M g b n w A A.heap.size m k r W):Wg prog (λ_=>True) (bodyPost prog Tryz.f100 λe d=>∃ (k:MV) (r:MA),e=.returned (.agg (aj k r))/\Hid (Mf k)/\Hid (bz A.heap.size d.heap.size d (aH k r))/\Hid (Cs M g b n w A d)) Tryz.f100.ntmps [.code (aw 2 (Cj (aw 1 (iM (aw 12 (aM Tryz.f100)))))),.code (aw 13 (aM Tryz.f100))] [(0,.p g 0,0),(2,.p A.heap.size 0,0),(8,.p m 0,1)] W:=by
 refine aO (R:=[]) trivial {} 40 (bG w0 2 bc W h.cur) ?_;rintro e V ⟨c,rfl,i⟩;refine ⟨_,0,rfl,?_⟩;replace h:=h.next i.out;cases c with
 | false =>refine an (R:=[]) trivial {} 3 ?_;exact af _ _ (VK w0 _ _ _ h)
 | true =>refine aO (R:=[]) trivial {} 40 (yq w0 h) ?_;rintro e V ⟨rfl,N,f⟩;refine ⟨_,0,rfl,?_⟩;refine an (R:=[]) trivial {} 1 ?_;exact af _ _ (VK w0 _ _ _ f.out)
theorem WA (d:Code M b n B):Dj M g b n w A m 12:=by
 intro w0 cap W h;refine aO (R:=[]) trivial {} 40 (bG d 3 bc W h.cur) ?_;rintro e V ⟨c,rfl,l⟩;refine ⟨_,0,rfl,?_⟩;replace h:=h.next l.out;cases c with
 | false =>refine an (R:=[]) trivial {} 3 ?_;exact af _ _ (VK d _ _ _ h)
 | true =>
   refine kz (R:=[]) trivial {} 10 1 (Uq V) ?_;have C:=(Below.refl V.heap.size V).alloc (Nat.le_refl _) (.cells #[.i 0,.i 1] 2);have t:=heap_alloc_new V (.cells #[.i 0,.i 1] 2);replace h:=h.below C;generalize V.alloc (.cells #[.i 0,.i 1] 2)=z at *;have E:=(Array.getElem?_eq_some_iff.1 t).1;refine aO (R:=[]) trivial {} 40 (aB d 2 bc z h.cur) ?_;rintro e zs ⟨y,rfl,F,j⟩;refine ⟨_,0,rfl,?_⟩;have u:=j.out.keep t (by have:=l.out.1.lt;omega);replace h:=h.next j.out;have fin:∀ v:Int,v=0\/v=1->Wg prog (λ_=>True) (bodyPost prog Tryz.f100 λe r=>∃ (w0:MV) (cap:MA),e=.returned (.agg (aj w0 cap))/\Hid (Mf w0)/\Hid (bz A.heap.size r.heap.size r (aH w0 cap))/\Hid (Cs M g b n w A r)) Tryz.f100.ntmps [.code (aw 1 (Cj (aw 1 (iM (aw 12 (aM Tryz.f100)))))),.code (aw 13 (aM Tryz.f100))] [(0,.p g 0,0),(2,.p A.heap.size 0,0),(8,.p m 0,1)] (zs.setCell ⟨m,2,none⟩ (.i v)):=by
    intro v D;replace h:=h.setPr v (D.elim .inl λe=>.inr (.inl e));obtain ⟨N,s⟩:∃ N,Wz w0 v=N:=⟨_,rfl⟩;rw [s] at h;clear s;refine aO (R:=[]) trivial {} 40 (bG d 3 bc _ h.cur) ?_;rintro e V ⟨c,rfl,l⟩;refine ⟨_,0,rfl,?_⟩;replace h:=h.next l.out;cases c with
    | true =>refine an (R:=[]) trivial {} 4 ?_;exact af _ _ (Vz d h)
    | false =>obtain ⟨a,_,k,_⟩:=h.atC;obtain ⟨p,f⟩:=h.putC a k 16 bc (v:=31) ⟨bc,bc⟩;obtain ⟨q,o⟩:=f.putC a k 17 bc (v:=18014398509481983) ⟨bc,bc⟩;refine ct h.rows {ov:=[(133,kJ N.cs.length cap.cc .i64 16 k ⟨bc,pp⟩ underlying23 ba)]} 40 p ?_;refine ct f.rows {ov:=[(136,kJ (N.cs.set 16 31).length cap.cc .i64 17 k ⟨bc,by rw [List.length_set,h.fit.cs];decide⟩ underlying23 ba)]} 40 q ?_;refine an (R:=[]) trivial {} 1 ?_;exact af _ _ (Vz d o)
   have x:=λv:Int=>bJ (P:=prog) (i:=2) (T:=2) (v:=.i v) h.mp.row nn ba rfl;obtain rfl | rfl:y=0\/y=1:=ab;all_goals refine an (R:=[]) trivial {} 1 ?_
   all_goals refine aN 125 2 ?_
   ·refine ct (R:=[⟨m,aj w0 cap,[]⟩,⟨V.heap.size,#[.i 0,.i 1],[]⟩]) ⟨⟨_,_,h.mp.row⟩,⟨_,_,u⟩,trivial⟩ {} 40 (x 0) ?_;refine an (R:=[]) trivial {} 1 ?_;exact af _ _ (fin 0 (.inl rfl))
   ·refine ct (R:=[⟨m,aj w0 cap,[]⟩,⟨V.heap.size,#[.i 0,.i 1],[]⟩]) ⟨⟨_,_,h.mp.row⟩,⟨_,_,u⟩,trivial⟩ {} 40 (x 1) ?_;refine an (R:=[]) trivial {} 1 ?_;exact af _ _ (fin 1 (.inr rfl))
theorem WO (d:Code M b n B):Dj M g b n w A m 11:=by
 intro w0 cap W h;refine aO (R:=[]) trivial {} 40 (bG d 3 bc W h.cur) ?_;rintro e V ⟨c,rfl,o⟩;refine ⟨_,0,rfl,?_⟩;replace h:=h.next o.out;cases c with
 | false =>refine an (R:=[]) trivial {} 3 ?_;exact af _ _ (WA d _ _ _ h)
 | true =>obtain ⟨a,_,i,_⟩:=h.atC;obtain ⟨k,f⟩:=h.putC a i 16 bc (v:=31) ⟨bc,bc⟩;obtain ⟨l,j⟩:=f.putC a i 17 bc (v:=18014398509481983) ⟨bc,bc⟩;refine ct h.rows {ov:=[(116,kJ w0.cs.length cap.cc .i64 16 i ⟨bc,pp⟩ underlying23 ba)]} 40 k ?_;refine ct f.rows {ov:=[(119,kJ (w0.cs.set 16 31).length cap.cc .i64 17 i ⟨bc,by rw [List.length_set,h.fit.cs];decide⟩ underlying23 ba)]} 40 l ?_;refine an (R:=[]) trivial {} 1 ?_;exact af _ _ (WA d _ _ _ j)
theorem VL (d:Code M b n B):Dj M g b n w A m 10:=by
 intro w0 cap W h;refine aO (R:=[]) trivial {} 40 (bG d 2 bc W h.cur) ?_;rintro e V ⟨c,rfl,p⟩;refine ⟨_,0,rfl,?_⟩;replace h:=h.next p.out;cases c with
 | false =>refine an (R:=[]) trivial {} 3 ?_;exact af _ _ (WO d _ _ _ h)
 | true =>
   refine aJ (Dm M g b n w A A.heap.size m w0 cap) ?_;refine an (R:=[]) trivial {} 2 ?_;refine iy 2 ?_;replace h:=h.below (Below.refl V.heap.size V).drew;obtain ⟨a,_,f,_,_,i⟩:=h.atC;have j:∀ W,Dm M g b n w A A.heap.size m w0 cap W->W.cell? ⟨a,0+(4:Int).toNat,none⟩=some (.u (w0.cs.getD 4 0)):=λW k=>by obtain ⟨s,_,e,_,_,i⟩:=k.atC;rw [f] at e;cases e;exact (i 4 bc).1
   refine ae Dm.eng {ov:=[(108,kJ w0.cs.length cap.cc .i64 4 f ⟨bc,pp⟩ underlying23 ba),(109,je ⟨a,0+(4:Int).toNat,none⟩ (.u (w0.cs.getD 4 0)) underlying22 rfl j),(111,kJ w0.cs.length cap.cc .i64 4 f ⟨bc,pp⟩ underlying23 ba)]} 40 h λr l=>?_;obtain ⟨q,o⟩:=l.putC a f 4 bc (v:=bits .or .u64 (w0.cs.getD 4 0) 1) (ah _ _ _);refine ct (R:=[]) trivial {} 10 q ?_;refine an (R:=[]) trivial {} 1 ?_;exact aJ (λ_=>True) (af _ _ (WO d _ _ _ o))
theorem d9 (c:Code M b n B):Dj M g b n w A m 9:=by intro w0 cap W h;refine aJ (Dm M g b n w A A.heap.size m w0 cap) ?_;refine an (R:=[]) trivial {} 1 ?_;refine iy 2 ?_;replace h:=h.below (Below.refl W.heap.size W).drew;obtain ⟨a,_,d,_⟩:=h.atC;refine aW Dm.eng {} 30 h (λW k=>aB c 64 bc W k.cur) ?_;rintro q e r f ⟨x,rfl,s,i⟩;refine ⟨_,0,rfl,λ_=>f.next i.out,?_⟩;refine ae Dm.eng {ov:=[(101,kJ w0.cs.length cap.cc .i64 4 d ⟨bc,pp⟩ underlying23 ba)]} 40 (f.next i.out) λp j=>?_;obtain ⟨o,l⟩:=j.putC a d 4 bc (v:=Uz.wrap (2147483648+Uz.wrap (4*Uz.wrap x))) (aT _);refine ct (R:=[]) trivial {} 10 o ?_;refine an (R:=[]) trivial {} 1 ?_;exact aJ (λ_=>True) (af _ _ (VL c _ _ _ l))
theorem d8 (a:Code M b n B):Dj M g b n w A m 8:=by
 intro w0 cap W h;refine aO (R:=[]) trivial {} 40 (bG a 3 bc W h.cur) ?_;rintro e V ⟨c,rfl,k⟩;refine ⟨_,0,rfl,?_⟩;replace h:=h.next k.out;cases c with
 | false =>refine an (R:=[]) trivial {} 3 ?_;exact af _ _ (d9 a _ _ _ h)
 | true =>refine aO (R:=[]) trivial {} 40 (Bj a _ h.cur) ?_;rintro e p ⟨rfl,f⟩;obtain ⟨o,l,j,d,_⟩:=f.out;refine ⟨_,0,rfl,?_⟩;refine ct (h.next d).rows {} 40 (bJ (i:=3) (T:=23) (v:=.slice (some ⟨V.heap.size,0,none⟩) 22 22) (h.next d).mp.row nn ba rfl) ?_;refine an (R:=[]) trivial {} 1 ?_;exact af _ _ (d9 a _ _ _ (h.csrs d o l j))
theorem Ur {D:DV} {a1 a2:Option Addr} {c1 c2:Nat} (h:W.heap[m]?=some (.cells (aj k r) j (0,0))):(do Instr.storeAt 30 (.p m 5) (.agg (gh D a1 c1 a2 c2));pure Next.skip:Sem Next).run prog W=.ok .skip (W.setRow m (aj (dc k D) (kC r a1 c1 a2 c2))):=by have:=ur (P:=prog) W m 5 j 30 (aj k r) (gh D a1 c1 a2 c2) h bO (by simp [aj,gh]) (fM _ _ _ _ _);rw [Up] at this;simp [Instr.storeAt,Instr.sureAddr,this,Result.andThen]
theorem d7 (a:Code M b n B):Dj M g b n w A m 7:=by intro w0 cap W h;refine aO (R:=[]) trivial {} 40 (OS a W h.cur) ?_;rintro e V ⟨D,a1,c1,a2,c2,rfl,f,d,c⟩;refine ⟨_,0,rfl,?_⟩;refine ct (h.next c.out).rows {} 40 (Ur (D:=D) (a1:=a1) (c1:=c1) (a2:=a2) (c2:=c2) (h.next c.out).mp.row) ?_;refine an (R:=[]) trivial {} 1 ?_;exact af _ _ (d8 a _ _ _ (h.dev c.out D a1 c1 a2 c2 f.out d.out))
theorem O6 (x:Int):(do pure (.value (<- Instr.buildSlice 23 6 #[(0,.u 268435456),(1,.u 33554432),(2,.u 33603576),(3,.u 33570816),(4,.u 268435457),(5,.u x)])):Sem Next).run prog l=.ok (.value (.slice (some ⟨l.heap.size,0,none⟩) 6 6)) (l.alloc (.cells #[.u 268435456,.u 33554432,.u 33603576,.u 33570816,.u 268435457,.u x] 22)):=by obtain ⟨c,b,a,e2⟩:=Gv;have:=run_buildSlice (P:=prog) l 23 22 6 #[(0,.u 268435456),(1,.u 33554432),(2,.u 33603576),(3,.u 33570816),(4,.u 268435457),(5,.u x)] #[.u 268435456,.u 33554432,.u 33603576,.u 33570816,.u 268435457,.u x] c (.u 0) underlying23 b a ph ph (by rw [e2];kernel_rfl);simp [this]
theorem d6 (d:Code M b n B):Dj M g b n w A m 6:=by
 intro w0 cap W h;refine aJ (Dm M g b n w A A.heap.size m w0 cap) ?_;refine an (R:=[]) trivial {} 1 ?_;refine iy 2 ?_;replace h:=h.below (Below.refl W.heap.size W).drew;obtain ⟨a,_,p,_⟩:=h.atX;have H:∀ W,Dm M g b n w A A.heap.size m w0 cap W->W.cell? ⟨a,0+(5:Int).toNat,none⟩=some (.u (w0.x.getD 5 0)):=λW k=>by obtain ⟨L,_,e,_,_,q⟩:=k.atX;rw [p] at e;cases e;exact (q 5 bc).1
 have K:=h.fit.ux 5;generalize w0.x.getD 5 0=c at *;have D:∀ x ∈ [268435456,33554432,33603576,33570816,268435457,c],U x:=λx E=>by simp only [List.mem_cons,List.not_mem_nil,or_false] at E;rcases E with rfl | rfl | rfl | rfl | rfl | rfl<;>first | exact K | exact ⟨bc,bc⟩
 refine ae Dm.eng {ov:=[(78,kJ w0.x.length cap.cx .i64 5 p ⟨bc,by rw [h.fit.x];decide⟩ underlying23 ba),(79,je ⟨a,0+(5:Int).toNat,none⟩ (.u c) underlying22 rfl H)]} 40 h λV h=>?_;have s:∀ V:World,Bw V (V.alloc (.cells #[.u 268435456,.u 33554432,.u 33603576,.u 33570816,.u 268435457,.u c] 22)):=λV=>bal _ _;have N:=h.cur.lt;refine oI (i:=6) (j:=8) ?_ ?_;·refine qL 0 (O6 V c) (h.below (s V)) ?_;have F:=heap_alloc_new V (.cells #[.u 268435456,.u 33554432,.u 33603576,.u 33570816,.u 268435457,.u c] 22);replace h:=h.below (s V);generalize V.alloc (.cells #[.u 268435456,.u 33554432,.u 33603576,.u 33570816,.u 268435457,.u c] 22)=l at *;refine jy (aB d 6 bc l h.cur) ?_;rintro e o ⟨y,rfl,J,f⟩;refine ⟨_,0,rfl,λ_=>h.next f.out,?_⟩;have r:=f.out.keep F ab;replace h:=h.next f.out;generalize V.heap.size=z at *;clear F f;obtain ⟨u,C,q⟩:=sZ [268435456,33554432,33603576,33570816,268435457,c] 22 r D (k:=0+y.toNat) bv;refine dM 0 ((kJ (S:=λ_=>True) 6 6 .i64 y (a:=some ⟨z,0,none⟩) rfl ⟨ab,ab⟩ underlying23 ba).h o trivial) ?_ (hS:=λ_=>h);refine dM 0 ((je (S:=λW=>W=o) ⟨z,0+y.toNat,none⟩ (.u u) underlying22 rfl (λW e=>by rw [e];exact q)).h o rfl) ?_ (hS:=λ_=>h);refine ae Dm.eng {ov:=[(85,kJ w0.x.length cap.cx .i64 5 p ⟨bc,by rw [h.fit.x];decide⟩ underlying23 ba)]} 40 h λG t=>?_;obtain ⟨zs,v⟩:=t.putX a p 5 bc C;refine ct (R:=[]) trivial {} 10 zs ?_;refine an (R:=[]) trivial {} 1 ?_;exact aJ (λ_=>True) (af _ _ (d7 d _ _ _ v))
 ·refine nE (aB d 6 bc V h.cur) ?_;rintro e l ⟨y,rfl,J,f⟩;refine ⟨_,0,rfl,h.next f.out,?_⟩;have I:=f.out.2.size;replace h:=h.next f.out;refine dM 0 (O6 l c) ?_ (hS:=λ_=>h.below (s l));have r:=heap_alloc_new l (.cells #[.u 268435456,.u 33554432,.u 33603576,.u 33570816,.u 268435457,.u c] 22);replace h:=h.below (s l);generalize l.alloc (.cells #[.u 268435456,.u 33554432,.u 33603576,.u 33570816,.u 268435457,.u c] 22)=o at *;generalize l.heap.size=z at *;clear f;obtain ⟨u,C,q⟩:=sZ [268435456,33554432,33603576,33570816,268435457,c] 22 r D (k:=0+y.toNat) bv;refine dM 0 ((kJ (S:=λ_=>True) 6 6 .i64 y (a:=some ⟨z,0,none⟩) rfl ⟨ab,ab⟩ underlying23 ba).h o trivial) ?_ (hS:=λ_=>h);refine dM 0 ((je (S:=λW=>W=o) ⟨z,0+y.toNat,none⟩ (.u u) underlying22 rfl (λW e=>by rw [e];exact q)).h o rfl) ?_ (hS:=λ_=>h);refine ae Dm.eng {ov:=[(85,kJ w0.x.length cap.cx .i64 5 p ⟨bc,by rw [h.fit.x];decide⟩ underlying23 ba)]} 40 h λG t=>?_;obtain ⟨zs,v⟩:=t.putX a p 5 bc C;refine ct (R:=[]) trivial {} 10 zs ?_;refine an (R:=[]) trivial {} 1 ?_;exact aJ (λ_=>True) (af _ _ (d7 d _ _ _ v))
theorem d5 (f:Code M b n B):Dj M g b n w A m 5:=by
 intro w0 cap W h;refine an (R:=[]) trivial {} 20 ?_;refine mh (λx:MV × MA × Nat=>[(0,.p g 0,0),(2,.p A.heap.size 0,0),(8,.p m 0,1),(10,.i (x.2.2:Nat),0)]) (λj x W=>x.2.2+j=32/\Dm M g b n w A A.heap.size m x.1 x.2.1 W) 31 (w0,cap,1) ba ba ⟨rfl,h⟩ ?_;clear h;rintro j ⟨w0,cap,i⟩ W ⟨F,h⟩ R u;dsimp only at F h;cases j with
 | zero =>have d:decide ((i:Int)<32)=false:=ck;refine an (R:=[]) trivial {eq:=[(48,ak d)]} 8 ?_;exact af _ _ (d6 f _ _ _ h)
 | succ j =>
   have d:decide ((i:Int)<32)=true:=ef;have U:i<32:=ab;have zs:IntKind.i64.wrap ((i:Nat)+1:Int)=((i+1:Nat):Int):=kp;obtain ⟨a,_,q,_⟩:=h.atX;obtain ⟨t,d8⟩:∃ t,decide ((i:Int)<8)=t:=⟨_,rfl⟩;cases t;case' true =>refine aJ (Dm M g b n w A A.heap.size m w0 cap) ?_;refine an (R:=[]) trivial {eq:=[(48,ak d),(52,ak d8)]} 60 ?_
   case' false =>
    refine aO (R:=[]) trivial {eq:=[(48,ak d),(52,ak d8)]} 60 (bG f 4 bc _ h.cur) ?_;rintro e V ⟨c,rfl,l⟩;refine ⟨_,0,rfl,?_⟩;replace h:=h.next l.out;clear l;cases c;case false=>exact ou (R:=[]) trivial {eq:=[(50,dP .i64 zs)]} 60 λa p=>u a V j (_,_,i+1) ab (p.less ba) ⟨di,h⟩
    case' true =>refine aJ (Dm M g b n w A A.heap.size m w0 cap) ?_;refine an (R:=[]) trivial {} 60 ?_
   all_goals
    refine iy 2 ?_
    refine aW Dm.eng {} 30 (h.below (Below.refl _ _).drew) (λW k=>lj f W k.cur) ?_
    rintro P e Q r ⟨y,rfl,J,l⟩
    refine ⟨_,0,rfl,λ_=>r.next l.out,?_⟩
    refine ae Dm.eng {ov:=[(62,kJ w0.x.length cap.cx .i64 (i:Nat) q ⟨ab,by rw [r.fit.x];omega⟩ underlying23 ba)]} 40 (r.next l.out) λD G=>?_
    obtain ⟨C,o⟩:=G.putX a q (0+((i:Nat):Int).toNat) ab (v:=y) J
    refine ct (R:=[]) trivial {} 10 C ?_
    clear C
    generalize D.setCell _ _=L at o ⊢
    refine aO (R:=[]) trivial {} 40 (bG f 2 bc _ o.cur) ?_
    rintro e E ⟨c,rfl,l⟩
    refine ⟨_,0,rfl,?_⟩
    replace o:=o.next l.out
    cases c with
    | false=>exact ou (R:=[]) trivial {eq:=[(50,dP .i64 zs)]} 60 λa p=>u a E j (_,_,i+1) ab (p.less ba) ⟨di,o⟩
    | true =>
      generalize xM w0 _=N at o ⊢
      refine aJ (Dm M g b n w A A.heap.size m N cap) ?_
      refine an (R:=[]) trivial {} 40 ?_
      refine iy 2 ?_
      refine aW Dm.eng {} 30 (o.below (Below.refl _ _).drew) (λW k=>aB f 1024 bc W k.cur) ?_
      rintro S e T s ⟨z,rfl,X,l⟩
      refine ⟨_,0,rfl,λ_=>s.next l.out,?_⟩
      refine ae Dm.eng {ov:=[(73,kJ N.x.length cap.cx .i64 (i:Nat) q ⟨ab,by rw [s.fit.x];omega⟩ underlying23 ba)]} 40 (s.next l.out) λO H=>?_
      obtain ⟨K,I⟩:=H.putX a q (0+((i:Nat):Int).toNat) ab (v:=Uz.wrap (2147483648+Uz.wrap (8*Uz.wrap z))) (aT _)
      refine ct (R:=[]) trivial {} 10 K ?_
      exact ou (R:=[]) trivial {eq:=[(50,dP .i64 zs)]} 60 λa p=>u a _ j (_,_,i+1) ab (p.less ba) ⟨di,I⟩
theorem d4 (o:Code M b n B) (x:m=4096\/m=8192) (r:M.heap.size<=A.heap.size) (h:Rm M g b n w A a m W) (hr:W.heap[A.heap.size]?=some (.cells (aj aq zeroA) 32 (0,0))):Wg prog (λ_=>True) (bodyPost prog Tryz.f100 λe s=>∃ (w0:MV) (cap:MA),e=.returned (.agg (aj w0 cap))/\Hid (Mf w0)/\Hid (bz A.heap.size s.heap.size s (aH w0 cap))/\Hid (Cs M g b n w A s)) Tryz.f100.ntmps [.code (aw 4 (aM Tryz.f100))] [(0,.p g 0,0),(2,.p A.heap.size 0,0),(3,.slice (some ⟨a,0,none⟩) m m,0)] W:=by
 obtain ⟨c,zs,k,f,p,-⟩:=h;have j:c.length=m:=by have:=k.1;simpa using this
 have l:=qr (some ⟨a,0,none⟩) m m c W j ab (fL k);have i:Mf (Bh c):=O5 c zs (by rw [j];exact x);refine aO (R:=[]) trivial {} 40 l ?_;rintro e V ⟨C,rfl,d,N⟩;refine ⟨_,0,rfl,?_⟩;generalize Bh c=w0 at *;have t:=f.trans (Cs.of_below f.1 N);have v:=br N hr;have E:=(Array.getElem?_eq_some_iff.1 hr).1;have D:=N.size;have u:Dm M g b n w A A.heap.size V.heap.size w0 C (V.alloc (.cells (aj w0 C) 32)):=
  ⟨t.trans (Cs.alloc t.1 _),(Below.heap_alloc _ _ _ ab).trans v,⟨heap_alloc_new _ _,(d.below (bal _ _)).low ab cp,λq y e=>by have:=d.hi q y _ e;omega,ab⟩,i,p,Nat.le_refl _,r⟩
 refine kz (R:=[]) trivial {} 10 1 (dQ (T:=32) (z:=.agg (aj aq zeroA)) ba V) ?_;refine ct (R:=[]) trivial {} 10 (aD (ty:=32) (cells:=aj w0 C) (heap_alloc_new V _) ba ba (rK w0 C)) ?_;rw [World.setRow_alloc_new];refine an (R:=[]) trivial {} 2 ?_;exact af _ _ (d5 o _ _ _ u)
theorem RL (j:x=4096\/x=8192):∃ W',(do pure (.value (<- Instr.makeSlice 24 (.i x) (.i x))):Sem Next).run prog l=.ok (.value (.slice (some ⟨l.heap.size,0,none⟩) x x)) W'/\W'.ownsRow l.heap.size 5 1 (.slice (some ⟨l.heap.size,0,none⟩) x x) x ((List.replicate x (0:Int)).map (Value.int .u8))/\l.grownBy W' none:=by obtain ⟨i,f,b,c,d⟩:=info_parts info5;obtain ⟨W',h,g,e⟩:=run_make_full (P:=prog) l l.heap.size 24 5 i (.int .u8 0) 1 underlying24 f b c .i64 .i64 x (by rw [d];omega) et (Nat.le_refl _);have a:(Instr.makeSlice 24 (.i x) (.i x)).run prog l=.ok (.slice (some ⟨l.heap.size,0,none⟩) x x) W':=h;refine ⟨W',by simp [a],?_,e⟩;rw [List.map_replicate,<- toList_madeCells_one];simpa [Value.cells] using g
theorem O7 {a:Option Addr} (f:Code M a n B) (cap:World) (E:lu M cap g a n w):Calls prog 100 #[.p g 0] cap λe J=>∃ (w0:MV) (A:MA),e=.returned (.agg (aj w0 A))/\Hid (Mf w0)/\Hid (bz cap.heap.size J.heap.size J (aH w0 A))/\Hid (Cs M g a n w cap J):=by
 refine bD (S:=λ_=>True) (args:=[.p g 0]) [(aj aq zeroA,32)] func100 ?_;have F:=E.lt;have G:=E.below.size;have s:Cs M g a n w cap (bT cap [(aj aq zeroA,32)]):=Cs.alloc E _;have L:=(Bs.start cap [(aj aq zeroA,32)]).1 0 _ rfl;have Y:(bT cap [(aj aq zeroA,32)]).heap.size=cap.heap.size+1:=by simp [bT]
 generalize bT cap [(aj aq zeroA,32)]=Z at *;refine aO (R:=[]) trivial {} 40 (aB f 2 bc Z s.1) ?_;rintro e r ⟨K,rfl,I,l⟩;refine ⟨_,0,rfl,?_⟩;obtain ⟨N,hN,o⟩:∃ N:Nat,IntKind.i64.wrap (4096*IntKind.i64.wrap (1+K))=(N:Int)/\(N=4096\/N=8192):=by
  obtain rfl|rfl:K=0\/K=1:=ab;·exact ⟨4096,cb,.inl rfl⟩
  ·exact ⟨8192,cb,.inr rfl⟩
 obtain ⟨O,U,T,i⟩:=RL r N o;have u:=s.trans l.out;have z1:=l.out.2.size;have v:Rm M g a n w cap r.heap.size N O:=⟨_,λy p=>by rw [List.eq_of_mem_replicate p];exact VH ab ab,cF T ab,u.trans ⟨u.1.grown i,i.os,i.tape,i.output,i.size,λk hk _=>i.block k hk cp⟩,F,ab⟩;have R1:=l.out.keep L ab;have R2:=(i.block _ (Array.getElem?_eq_some_iff.1 R1).1 cp).trans R1;have hbr:cap.heap.size<r.heap.size:=ab
 refine an (R:=[]) trivial {eq:=[(14,dP .i64 hN)]} 2 ?_;refine dM 0 U ?_;generalize r.heap.size=b at *;clear U T i R1 u L Y s z1;refine an (R:=[]) trivial {} 6 ?_;refine af [.code (aw 3 (aM Tryz.f100))] [(0,.p g 0,0),(2,.p cap.heap.size 0,0),(3,.slice (some ⟨b,0,none⟩) N N,0),(4,.u 2147483648,0)] ?_;refine aO (R:=[]) trivial {} 40 (aB f 30 bc O v.cur) ?_;rintro e W3 ⟨x,rfl,⟨H,I⟩,m⟩;refine ⟨_,0,rfl,?_⟩;obtain ⟨x,rfl⟩:=Int.eq_ofNat_of_zero_le H;refine an (R:=[]) trivial {} 20 ?_;refine mh (λx:Nat × Nat=>[(0,.p g 0,0),(2,.p cap.heap.size 0,0),(3,.slice (some ⟨b,0,none⟩) N N,0),(4,.u (2147483648+((4*x.1:Nat):Int)),0),(5,.i (x.2:Nat),0)]) (λk x W=>x.2=k/\x.1+k<=30/\Rm M g a n w cap b N W/\W.heap[cap.heap.size]?=some (.cells (aj aq zeroA) 32 (0,0))) x (0,x) ba ba ⟨rfl,di,v.next m.out,m.out.keep R2 ab⟩ ?_;clear v R2 m;rintro k ⟨j,k'⟩ W ⟨Q,hj,D,R⟩ Rr hR;dsimp only at Q hj;subst Q;cases k' with
 | zero =>have d:decide (0<((0:Nat):Int))=false:=bc;refine an (R:=[]) trivial {eq:=[(19,ak d)]} 8 ?_;exact af _ _ (d4 f o G D R)
 | succ k =>
   have d:decide (0<((k+1:Nat):Int))=true:=ef;have zs:Uz.wrap (2147483648+((4*j:Nat):Int)+4)=2147483648+((4*(j+1):Nat):Int):=dm;have z:IntKind.i64.wrap (((k+1:Nat):Int)-1)=((k:Nat):Int):=kp;refine aO (R:=[]) trivial {eq:=[(19,ak d)]} 60 (O0 f _ D.cur) ?_;rintro e V ⟨ii,rfl,hii,h⟩;refine ⟨_,0,rfl,?_⟩;replace R:=h.out.keep R ab;replace D:=D.next h.out;refine aO (R:=[]) trivial {} 60 (Bf ii V) ?_;rintro e V ⟨y,t,rfl,p,C⟩;refine ⟨_,0,rfl,?_⟩;replace R:=br C R;replace D:=D.next (Cs.of_below D.cur C);clear h C;cases t;case' false =>refine aO (R:=[]) trivial {} 60 (lj f _ D.cur) ?_;rintro e V ⟨y,rfl,p,h⟩;refine ⟨_,0,rfl,?_⟩;replace R:=h.out.keep R ab;replace D:=D.next h.out
   case' true =>refine aO (R:=[]) trivial {} 60 (bG f 30 bc _ D.cur) ?_;rintro e V ⟨c,rfl,h⟩;refine ⟨_,0,rfl,?_⟩;replace R:=h.out.keep R ab;replace D:=D.next h.out;clear h;cases c;case' true =>refine aO (R:=[]) trivial {} 60 (lj f _ D.cur) ?_;rintro e V ⟨y,rfl,p,h⟩;refine ⟨_,0,rfl,?_⟩;replace R:=h.out.keep R ab;replace D:=D.next h.out
   all_goals
    refine aO (R:=[]) trivial {} 60 (O4 D ab (4*j) 4 y ab ab p) ?_
    rintro e P ⟨rfl,X,gP⟩
    refine ⟨_,0,rfl,?_⟩
    exact ou (R:=[]) trivial {eq:=[(41,dP .u64 zs),(21,dP .i64 z)]} 60 λq hq=>hR q P k (j+1,k) ab (hq.less ba) ⟨rfl,di,X,(gP.block _ (Array.getElem?_eq_some_iff.1 R).1 bv).trans R⟩
structure Ma (M:MV):Prop where
 len:kV M
 ux:∀ j,U (M.x.getD j 0)
 ucs:∀ j,U (M.cs.getD j 0)
 bram:∀ y ∈ M.ram,(Lit.int .u8 y).wf=true
 d:Su M.d
 pc:U M.pc
 hd:U M.hd
 pos:0<M.x.length/\0<M.ram.length
theorem Mf.pos (h:Mf k):1<k.x.length/\1<k.ram.length:=by have:=h.x;have:=h.ram;omega
theorem Mf.any (h:Mf k):Ma k:=⟨h.len,h.ux,h.ucs,h.bram,h.d.any,h.pc,h.hd,by have:=h.pos;omega⟩
theorem IL (h:Sl p M (some ⟨w,0,none⟩) B):Sl p M (some ⟨w,1,none⟩) B.tail:=by intro i d;rw [List.length_tail] at d;obtain ⟨f,g,e,a,c⟩:=h (i+1) ab;cases e;refine ⟨w,1,rfl,a,?_⟩;rw [show B.tail.getD i 0=B.getD (i+1) 0 from by cases B<;>simp];rw [show 1+i=0+(i+1) from ab];exact c
def KK (M:MV):MV:=⟨M.pc,M.x.tail,M.pr,M.cs,M.ram,M.d,M.hd,M.hl,M.wt⟩
def KL (M:MV):MV:=⟨M.pc,M.x,M.pr,M.cs,M.ram.tail,M.d,M.hd,M.hl,M.wt⟩
def xy (M:MV):MV:=⟨M.pc,M.x,2,M.cs,M.ram,M.d,M.hd,M.hl,M.wt⟩
def WP (A:MA) (b:Nat):MA:=⟨some ⟨b,1,none⟩,A.cx-1,A.ac,A.cc,A.ar,A.cr,A.ai,A.ci,A.ao,A.co⟩
def WQ (A:MA) (b:Nat):MA:=⟨A.ax,A.cx,A.ac,A.cc,some ⟨b,1,none⟩,A.cr-1,A.ai,A.ci,A.ao,A.co⟩
def uD (B:Nat) (A:MA):Prop:=∀ p,(p=A.ax\/p=A.ac\/p=A.ar\/p=A.ai\/p=A.ao)->∀ b a,p=some ⟨b,a,none⟩->B<=b
theorem pg {xs:List Value} (h:M.ownsRow w j 1 (.slice b n g) n xs) (i:b=some ⟨a,m,none⟩):w<=a:=by
 subst i;rcases h.2 with ⟨c,p⟩|⟨B,cap,e,c,f,_⟩;·cases c
 ·cases c;exact f
theorem rL (h:bz w g M (aH k r)):uD w r:=by
 intro p a b c e;rcases a with rfl|rfl|rfl|rfl|rfl;·exact pg (h.own (aK r.ax k.x.length r.cx k.x) dv) e
 ·exact pg (h.own (aK r.ac k.cs.length r.cc k.cs) dv) e
 ·exact pg (h.own (aF r.ar k.ram.length r.cr k.ram) dv) e
 ·exact pg (h.own (aF r.ai k.d.xs.length r.ci k.d.xs) dv) e
 ·exact pg (h.own (aF r.ao k.d.ys.length r.co k.d.ys) dv) e
theorem RM (h:uD w r) (e:r.ax=some ⟨g,0,none⟩):uD w (WP r g):=by
 intro p b d c a;rcases b with rfl|rfl|rfl|rfl|rfl
 ·have e2:g=d:=by have f:some (⟨g,1,none⟩:Addr)=some ⟨d,c,none⟩:=a;injection f with h4;injection h4
  rw [<- e2];exact h r.ax (Or.inl rfl) g 0 e
 ·exact h r.ac (Or.inr (Or.inl rfl)) d c a
 ·exact h r.ar (Or.inr (Or.inr (Or.inl rfl))) d c a
 ·exact h r.ai (Or.inr (Or.inr (Or.inr (Or.inl rfl)))) d c a
 ·exact h r.ao (Or.inr (Or.inr (Or.inr (Or.inr rfl)))) d c a
theorem RQ (h:uD w r) (e:r.ar=some ⟨g,0,none⟩):uD w (WQ r g):=by
 intro p b d c a;rcases b with rfl|rfl|rfl|rfl|rfl;·exact h r.ax (Or.inl rfl) d c a
 ·exact h r.ac (Or.inr (Or.inl rfl)) d c a
 ·have e2:g=d:=by have f:some (⟨g,1,none⟩:Addr)=some ⟨d,c,none⟩:=a;injection f with h4;injection h4
  rw [<- e2];exact h r.ar (Or.inr (Or.inr (Or.inl rfl))) g 0 e
 ·exact h r.ai (Or.inr (Or.inr (Or.inr (Or.inl rfl)))) d c a
 ·exact h r.ao (Or.inr (Or.inr (Or.inr (Or.inr rfl)))) d c a
theorem pi (h:Sl p M b B) (d:M.grownBy A (some g)) (m:g<w) (hn:∀ zs a,b=some ⟨zs,a,none⟩->w<=zs):Sl p A b B:=by intro i j;obtain ⟨zs,a,e,c,f⟩:=h i j;have n:=hn zs a e;refine ⟨zs,a,e,Nat.lt_of_lt_of_le c d.size,?_⟩;have l:=d.block zs c bv;rw [<- f];simp only [World.cell?,l]
theorem KM (h:pn M k r) (b:M.grownBy A (some g)) (a:g<w) (hn:uD w r):pn A k r :=
 ⟨pi h.x b a (hn r.ax (Or.inl rfl)),pi h.cs b a (hn r.ac (Or.inr (Or.inl rfl))),pi h.ram b a (hn r.ar (Or.inr (Or.inr (Or.inl rfl)))),pi h.xs b a (hn r.ai (Or.inr (Or.inr (Or.inr (Or.inl rfl))))),pi h.ys b a (hn r.ao (Or.inr (Or.inr (Or.inr (Or.inr rfl)))))⟩
theorem KN:d.tail.getD x 0=d.getD (x+1) 0:=by cases d<;>simp
theorem IN (h:Mf k):Ma (KK k)/\dU (KK k)=false:=by
 refine ⟨⟨⟨by show k.x.tail.length<=_;rw [List.length_tail,h.x];omega,h.len.cs,h.len.ram,h.len.xs,h.len.ys⟩,λj=>by show U (k.x.tail.getD j 0);rw [KN];exact h.ux _,h.ucs,h.bram,h.d.any,h.pc,h.hd,by have:=h.pos;show 0<k.x.tail.length/\_;rw [List.length_tail];exact ⟨ab,by show 0<k.ram.length;omega⟩⟩,?_⟩;have:gA (KK k).x.length (KK k).x=false:=by unfold gA;have e:(KK k).x.length=31:=(by show k.x.tail.length=31;rw [List.length_tail,h.x]);simp [e]
 unfold dU;rw [this];simp
theorem DX (h:Mf k):Ma (xy k)/\dU (xy k)=false:=by
 refine ⟨⟨⟨h.len.x,h.len.cs,h.len.ram,h.len.xs,h.len.ys⟩,h.ux,h.ucs,h.bram,h.d.any,h.pc,h.hd,h.any.pos⟩,?_⟩;have:bj (xy k).cs.length (xy k).cs (xy k).pr=false:=by unfold bj;rw [show cg (xy k).pr=false from rfl,Bool.and_false]
 unfold dU;rw [this];simp
theorem IP (h:Mf k):Ma (KL k)/\dU (KL k)=false:=by
 refine ⟨⟨⟨h.len.x,h.len.cs,by show k.ram.tail.length<=_;rw [List.length_tail];have:=h.len.ram;omega,h.len.xs,h.len.ys⟩,h.ux,h.ucs,λy a=>h.bram y (List.mem_of_mem_tail a),h.d.any,h.pc,h.hd,by have:=h.pos;show _/\0<k.ram.tail.length;rw [List.length_tail];exact ⟨by show 0<k.x.length;omega,by omega⟩⟩,?_⟩;have:bf (KL k).ram.length=false:=by have e:(KL k).ram.length=4095\/(KL k).ram.length=8191:=(by show k.ram.tail.length=_\/k.ram.tail.length=_;rw [List.length_tail];rcases h.ram with e | e<;>rw [e]<;>simp);rcases e with e | e<;>rw [e]<;>decide
 unfold dU;rw [this];simp
set_option maxRecDepth 100000
theorem rM (h:Sl p W b B) (cs:Array Value) (hn:∀ c d,b=some ⟨c,d,none⟩->w<c):Sl p (W.setRow w cs) b B:=λj g=>by obtain ⟨c,o,e,a,f⟩:=h j g;refine ⟨c,o,e,by rw [setRow_size];exact a,?_⟩;simp only [World.cell?] at f ⊢;rw [setRow_other _ _ _ _ (by have:=hn c o e;omega)];exact f
theorem uS {N:MV} {C:MA} (hr:W.heap[m]?=some (.cells (aj N C) 32 (0,0))) (hz:W.heap[A.heap.size]?=some (.cells (aj aq zeroA) 32 (0,0))) (o:Ma N) (f:pn W N C) (fm:dU N=true->bz (A.heap.size+1) W.heap.size W (aH N C)) (v:uD (A.heap.size+1) C) (r:Cs M g b n w A W) (s:g<A.heap.size) (l:M.heap.size<=A.heap.size): Wg prog (λ_=>True) (bodyPost prog Tryz.f54 λe h=>∃ (w0:MV) (cap:MA),e=.returned (.agg (aj w0 cap))/\Hid (Ma w0)/\Hid (pn h w0 cap)/\Hid (dU w0=true->bz A.heap.size h.heap.size h (aH w0 cap))/\Hid (uD A.heap.size cap)/\Hid (Cs M g b n w A h)) Tryz.f54.ntmps [.code (aw 3 (aM Tryz.f54))] [(0,.p g 0,0),(2,.p A.heap.size 0,0),(3,.p m 0,1)] W:=by
 refine ct (R:=[⟨m,aj N C,[]⟩]) ⟨⟨_,_,hr⟩,trivial⟩ {} 40 (aD (g:=A.heap.size) (t:=32) (ty:=32) (cells:=aj N C) hz ba rfl (rK N C)) ?_;have q:∀ p,(p=C.ax\/p=C.ac\/p=C.ar\/p=C.ai\/p=C.ao)->∀ c d,p=some ⟨c,d,none⟩->A.heap.size<c:=λp i c d e=>by have:=v p i c d e;omega
 exact gz (R:=[]) trivial {} 40 λa u=>⟨_,results_cell_row rfl a.tmps _ A.heap.size 32 (aj N C) (0,0) _ (u.slot ba) (setRow_heap _ _ _ _ _ _ hz) underlying32 rfl ba,N,C,rfl,o,⟨rM f.x _ (q _ (.inl rfl)),rM f.cs _ (q _ (.inr (.inl rfl))),rM f.ram _ (q _ (.inr (.inr (.inl rfl)))),rM f.xs _ (q _ (.inr (.inr (.inr (.inl rfl))))),rM f.ys _ (q _ (.inr (.inr (.inr (.inr rfl)))))⟩,λk=>((fm k).mono λj x _ _=>setRow_other _ _ _ _ ab).low ab lg,λp i c d e=>by have:=q p i c d e;omega,r.behind (aS (Below.refl _ _) (Nat.le_refl _) _) s l⟩
theorem xz (h:Dm M g b n w A A.heap.size m k r W):Wg prog (λ_=>True) (bodyPost prog Tryz.f54 λe w0=>∃ (k:MV) (r:MA),e=.returned (.agg (aj k r))/\Hid (Ma k)/\Hid (pn w0 k r)/\Hid (dU k=true->bz A.heap.size w0.heap.size w0 (aH k r))/\Hid (uD A.heap.size r)/\Hid (Cs M g b n w A w0)) Tryz.f54.ntmps [.code (aw 3 (aM Tryz.f54))] [(0,.p g 0,0),(2,.p A.heap.size 0,0),(3,.p m 0,1)] W :=
 uS h.mp.row h.res h.fit.any h.mp.fam.msl (λ_=>h.mp.fam) (rL h.mp.fam) h.cu h.gr h.w0w
def WR {S:World->Prop} {T E:TypeId} (a:Option Addr) (xs:List Int) (c:Nat) {b:Nat} (i:a=some ⟨b,0,none⟩) (hx:1<xs.length) (k:xs.length<=c) (h:prog.underlying T=some (.slice E)) (hz:(prog.info? E).map (·.size)=some 1):Ov prog S :=
 ⟨do pure (.value (<- Instr.sliceAt T (.slice a xs.length c) (some (.i 1)) none none)),.slice (some ⟨b,1,none⟩) xs.tail.length (c-1),0,λW _=>by
  subst i
  obtain ⟨l,j,e⟩:=Option.map_eq_some_iff.1 hz
  have f:prog.elem T=E:=by simp [Program.elem,h]
  have g:prog.underlying T=some (.slice (prog.elem T)):=by rw [f];exact h
  have d:¬ c=1:=ab
  have r:=run_slice_l (P:=prog) (w:=W) T (some ⟨b,0,none⟩) xs.length c g .i64 1 ab ab
  rw [<- run_sliceAt_slice (P:=prog) (w:=W) T _ _ _ _ g,f] at r
  simp [r,sizeOf,typeInfo,j,e,sliced,d,Addr.add,Result.andThen]⟩
theorem O8 (h:Dm M g b n w A A.heap.size m k r W) (i:Nat) (v:Value):bz (A.heap.size+1) W.heap.size (W.setCell ⟨m,i,none⟩ v) (aH k r)/\Cs M g b n w A (W.setCell ⟨m,i,none⟩ v)/\(W.setCell ⟨m,i,none⟩ v).heap[A.heap.size]?=some (.cells (aj aq zeroA) 32 (0,0)):=by have c:=h.mp.lo;have w0:Below A.heap.size W (W.setCell ⟨m,i,none⟩ v):=(Below.refl _ _).setCell (by show A.heap.size<=m;omega) v;exact ⟨by have:=Mp.fam_set h.mp.fam h.mp.ne i v;rwa [aX] at this,h.cu.behind w0 h.gr h.w0w,(Below.heap_setCell _ _ _ _ (by show A.heap.size≠m;omega)).trans h.res⟩
theorem ui {w0:World} {g n cap:Nat} {a:Option Addr} {zs:List Int} (j:Code w0 a n zs) (w:World) (E:lu w0 w g a n cap):Calls prog 54 #[.p g 0] w λe H=>∃ (M:MV) (A:MA),e=.returned (.agg (aj M A))/\Hid (Ma M)/\Hid (pn H M A)/\Hid (dU M=true->bz w.heap.size H.heap.size H (aH M A))/\Hid (uD w.heap.size A)/\Hid (Cs w0 g a n cap w H):=by
 refine bD (S:=λ_=>True) (args:=[.p g 0]) [(aj aq zeroA,32)] func54 ?_;have O:=E.lt;have P:=E.below.size;have I:Cs w0 g a n cap w (bT w [(aj aq zeroA,32)]):=Cs.alloc E _;have U:=(Bs.start w [(aj aq zeroA,32)]).1 0 _ rfl;have Y:(bT w [(aj aq zeroA,32)]).heap.size=w.heap.size+1:=by simp [bT]
 generalize bT w [(aj aq zeroA,32)]=Z at *;refine aO (R:=[]) trivial {} 40 (O7 j Z I.1) ?_;rintro e V ⟨M,A,rfl,s,o,d⟩;refine ⟨_,0,rfl,?_⟩;have z1:=d.out.2.size;have R1:=d.out.keep U ab;have J:=I.trans d.out;have h:Dm w0 g a n cap w w.heap.size V.heap.size M A (V.alloc (.cells (aj M A) 32)):=
  ⟨J.trans (Cs.alloc J.1 _),(Below.heap_alloc _ _ _ ab).trans R1,⟨heap_alloc_new _ _,(o.out.below (bal _ _)).low ab cp,λq hq e=>by have:=o.out.hi q hq _ e;omega,ab⟩,s.out,O,Nat.le_refl _,P⟩
 refine kz (R:=[]) trivial {} 10 1 (dQ (T:=32) (z:=.agg (aj aq zeroA)) ba V) ?_;refine ct (R:=[]) trivial {} 10 (aD (ty:=32) (cells:=aj M A) (heap_alloc_new V _) ba ba (rK M A)) ?_;rw [World.setRow_alloc_new];refine an (R:=[]) trivial {} 1 ?_;generalize V.alloc (.cells (aj M A) 32)=V1 at *;generalize V.heap.size=m at *;refine af [.code (aw 2 (aM Tryz.f54))] [(0,.p g 0,0),(2,.p w.heap.size 0,0),(3,.p m 0,1)] ?_;clear s o d R1 J I U Y;refine aO (R:=[]) trivial {} 40 (bG j 20 bc _ h.cur) ?_;rintro e V2 ⟨c,rfl,d⟩;refine ⟨_,0,rfl,?_⟩;replace h:=h.next d.out;cases c with
 | false =>refine an (R:=[]) trivial {} 3 ?_;exact af _ _ (xz h)
 | true =>
 refine aO (R:=[]) trivial {} 40 (aB j 7 bc _ h.cur) ?_;rintro e u ⟨x,rfl,hx,d⟩;refine ⟨_,0,rfl,?_⟩;replace h:=h.next d.out;obtain rfl|rfl|rfl|rfl|rfl|rfl|rfl:x=0\/x=1\/x=2\/x=3\/x=4\/x=5\/x=6:=ab
 ·refine aJ (Dm w0 g a n cap w w.heap.size m M A) ?_;refine an (R:=[]) trivial {} 60 ?_;refine iy 2 ?_;replace h:=h.below (Below.refl u.heap.size u).drew;refine aW Dm.eng {} 30 h (λW k=>aB j 4 bc W k.cur) ?_;rintro W1 e W2 D ⟨y,rfl,X,d⟩;refine ⟨_,0,rfl,λ_=>D.next d.out,?_⟩;refine ae Dm.eng {} 40 (D.next d.out) λK B=>?_;refine ct (R:=[]) trivial {} 10 (bJ (i:=0) (T:=22) (v:=.u (Uz.wrap (M.pc+Uz.wrap y))) B.mp.row nn ba rfl) ?_;refine an (R:=[]) trivial {} 2 ?_;exact aJ (λ_=>True) (af _ _ (xz (B.setPc _ (aT _))))
 ·refine aJ (Dm w0 g a n cap w w.heap.size m M A) ?_;refine an (R:=[]) trivial {} 60 ?_;refine iy 2 ?_;replace h:=h.below (Below.refl u.heap.size u).drew;obtain ⟨b,_,f,_⟩:=h.atX;refine aW Dm.eng {} 30 h (λW k=>aB j 2 bc W k.cur) ?_;rintro W1 e W2 D ⟨y,rfl,X,d⟩;refine ⟨_,0,rfl,λ_=>D.next d.out,?_⟩;refine ae Dm.eng {ov:=[(26,kJ M.x.length A.cx .i64 0 f ⟨bc,by rw [h.fit.x];decide⟩ underlying23 ba)]} 40 (D.next d.out) λK B=>?_;obtain ⟨Q,L⟩:=B.putX b f 0 bc (v:=Uz.wrap y) (aT _);refine ct (R:=[]) trivial {} 10 Q ?_;refine an (R:=[]) trivial {} 2 ?_;exact aJ (λ_=>True) (af _ _ (xz L))
 ·obtain ⟨b,f,l⟩:∃ b,A.ax=some ⟨b,0,none⟩/\M.x.length<=A.cx:=by
   rcases (h.mp.xrow).2 with ⟨_,e⟩|⟨b,_,_,e,_,_,t,_⟩;·have:=h.fit.pos;omega
   ·simp only [Value.slice.injEq,true_and] at e;exact ⟨b,e.1,by rw [e.2];exact t⟩
  obtain ⟨r,k,F⟩:=O8 h 1 (.slice (some ⟨b,1,none⟩) M.x.tail.length (A.cx-1));refine ct h.rows {ov:=[(31,WR A.ax M.x A.cx f (by have:=h.fit.pos;omega) l underlying23 ba)]} 60 (bJ (i:=1) (T:=23) (v:=.slice (some ⟨b,1,none⟩) M.x.tail.length (A.cx-1)) h.mp.row nn ba rfl) ?_;refine an (R:=[]) trivial {} 2 ?_;have p:=r.msl;have G:=p.x;rw [f] at G;exact af _ _ (uS (N:=KK M) (C:=WP A b) (th h.mp.row 1 _) F (IN h.fit).1 ⟨IL G,p.cs,p.ram,p.xs,p.ys⟩ (λk=>by rw [(IN h.fit).2] at k;cases k) (RM (rL h.mp.fam) f) k h.gr h.w0w)
 ·refine aJ (Dm w0 g a n cap w w.heap.size m M A) ?_;refine an (R:=[]) trivial {} 60 ?_;refine iy 2 ?_;replace h:=h.below (Below.refl u.heap.size u).drew;obtain ⟨b,_,f,_⟩:=h.atC;have c9:∀ W,Dm w0 g a n cap w w.heap.size m M A W->W.cell? ⟨b,0+(9:Int).toNat,none⟩=some (.u (M.cs.getD 9 0)):=λW k=>by obtain ⟨b',_,e,_,_,E⟩:=k.atC;rw [f] at e;cases e;exact (E 9 bc).1
  refine ae Dm.eng {ov:=[(39,kJ M.cs.length A.cc .i64 9 f ⟨bc,pp⟩ underlying23 ba),(40,je ⟨b,0+(9:Int).toNat,none⟩ (.u (M.cs.getD 9 0)) underlying22 rfl c9),(42,kJ M.cs.length A.cc .i64 9 f ⟨bc,pp⟩ underlying23 ba)]} 40 h λK B=>?_;obtain ⟨Q,L⟩:=B.putC b f 9 bc (v:=bits .xor .u64 (M.cs.getD 9 0) 128) (ah _ _ _);refine ct (R:=[]) trivial {} 10 Q ?_;refine an (R:=[]) trivial {} 2 ?_;exact aJ (λ_=>True) (af _ _ (xz L))
 ·obtain ⟨r,k,F⟩:=O8 h 2 (.i 2);refine ct h.rows {} 60 (bJ (i:=2) (T:=2) (v:=.i 2) h.mp.row nn ba rfl) ?_;refine an (R:=[]) trivial {} 2 ?_;exact af _ _ (uS (N:=xy M) (C:=A) (th h.mp.row 2 _) F (DX h.fit).1 ⟨r.msl.x,r.msl.cs,r.msl.ram,r.msl.xs,r.msl.ys⟩ (λk=>by rw [(DX h.fit).2] at k;cases k) (rL h.mp.fam) k h.gr h.w0w)
 ·refine aO (R:=[]) trivial {} 60 (aB j 2 bc _ h.cur) ?_;rintro e K ⟨y,rfl,X,d⟩;refine ⟨_,0,rfl,?_⟩;replace h:=h.next d.out;refine ct h.rows {} 60 (bJ (i:=11) (T:=22) (v:=.u (Uz.wrap y)) h.mp.row nn ba rfl) ?_;refine an (R:=[]) trivial {} 2 ?_;exact af _ _ (xz (h.setHd _ (aT _)))
 ·obtain ⟨b,f,l⟩:∃ b,A.ar=some ⟨b,0,none⟩/\M.ram.length<=A.cr:=by
   rcases (h.mp.rrow).2 with ⟨_,e⟩|⟨b,_,_,e,_,_,t,_⟩;·have:=h.fit.pos;omega
   ·simp only [Value.slice.injEq,true_and] at e;exact ⟨b,e.1,by rw [e.2];exact t⟩
  obtain ⟨r,k,F⟩:=O8 h 4 (.slice (some ⟨b,1,none⟩) M.ram.tail.length (A.cr-1));refine ct h.rows {ov:=[(56,WR A.ar M.ram A.cr f (by have:=h.fit.pos;omega) l underlying24 ba)]} 60 (bJ (i:=4) (T:=24) (v:=.slice (some ⟨b,1,none⟩) M.ram.tail.length (A.cr-1)) h.mp.row nn ba rfl) ?_;refine an (R:=[]) trivial {} 2 ?_;have p:=r.msl;have G:=p.ram;rw [f] at G;exact af _ _ (uS (N:=KL M) (C:=WQ A b) (th h.mp.row 4 _) F (IP h.fit).1 ⟨p.x,p.cs,IL G,p.xs,p.ys⟩ (λk=>by rw [(IP h.fit).2] at k;cases k) (RQ (rL h.mp.fam) f) k h.gr h.w0w)
theorem pY (a b:Option Addr) (n m ca H:Nat) (xs ys:List Int) (w:World) (hx:xs.length=n) (hy:ys.length=m) (hn:n<=1048576) (hm:m<=1048576) (hs:Sl .u64 w a xs) (J:Sl .u64 w b ys):CB 28 #[.slice a n ca,.slice b m H] w (.bool (decide (xs=ys))):=by
 by_cases q:n=m
 ·subst q;have r:Hid (xs.length=n):=hx;have s:Hid (ys.length=n):=hy;have I:((n:Int) != (n:Int))=false:=cp;clear hx hy;go_enter func28,ntmps28;go_wp2;go_loopw [5] (λi wr=>∃ k:Nat,k<=n/\i=.i k/\Hid (xs.take k=ys.take k)/\Bw w wr)
   (λi _=>n-(intOf i).toNat)
  case atStart=>exact ⟨0,Nat.zero_le _,rfl,(rfl:xs.take 0=ys.take 0),Below.refl _ _⟩
  case round =>
   obtain ⟨k,P,rfl,o,c⟩:=hrel;by_cases A:k<n
   ·obtain ⟨E,K,rfl,t,j⟩:=hs k (by have:=r.out;omega);obtain ⟨G,L,rfl,u,l⟩:=J k (by have:=s.out;omega);obtain ⟨x,f⟩:∃ x,x=xs.getD k 0:=⟨_,rfl⟩;obtain ⟨y,g⟩:∃ y,y=ys.getD k 0:=⟨_,rfl⟩;have N:wr.cell? ⟨E,K+k,none⟩=some (.u x):=(by rw [f];exact (c.cell (by exact t)).trans j);have O:wr.cell? ⟨G,L+k,none⟩=some (.u y):=(by rw [g];exact (c.cell (by exact u)).trans l);have B:Hid (x=xs.getD k 0):=f;have C:Hid (y=ys.getD k 0):=g;clear j l f g;by_cases d:x=y
    ·subst d;have R:=IW xs ys k n r.out s.out A o.out (B.out.symm.trans C.out);have D:Hid (xs.take (k+1)=ys.take (k+1)):=R;clear R;have p:(x != x)=false:=cp;go_wp2;go_region;all_goals go_wp2
     all_goals go_roundw
     case rel=>exact ⟨k+1,ab,by go_num,D,c.drew⟩
     case measure=>simp [intOf];omega
    ·have F:Hid (decide (xs=ys)=false):=(by show decide (xs=ys)=false;rw [decide_eq_false_iff_not];intro h;apply d;rw [B.out,C.out,h]);have p:(x != y)=true:=kc;clear d;go_wp2;go_region;all_goals go_wp2
     all_goals go_ret
     all_goals exact ⟨bh,c.drew⟩
   ·have z:k=n:=ab;subst z;have F:Hid (decide (xs=ys)=true):=(by show decide (xs=ys)=true;rw [decide_eq_true_eq];have h:=o.out;rw [List.take_of_length_le (by have:=r.out;omega),List.take_of_length_le (by have:=s.out;omega)] at h;exact h);go_wp2;go_ret;exact ⟨bh,c⟩
 ·have F:Hid (decide (xs=ys)=false):=(by show decide (xs=ys)=false;rw [decide_eq_false_iff_not];intro h;apply q;rw [<- hx,<- hy,h]);have p:((n:Int) != (m:Int))=true:=bv;clear hx hy;go_enter func28,ntmps28;go_wp2;go_ret;exact ⟨bh,Below.refl _ _⟩
theorem tj (w:World) (hl:kV t) (Z:pn w t N) (hc:pn w t c): CB 24 #[.agg #[.u t.pc,.slice N.ax t.x.length N.cx,.i t.pr,.slice N.ac t.cs.length N.cc,.slice N.ar t.ram.length N.cr,.u t.d.t,.u t.d.cm,.bool t.d.so,.slice N.ai t.d.xs.length N.ci,.slice N.ao t.d.ys.length N.co,.i t.d.ir,.u t.hd,.bool t.hl,.bool t.wt],.agg #[.u t.pc,.slice c.ax t.x.length c.cx,.i t.pr,.slice c.ac t.cs.length c.cc,.slice c.ar t.ram.length c.cr,.u t.d.t,.u t.d.cm,.bool t.d.so,.slice c.ai t.d.xs.length c.ci,.slice c.ao t.d.ys.length c.co,.i t.d.ir,.u t.hd,.bool t.hl,.bool t.wt]] w (.bool true):=by obtain ⟨ra,rb⟩:=vk (w:=w) (o1:=.cells #[.u t.pc,.slice N.ax t.x.length N.cx,.i t.pr,.slice N.ac t.cs.length N.cc,.slice N.ar t.ram.length N.cr,.u t.d.t,.u t.d.cm,.bool t.d.so,.slice N.ai t.d.xs.length N.ci,.slice N.ao t.d.ys.length N.co,.i t.d.ir,.u t.hd,.bool t.hl,.bool t.wt] 32) (o2:=.cells #[.u t.pc,.slice c.ax t.x.length c.cx,.i t.pr,.slice c.ac t.cs.length c.cc,.slice c.ar t.ram.length c.cr,.u t.d.t,.u t.d.cm,.bool t.d.so,.slice c.ai t.d.xs.length c.ci,.slice c.ao t.d.ys.length c.co,.i t.d.ir,.u t.hd,.bool t.hl,.bool t.wt] 32) (Below.refl _ _);have RA:=aG ra;have RB:=aG rb;have B0:Hid (Bw w ((w.alloc (.cells #[.u t.pc,.slice N.ax t.x.length N.cx,.i t.pr,.slice N.ac t.cs.length N.cc,.slice N.ar t.ram.length N.cr,.u t.d.t,.u t.d.cm,.bool t.d.so,.slice N.ai t.d.xs.length N.ci,.slice N.ao t.d.ys.length N.co,.i t.d.ir,.u t.hd,.bool t.hl,.bool t.wt] 32)).alloc (.cells #[.u t.pc,.slice c.ax t.x.length c.cx,.i t.pr,.slice c.ac t.cs.length c.cc,.slice c.ar t.ram.length c.cr,.u t.d.t,.u t.d.cm,.bool t.d.so,.slice c.ai t.d.xs.length c.ci,.slice c.ao t.d.ys.length c.co,.i t.d.ir,.u t.hd,.bool t.hl,.bool t.wt] 32))):=(bal _ _).alloc cp _;clear ra rb;have HX:Hid (∀ b,Bw w b->CB 28 #[.slice N.ax t.x.length N.cx,.slice c.ax t.x.length c.cx] b (.bool true)):=λb f=>(pY _ _ _ _ _ _ _ _ b rfl rfl hl.x hl.x (Z.x.below f) (hc.x.below f)).mono λe C h=>⟨by rw [h.1];simp,h.2⟩;have HS:Hid (∀ b,Bw w b->CB 28 #[.slice N.ac t.cs.length N.cc,.slice c.ac t.cs.length c.cc] b (.bool true)):=λb f=>(pY _ _ _ _ _ _ _ _ b rfl rfl hl.cs hl.cs (Z.cs.below f) (hc.cs.below f)).mono λe C h=>⟨by rw [h.1];simp,h.2⟩;have HD:Hid (∀ b,Bw w b->CB 64 #[.agg #[.u t.d.t,.u t.d.cm,.bool t.d.so,.slice N.ai t.d.xs.length N.ci,.slice N.ao t.d.ys.length N.co,.i t.d.ir],.agg #[.u t.d.t,.u t.d.cm,.bool t.d.so,.slice c.ai t.d.xs.length c.ci,.slice c.ao t.d.ys.length c.co,.i t.d.ir]] b (.bool true)):=λb f=>Bg t.d _ _ _ _ _ _ _ _ b (Z.xs.below f) (Z.ys.below f) (hc.xs.below f) (hc.ys.below f);have CA:Hid (∀ b,Bw w b->(convert 24 9 (.slice N.ar t.ram.length N.cr)).run prog b=.ok (.string (strOfNums t.ram)) b):=λb f=>mr _ _ _ _ _ rfl (Z.ram.below f);have CC:Hid (∀ b,Bw w b->(convert 24 9 (.slice c.ar t.ram.length c.cr)).run prog b=.ok (.string (strOfNums t.ram)) b):=λb f=>mr _ _ _ _ _ rfl (hc.ram.below f);clear Z hc hl;obtain ⟨pc,x,pr,cs,ram,d,hd,hh,wt⟩:=t;dsimp only at *;generalize strOfNums ram=sr at *;generalize x.length=nx at *;generalize cs.length=nc at *;generalize ram.length=nr at *;generalize d.xs.length=n1 at *;generalize d.ys.length=n2 at *;obtain ⟨E,F,G,H,I,J,K,L,A,O,g,j,l,m⟩:=be RA.out;obtain ⟨P,Q,R,S,T,U,V,W,X,Y,o,p,q,r⟩:=be RB.out;go_enter func24,ntmps24;go_wp2_with fail;refine (HX.out _ B0.out).mono ?_;rintro e w1 ⟨rfl,s⟩;have y:=aG (br s RA.out);have B:=aG (br s RB.out);have B1:=aG (aa B0.out s);clear s RA RB B0 HX E F G H I J K L A O g j l m P Q R S T U V W X Y o p q r;obtain ⟨E,F,G,H,I,J,K,L,A,O,g,j,l,m⟩:=be y.out;obtain ⟨P,Q,R,S,T,U,V,W,X,Y,o,p,q,r⟩:=be B.out;go_wp2_with fail;refine (HS.out _ B1.out).mono ?_;rintro e w2 ⟨rfl,M⟩;have z:=aG (br M y.out);have D:=aG (br M B.out);have B2:=aG (aa B1.out M);clear M y B B1 HS E F G H I J K L A O g j l m P Q R S T U V W X Y o p q r;obtain ⟨E,F,G,H,I,J,K,L,A,O,g,j,l,m⟩:=be z.out;obtain ⟨P,Q,R,S,T,U,V,W,X,Y,o,p,q,r⟩:=be D.out;have cva:=CA.out _ B2.out;have cvc:=CC.out _ B2.out;clear CA CC;go_wp2_with fail;refine (HD.out _ B2.out).mono ?_;rintro e w3 ⟨rfl,u⟩;have RA3:=aG (br u z.out);have RB3:=aG (br u D.out);have B3:=aG (aa B2.out u);clear u z D B2 HD cva cvc E F G H I J K L A O g j l m P Q R S T U V W X Y o p q r;obtain ⟨E,F,G,H,I,J,K,L,A,O,g,j,l,m⟩:=be RA3.out;obtain ⟨P,Q,R,S,T,U,V,W,X,Y,o,p,q,r⟩:=be RB3.out;go_wp2_with fail;go_ret;exact ⟨rfl,B3.out⟩
end Go.Proofs.YtjifdmoehfbihaaGreatDoor
