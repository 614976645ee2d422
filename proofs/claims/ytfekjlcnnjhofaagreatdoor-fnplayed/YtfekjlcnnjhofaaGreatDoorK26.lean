/- Own lemmas. -/
import Derived.Test.YtfekjlcnnjhofaaGreatDoorAut
import Derived.Test.YtfekjlcnnjhofaaGreatDoorK25
set_option maxRecDepth 100000
set_option maxHeartbeats 6400000
namespace Go.Proofs.YtfekjlcnnjhofaaGreatDoor
open Go.RowKit Tryz
open IntKind renaming u64->Uz
open Below renaming refl->A8,heap_alloc->A9
open Go renaming heap_alloc_new->D4,World->D8,bodyPost->F0,Addr->F3,results_cell_row->G1,run_buildSlice->H8,setRow_other->I1,Next->I2,setRow_heap->I3,Calls->I4
open Instr renaming storeAt->L0,buildSlice->L6,makeSlice->N1
open List renaming length_tail->C6,take_of_length_le->D1,length_set->D2,replicate->D3
open Nat renaming le_refl->I5,zero_le->K0,lt_of_lt_of_le->K1
open Or renaming inr->A5,inl->A6
open World renaming setRow_alloc_new->O1,cell?->P2
open _root_.Array renaming getElem?_eq_some_iff->C5
set_option linter.unusedVariables false
variable {w g n a m:Nat} {M A W:D8} {B:Option F3} {b:List Int} {k:MV} {r:MA} {p:IntKind} {j:TypeId} (t:MV) (c l:MA) (x:List Int) (C:D8) (D E:Nat)
theorem Gy:∃ i,prog.info? 24=some i/\i.zero=some (.u 0)/\i.size=1:=by
 have h:(prog.info? 24).map (λi=>(i.zero,i.size))=some (some (.u 0),1):=ba
 cases a:prog.info? 24 with
 | none=>rw [a] at h;cases h
 | some i=>rw [a] at h;simp at h;exact ⟨i,rfl,h.1,h.2⟩
theorem OT {wr:D8} (h:Rm M g B n w A a m wr) (hm:m<=1048576) (f k:Nat) (x:Int) (hk:k<=8) (u:f+k<=m) (hx:U x): I4 prog 55 #[.slice (some ⟨a,0,none⟩) m m,.u (2147483648+(f:Int)),.i (k:Int),.u x] wr λe p=>e=.returned (.tuple #[])/\Rm M g B n w A a m p/\wr.grownBy p (some a):=by
 obtain ⟨zs,b,cap,c,v,t⟩:=h;refine (yo a m m f k _ zs x wr hm hk u hx.1 (by have:=hx.2;omega) cap).mono λe p ⟨r,s,d⟩=>⟨r,⟨kU zs f x k,IK zs b f x k,s,?_,v,t⟩,d⟩;have C:M.heap.size<=A.heap.size:=by
  rcases Nat.lt_or_ge A.heap.size M.heap.size with q|q;·have:=c.1.new;omega
  ·exact q
 obtain ⟨i,y,z,j⟩:=c.1.row;have l:=(C5.1 j).1;refine ⟨⟨c.1.new,?_,i,y,z,(d.block g l bv).trans j⟩,⟨d.os.trans c.2.os,d.tape.trans c.2.tape,d.output.trans c.2.output,Nat.le_trans c.2.size d.size,λk hk o=>(d.block k (K1 hk c.2.size) bv).trans (c.2.block k hk o)⟩⟩;exact c.1.below.grown d c.1.below.size (by intro k hk;cases hk;omega)
theorem Gz:U 0:=⟨bc,bc⟩
theorem Sb:U ((D3 D (0:Int)).getD E 0):=by simp only [List.getD,List.getElem?_replicate];split<;>exact ⟨di,di⟩
theorem OU (c:∀ y ∈ x,(Lit.int .u8 y).wf) (hl:x.length=4096\/x.length=8192):Mf (Bk x):=by
 have a:bf x.length:=by rcases hl with e|e<;>rw [e]<;>decide
 unfold Bk;rw [JZ8 a];refine ⟨by simp [bK,oc],λj=>Sb 32 j,by simp [bK,oc],?_,hl,c,⟨Gz,Gz,.inl rfl,⟨λy b=>(nomatch b),λy b=>(nomatch b)⟩,K0 _,K0 _⟩,(show U 2147483648 from ⟨bc,bc⟩),Gz,.inr (.inr rfl)⟩;exact G5 (Sb 22) 9 (aW _)
theorem T7 (D:DV) (a1:Option F3) (c1:Nat) (a2:Option F3) (c2:Nat):((ak t c).toList.take 5++(fl D a1 c1 a2 c2).toList++(ak t c).toList.drop (5+(fl D a1 c1 a2 c2).size)).toArray=ak (bW t D) (jG c a1 c1 a2 c2):=rfl
theorem T8:(do pure (.value (<- L6 56 2 #[(0,.i 0),(1,.i 1)])):Sem I2).run prog C=.ok (.value (.slice (some ⟨C.heap.size,0,none⟩) 2 2)) (C.alloc (.cells #[.i 0,.i 1] 2)):=by obtain ⟨c,b,e⟩:=Option.map_eq_some_iff.1 (show (prog.info? 2).map (λi=>(i.zero,i.size))=some (some (.i 0),1) by kernel_rfl);simp only [Prod.mk.injEq] at e;obtain ⟨a,e2⟩:=e;have:=H8 (P:=prog) C 56 2 2 #[(0,.i 0),(1,.i 1)] #[.i 0,.i 1] c (.i 0) underlying56 b a ph ph v9;simp [this]
def Dj (w0:D8) (g:Nat) (a:Option F3) (n cap:Nat) (w:D8) (m j:Nat):Prop:=∀ M A W,Dm w0 g a n cap w w.heap.size m M A W->Wg prog (λ_=>True) (F0 prog Tryz.f37 λe b=>∃ (M:MV) (A:MA),e=.returned (.agg (ak M A))/\Hid (Mf M)/\Hid (bj w.heap.size b.heap.size b (aF M A))/\Hid (Cs w0 g a n cap w b)) Tryz.f37.ntmps [.code (au j (aM Tryz.f37))] [(0,.p g 0,0),(2,.p w.heap.size 0,0),(8,.p m 0,1)] W
set_option maxRecDepth 100000
theorem Dm.eng {P:Program} {fn:Func} {Rs:Ending->D8->Prop}:n6 P (Dm M g B n w A a m k r) (Dm M g B n w A a m k r) [⟨m,ak k r,[]⟩] true (F0 P fn Rs):=
 ⟨λ_ h=>h,λW h x b=>by rw [List.mem_singleton.1 b];exact ⟨_,_,h.mp.row⟩,λ_ W h=>h.below (A8 _ _).drew,cD⟩
theorem Dm.rows (h:Dm M g B n w A a m k r W):fN W [⟨m,ak k r,[]⟩]:=⟨⟨_,_,h.mp.row⟩,trivial⟩
theorem Dm.putC (h:Dm M g B n w A a m k r W) (b:Nat) (c:r.ac=some ⟨b,0,none⟩) (i:Nat) (f:i<22) {v:Int} (hv:U v):(do L0 24 (.p b i) (.u v);pure Next.skip:Sem I2).run prog W=.ok .skip (W.setCell ⟨b,i,none⟩ (.u v))/\Dm M g B n w A a m (cM k (k.cs.set i v)) r (W.setCell ⟨b,i,none⟩ (.u v)):=by obtain ⟨j,_,e,_,_,d⟩:=h.atC;rw [c] at e;cases e;exact ⟨jh (d i f) ba rfl,h.setC b c i hv⟩
theorem Dm.putX (h:Dm M g B n w A a m k r W) (b:Nat) (c:r.ax=some ⟨b,0,none⟩) (i:Nat) (f:i<32) {v:Int} (hv:U v):(do L0 24 (.p b i) (.u v);pure Next.skip:Sem I2).run prog W=.ok .skip (W.setCell ⟨b,i,none⟩ (.u v))/\Dm M g B n w A a m (xM k (k.x.set i v)) r (W.setCell ⟨b,i,none⟩ (.u v)):=by obtain ⟨j,_,e,_,_,d⟩:=h.atX;rw [c] at e;cases e;exact ⟨jh (d i f) ba rfl,h.setX b c i hv⟩
theorem Vt:Dj M g B n w A m 17:=by intro w0 cap W h;refine bx h.rows {} 40 (av (g:=A.heap.size) (t:=29) (ty:=29) (cells:=ak w0 cap) h.res ba rfl (rL w0 cap)) ?_;obtain ⟨f,k⟩:=h.outM (ak w0 cap);exact ix (R:=[]) trivial {} 40 λb c=>⟨_,G1 rfl b.tmps _ A.heap.size 29 (ak w0 cap) (0,0) _ (c.slot ba) (I3 _ _ _ _ _ _ h.res) underlying29 rfl ba,w0,cap,rfl,h.fit,f,k⟩
theorem Vh:Dj M g B n w A m 16:=by intro w0 cap W h;refine aC (R:=[]) trivial {} 40 (rU w0 cap (A.heap.size+1) m W h.fit.cs h.fit.len h.mp) ?_;rintro e V ⟨rfl,c,b⟩;refine ⟨_,0,rfl,?_⟩;refine aj (R:=[]) trivial {} 1 ?_;exact af _ _ (Vt _ _ _ (h.step (h.mp.under b) c (OR h.fit)))
theorem Vi (zs:Code M B n b):Dj M g B n w A m 15:=by
 intro w0 cap W h;refine aC (R:=[]) trivial {} 40 (bA zs 12 bc W h.cur) ?_;rintro e V ⟨c,rfl,d⟩;refine ⟨_,0,rfl,?_⟩;replace h:=h.next d.out;cases c with
 | false =>refine aj (R:=[]) trivial {} 3 ?_;exact af _ _ (Vh _ _ _ h)
 | true =>refine bx h.rows {} 40 (bG (i:=13) (T:=4) (v:=.bool true) h.mp.row ro ba rfl) ?_;refine aj (R:=[]) trivial {} 1 ?_;exact af _ _ (Vh _ _ _ (h.setWt true))
theorem WC (zs:Code M B n b):Dj M g B n w A m 14:=by
 intro w0 cap W h;refine aC (R:=[]) trivial {} 40 (bA zs 5 bc W h.cur) ?_;rintro e V ⟨c,rfl,d⟩;refine ⟨_,0,rfl,?_⟩;replace h:=h.next d.out;cases c with
 | false =>refine aj (R:=[]) trivial {} 3 ?_;exact af _ _ (Vi zs _ _ _ h)
 | true =>refine bx h.rows {} 40 (bG (i:=12) (T:=4) (v:=.bool true) h.mp.row ro ba rfl) ?_;replace h:=h.setHl true;refine aC (R:=[]) trivial {} 40 (az zs 1024 bc _ h.cur) ?_;rintro e V ⟨x,rfl,f,d⟩;refine ⟨_,0,rfl,?_⟩;replace h:=h.next d.out;refine bx h.rows {} 40 (bG (i:=11) (T:=24) (v:=.u (Uz.wrap (2147483648+Uz.wrap (8*Uz.wrap x)))) h.mp.row ro ba rfl) ?_;refine aj (R:=[]) trivial {} 1 ?_;exact af _ _ (Vi zs _ _ _ (h.setHd _ (aW _)))
theorem Vu (zs:Code M B n b):Dj M g B n w A m 13:=by
 intro w0 cap W h;refine aC (R:=[]) trivial {} 40 (bA zs 6 bc W h.cur) ?_;rintro e V ⟨c,rfl,d⟩;refine ⟨_,0,rfl,?_⟩;replace h:=h.next d.out;cases c with
 | false =>refine aj (R:=[]) trivial {} 3 ?_;exact af _ _ (WC zs _ _ _ h)
 | true =>refine aC (R:=[]) trivial {} 40 (az zs 8 bc _ h.cur) ?_;rintro e V ⟨x,rfl,f,d⟩;refine ⟨_,0,rfl,?_⟩;replace h:=h.next d.out;refine bx h.rows {} 40 (bG (i:=0) (T:=24) (v:=.u (Uz.wrap (2147483648+Uz.wrap (4*Uz.wrap x)))) h.mp.row ro ba rfl) ?_;refine aj (R:=[]) trivial {} 1 ?_;exact af _ _ (WC zs _ _ _ (h.setPc _ (aW _)))
theorem Vj (cap:Code M B n b) (h:Dm M g B n w A A.heap.size m k r W):Wg prog (λ_=>True) (F0 prog Tryz.f37 λe d=>∃ (k:MV) (r:MA),e=.returned (.agg (ak k r))/\Hid (Mf k)/\Hid (bj A.heap.size d.heap.size d (aF k r))/\Hid (Cs M g B n w A d)) Tryz.f37.ntmps [.code (au 2 (GU (au 1 (fW (au 12 (aM Tryz.f37)))))),.code (au 13 (aM Tryz.f37))] [(0,.p g 0,0),(2,.p A.heap.size 0,0),(8,.p m 0,1)] W:=by
 refine aC (R:=[]) trivial {} 40 (bA cap 2 bc W h.cur) ?_;rintro e V ⟨c,rfl,i⟩;refine ⟨_,0,rfl,?_⟩;replace h:=h.next i.out;cases c with
 | false =>refine aj (R:=[]) trivial {} 3 ?_;exact af _ _ (Vu cap _ _ _ h)
 | true =>refine aC (R:=[]) trivial {} 40 (yh cap h) ?_;rintro e V ⟨rfl,N,f⟩;refine ⟨_,0,rfl,?_⟩;refine aj (R:=[]) trivial {} 1 ?_;exact af _ _ (Vu cap _ _ _ f.out)
theorem Wl (d:Code M B n b):Dj M g B n w A m 12:=by
 intro w0 cap W h;refine aC (R:=[]) trivial {} 40 (bA d 3 bc W h.cur) ?_;rintro e V ⟨c,rfl,l⟩;refine ⟨_,0,rfl,?_⟩;replace h:=h.next l.out;cases c with
 | false =>refine aj (R:=[]) trivial {} 3 ?_;exact af _ _ (Vu d _ _ _ h)
 | true =>
   refine gz (R:=[]) trivial {} 10 1 (T8 V) ?_;have C:=(A8 V.heap.size V).alloc (I5 _) (.cells #[.i 0,.i 1] 2);have t:=D4 V (.cells #[.i 0,.i 1] 2);replace h:=h.below C;generalize V.alloc (.cells #[.i 0,.i 1] 2)=z at *;have E:=(C5.1 t).1;refine aC (R:=[]) trivial {} 40 (az d 2 bc z h.cur) ?_;rintro e a ⟨y,rfl,F,j⟩;refine ⟨_,0,rfl,?_⟩;have u:=j.out.keep t (by have:=l.out.1.lt;omega);replace h:=h.next j.out;have fin:∀ v:Int,v=0\/v=1->Wg prog (λ_=>True) (F0 prog Tryz.f37 λe r=>∃ (w0:MV) (cap:MA),e=.returned (.agg (ak w0 cap))/\Hid (Mf w0)/\Hid (bj A.heap.size r.heap.size r (aF w0 cap))/\Hid (Cs M g B n w A r)) Tryz.f37.ntmps [.code (au 1 (GU (au 1 (fW (au 12 (aM Tryz.f37)))))),.code (au 13 (aM Tryz.f37))] [(0,.p g 0,0),(2,.p A.heap.size 0,0),(8,.p m 0,1)] (a.setCell ⟨m,2,none⟩ (.i v)):=by
    intro v D;replace h:=h.setPr v (D.elim .inl λe=>.inr (.inl e));obtain ⟨N,s⟩:∃ N,Wj w0 v=N:=⟨_,rfl⟩;rw [s] at h;clear s;refine aC (R:=[]) trivial {} 40 (bA d 3 bc _ h.cur) ?_;rintro e V ⟨c,rfl,l⟩;refine ⟨_,0,rfl,?_⟩;replace h:=h.next l.out;cases c with
    | true =>refine aj (R:=[]) trivial {} 4 ?_;exact af _ _ (Vj d h)
    | false =>obtain ⟨zs,_,k,_⟩:=h.atC;obtain ⟨p,f⟩:=h.putC zs k 16 bc (v:=31) ⟨bc,bc⟩;obtain ⟨q,o⟩:=f.putC zs k 17 bc (v:=18014398509481983) ⟨bc,bc⟩;refine bx h.rows {ov:=[(133,kW N.cs.length cap.cc .i64 16 k ⟨bc,sb⟩ underlying25 ba)]} 40 p ?_;refine bx f.rows {ov:=[(136,kW (N.cs.set 16 31).length cap.cc .i64 17 k ⟨bc,by rw [D2,h.fit.cs];decide⟩ underlying25 ba)]} 40 q ?_;refine aj (R:=[]) trivial {} 1 ?_;exact af _ _ (Vj d o)
   have x:=λv:Int=>bG (P:=prog) (i:=2) (T:=2) (v:=.i v) h.mp.row ro ba rfl;obtain rfl | rfl:y=0\/y=1:=ab;all_goals refine aj (R:=[]) trivial {} 1 ?_
   all_goals refine aP 125 2 ?_
   ·refine bx (R:=[⟨m,ak w0 cap,[]⟩,⟨V.heap.size,#[.i 0,.i 1],[]⟩]) ⟨⟨_,_,h.mp.row⟩,⟨_,_,u⟩,trivial⟩ {} 40 (x 0) ?_;refine aj (R:=[]) trivial {} 1 ?_;exact af _ _ (fin 0 (.inl rfl))
   ·refine bx (R:=[⟨m,ak w0 cap,[]⟩,⟨V.heap.size,#[.i 0,.i 1],[]⟩]) ⟨⟨_,_,h.mp.row⟩,⟨_,_,u⟩,trivial⟩ {} 40 (x 1) ?_;refine aj (R:=[]) trivial {} 1 ?_;exact af _ _ (fin 1 (.inr rfl))
theorem WD (d:Code M B n b):Dj M g B n w A m 11:=by
 intro w0 cap W h;refine aC (R:=[]) trivial {} 40 (bA d 3 bc W h.cur) ?_;rintro e V ⟨c,rfl,o⟩;refine ⟨_,0,rfl,?_⟩;replace h:=h.next o.out;cases c with
 | false =>refine aj (R:=[]) trivial {} 3 ?_;exact af _ _ (Wl d _ _ _ h)
 | true =>obtain ⟨zs,_,i,_⟩:=h.atC;obtain ⟨k,f⟩:=h.putC zs i 16 bc (v:=31) ⟨bc,bc⟩;obtain ⟨l,j⟩:=f.putC zs i 17 bc (v:=18014398509481983) ⟨bc,bc⟩;refine bx h.rows {ov:=[(116,kW w0.cs.length cap.cc .i64 16 i ⟨bc,sb⟩ underlying25 ba)]} 40 k ?_;refine bx f.rows {ov:=[(119,kW (w0.cs.set 16 31).length cap.cc .i64 17 i ⟨bc,by rw [D2,h.fit.cs];decide⟩ underlying25 ba)]} 40 l ?_;refine aj (R:=[]) trivial {} 1 ?_;exact af _ _ (Wl d _ _ _ j)
theorem Vv (d:Code M B n b):Dj M g B n w A m 10:=by
 intro w0 cap W h;refine aC (R:=[]) trivial {} 40 (bA d 2 bc W h.cur) ?_;rintro e V ⟨c,rfl,p⟩;refine ⟨_,0,rfl,?_⟩;replace h:=h.next p.out;cases c with
 | false =>refine aj (R:=[]) trivial {} 3 ?_;exact af _ _ (WD d _ _ _ h)
 | true =>
   refine aL (Dm M g B n w A A.heap.size m w0 cap) ?_;refine aj (R:=[]) trivial {} 2 ?_;refine fV 2 ?_;replace h:=h.below (A8 V.heap.size V).drew;obtain ⟨zs,_,f,_,_,i⟩:=h.atC;have j:∀ W,Dm M g B n w A A.heap.size m w0 cap W->W.cell? ⟨zs,0+(4:Int).toNat,none⟩=some (.u (w0.cs.getD 4 0)):=λW k=>by obtain ⟨s,_,e,_,_,i⟩:=k.atC;rw [f] at e;cases e;exact (i 4 bc).1
   refine ae Dm.eng {ov:=[(108,kW w0.cs.length cap.cc .i64 4 f ⟨bc,sb⟩ underlying25 ba),(109,iP ⟨zs,0+(4:Int).toNat,none⟩ (.u (w0.cs.getD 4 0)) underlying24 rfl j),(111,kW w0.cs.length cap.cc .i64 4 f ⟨bc,sb⟩ underlying25 ba)]} 40 h λr l=>?_;obtain ⟨q,o⟩:=l.putC zs f 4 bc (v:=bits .or .u64 (w0.cs.getD 4 0) 1) (ah _ _ _);refine bx (R:=[]) trivial {} 10 q ?_;refine aj (R:=[]) trivial {} 1 ?_;exact aL (λ_=>True) (af _ _ (WD d _ _ _ o))
theorem d9 (c:Code M B n b):Dj M g B n w A m 9:=by intro w0 cap W h;refine aL (Dm M g B n w A A.heap.size m w0 cap) ?_;refine aj (R:=[]) trivial {} 1 ?_;refine fV 2 ?_;replace h:=h.below (A8 W.heap.size W).drew;obtain ⟨zs,_,d,_⟩:=h.atC;refine aT Dm.eng {} 30 h (λW k=>az c 64 bc W k.cur) ?_;rintro q e r f ⟨x,rfl,s,i⟩;refine ⟨_,0,rfl,λ_=>f.next i.out,?_⟩;refine ae Dm.eng {ov:=[(101,kW w0.cs.length cap.cc .i64 4 d ⟨bc,sb⟩ underlying25 ba)]} 40 (f.next i.out) λp j=>?_;obtain ⟨o,l⟩:=j.putC zs d 4 bc (v:=Uz.wrap (2147483648+Uz.wrap (4*Uz.wrap x))) (aW _);refine bx (R:=[]) trivial {} 10 o ?_;refine aj (R:=[]) trivial {} 1 ?_;exact aL (λ_=>True) (af _ _ (Vv c _ _ _ l))
theorem d8 (zs:Code M B n b):Dj M g B n w A m 8:=by
 intro w0 cap W h;refine aC (R:=[]) trivial {} 40 (bA zs 3 bc W h.cur) ?_;rintro e V ⟨c,rfl,k⟩;refine ⟨_,0,rfl,?_⟩;replace h:=h.next k.out;cases c with
 | false =>refine aj (R:=[]) trivial {} 3 ?_;exact af _ _ (d9 zs _ _ _ h)
 | true =>refine aC (R:=[]) trivial {} 40 (Bm zs _ h.cur) ?_;rintro e p ⟨rfl,f⟩;obtain ⟨o,l,j,d,_⟩:=f.out;refine ⟨_,0,rfl,?_⟩;refine bx (h.next d).rows {} 40 (bG (i:=3) (T:=25) (v:=.slice (some ⟨V.heap.size,0,none⟩) 22 22) (h.next d).mp.row ro ba rfl) ?_;refine aj (R:=[]) trivial {} 1 ?_;exact af _ _ (d9 zs _ _ _ (h.csrs d o l j))
theorem T9 {D:DV} {a1 a2:Option F3} {c1 c2:Nat} (h:W.heap[m]?=some (.cells (ak k r) j (0,0))):(do L0 27 (.p m 5) (.agg (fl D a1 c1 a2 c2));pure Next.skip:Sem I2).run prog W=.ok .skip (W.setRow m (ak (bW k D) (jG r a1 c1 a2 c2))):=by have:=kO (P:=prog) W m 5 j 27 (ak k r) (fl D a1 c1 a2 c2) h aU (by simp [ak,fl]) (fp _ _ _ _ _);rw [T7] at this;simp [L0,Instr.sureAddr,this,Result.andThen]
theorem d7 (zs:Code M B n b):Dj M g B n w A m 7:=by intro w0 cap W h;refine aC (R:=[]) trivial {} 40 (OK zs W h.cur) ?_;rintro e V ⟨D,a1,c1,a2,c2,rfl,f,d,c⟩;refine ⟨_,0,rfl,?_⟩;refine bx (h.next c.out).rows {} 40 (T9 (D:=D) (a1:=a1) (c1:=c1) (a2:=a2) (c2:=c2) (h.next c.out).mp.row) ?_;refine aj (R:=[]) trivial {} 1 ?_;exact af _ _ (d8 zs _ _ _ (h.dev c.out D a1 c1 a2 c2 f.out d.out))
theorem OV (x:Int):(do pure (.value (<- L6 25 6 #[(0,.u 268435456),(1,.u 33554432),(2,.u 33603576),(3,.u 33570816),(4,.u 268435457),(5,.u x)])):Sem I2).run prog C=.ok (.value (.slice (some ⟨C.heap.size,0,none⟩) 6 6)) (C.alloc (.cells #[.u 268435456,.u 33554432,.u 33603576,.u 33570816,.u 268435457,.u x] 24)):=by obtain ⟨c,b,a,e2⟩:=Gy;have:=H8 (P:=prog) C 25 24 6 #[(0,.u 268435456),(1,.u 33554432),(2,.u 33603576),(3,.u 33570816),(4,.u 268435457),(5,.u x)] #[.u 268435456,.u 33554432,.u 33603576,.u 33570816,.u 268435457,.u x] c (.u 0) underlying25 b a ph ph v9;simp [this]
theorem d6 (d:Code M B n b):Dj M g B n w A m 6:=by
 intro w0 cap W h;refine aL (Dm M g B n w A A.heap.size m w0 cap) ?_;refine aj (R:=[]) trivial {} 1 ?_;refine fV 2 ?_;replace h:=h.below (A8 W.heap.size W).drew;obtain ⟨zs,_,p,_⟩:=h.atX;have H:∀ W,Dm M g B n w A A.heap.size m w0 cap W->W.cell? ⟨zs,0+(5:Int).toNat,none⟩=some (.u (w0.x.getD 5 0)):=λW k=>by obtain ⟨L,_,e,_,_,q⟩:=k.atX;rw [p] at e;cases e;exact (q 5 bc).1
 have K:=h.fit.ux 5;generalize w0.x.getD 5 0=c at *;have D:∀ x ∈ [268435456,33554432,33603576,33570816,268435457,c],U x:=λx E=>by simp only [List.mem_cons,List.not_mem_nil,or_false] at E;rcases E with rfl | rfl | rfl | rfl | rfl | rfl<;>first | exact K | exact ⟨bc,bc⟩
 refine ae Dm.eng {ov:=[(78,kW w0.x.length cap.cx .i64 5 p ⟨bc,by rw [h.fit.x];decide⟩ underlying25 ba),(79,iP ⟨zs,0+(5:Int).toNat,none⟩ (.u c) underlying24 rfl H)]} 40 h λV h=>?_;have s:∀ V:D8,Bw V (V.alloc (.cells #[.u 268435456,.u 33554432,.u 33603576,.u 33570816,.u 268435457,.u c] 24)):=λV=>bal _ _;have N:=h.cur.lt;refine kN (i:=6) (j:=8) ?_ ?_;·refine mt 0 (OV V c) (h.below (s V)) ?_;have F:=D4 V (.cells #[.u 268435456,.u 33554432,.u 33603576,.u 33570816,.u 268435457,.u c] 24);replace h:=h.below (s V);generalize V.alloc (.cells #[.u 268435456,.u 33554432,.u 33603576,.u 33570816,.u 268435457,.u c] 24)=l at *;refine io (az d 6 bc l h.cur) ?_;rintro e o ⟨y,rfl,J,f⟩;refine ⟨_,0,rfl,λ_=>h.next f.out,?_⟩;have r:=f.out.keep F ab;replace h:=h.next f.out;generalize V.heap.size=z at *;clear F f;obtain ⟨u,C,q⟩:=sV [268435456,33554432,33603576,33570816,268435457,c] 24 r D (k:=0+y.toNat) bv;refine dt 0 ((kW (S:=λ_=>True) 6 6 .i64 y (a:=some ⟨z,0,none⟩) rfl ⟨ab,ab⟩ underlying25 ba).h o trivial) ?_ (hS:=λ_=>h);refine dt 0 ((iP (S:=λW=>W=o) ⟨z,0+y.toNat,none⟩ (.u u) underlying24 rfl (λW e=>by rw [e];exact q)).h o rfl) ?_ (hS:=λ_=>h);refine ae Dm.eng {ov:=[(85,kW w0.x.length cap.cx .i64 5 p ⟨bc,by rw [h.fit.x];decide⟩ underlying25 ba)]} 40 h λG t=>?_;obtain ⟨a,v⟩:=t.putX zs p 5 bc C;refine bx (R:=[]) trivial {} 10 a ?_;refine aj (R:=[]) trivial {} 1 ?_;exact aL (λ_=>True) (af _ _ (d7 d _ _ _ v))
 ·refine kl (az d 6 bc V h.cur) ?_;rintro e l ⟨y,rfl,J,f⟩;refine ⟨_,0,rfl,h.next f.out,?_⟩;have I:=f.out.2.size;replace h:=h.next f.out;refine dt 0 (OV l c) ?_ (hS:=λ_=>h.below (s l));have r:=D4 l (.cells #[.u 268435456,.u 33554432,.u 33603576,.u 33570816,.u 268435457,.u c] 24);replace h:=h.below (s l);generalize l.alloc (.cells #[.u 268435456,.u 33554432,.u 33603576,.u 33570816,.u 268435457,.u c] 24)=o at *;generalize l.heap.size=z at *;clear f;obtain ⟨u,C,q⟩:=sV [268435456,33554432,33603576,33570816,268435457,c] 24 r D (k:=0+y.toNat) bv;refine dt 0 ((kW (S:=λ_=>True) 6 6 .i64 y (a:=some ⟨z,0,none⟩) rfl ⟨ab,ab⟩ underlying25 ba).h o trivial) ?_ (hS:=λ_=>h);refine dt 0 ((iP (S:=λW=>W=o) ⟨z,0+y.toNat,none⟩ (.u u) underlying24 rfl (λW e=>by rw [e];exact q)).h o rfl) ?_ (hS:=λ_=>h);refine ae Dm.eng {ov:=[(85,kW w0.x.length cap.cx .i64 5 p ⟨bc,by rw [h.fit.x];decide⟩ underlying25 ba)]} 40 h λG t=>?_;obtain ⟨a,v⟩:=t.putX zs p 5 bc C;refine bx (R:=[]) trivial {} 10 a ?_;refine aj (R:=[]) trivial {} 1 ?_;exact aL (λ_=>True) (af _ _ (d7 d _ _ _ v))
theorem d5 (f:Code M B n b):Dj M g B n w A m 5:=by
 intro w0 cap W h;refine aj (R:=[]) trivial {} 20 ?_;refine gJ (λx:MV × MA × Nat=>[(0,.p g 0,0),(2,.p A.heap.size 0,0),(8,.p m 0,1),(10,.i (x.2.2:Nat),0)]) (λj x W=>x.2.2+j=32/\Dm M g B n w A A.heap.size m x.1 x.2.1 W) 31 (w0,cap,1) ba ba ⟨rfl,h⟩ ?_;clear h;rintro j ⟨w0,cap,i⟩ W ⟨F,h⟩ R u;dsimp only at F h;cases j with
 | zero =>have d:decide ((i:Int)<32)=false:=ck;refine aj (R:=[]) trivial {eq:=[(48,an d)]} 8 ?_;exact af _ _ (d6 f _ _ _ h)
 | succ j =>
   have d:decide ((i:Int)<32):=ek;have U:i<32:=ab;have a:IntKind.i64.wrap ((i:Nat)+1:Int)=((i+1:Nat):Int):=e8;obtain ⟨zs,_,q,_⟩:=h.atX;obtain ⟨t,d8⟩:∃ t,decide ((i:Int)<8)=t:=⟨_,rfl⟩;cases t;case' true =>refine aL (Dm M g B n w A A.heap.size m w0 cap) ?_;refine aj (R:=[]) trivial {eq:=[(48,an d),(52,an d8)]} 60 ?_
   case' false =>
    refine aC (R:=[]) trivial {eq:=[(48,an d),(52,an d8)]} 60 (bA f 4 bc _ h.cur) ?_;rintro e V ⟨c,rfl,l⟩;refine ⟨_,0,rfl,?_⟩;replace h:=h.next l.out;clear l;cases c;case false=>exact dY (R:=[]) trivial {eq:=[(50,cR .i64 a)]} 60 λzs p=>u zs V j (_,_,i+1) ab (p.less ba) ⟨cb,h⟩
    case' true =>refine aL (Dm M g B n w A A.heap.size m w0 cap) ?_;refine aj (R:=[]) trivial {} 60 ?_
   all_goals
    refine fV 2 ?_
    refine aT Dm.eng {} 30 (h.below (A8 _ _).drew) (λW k=>lu f W k.cur) ?_
    rintro P e Q r ⟨y,rfl,J,l⟩
    refine ⟨_,0,rfl,λ_=>r.next l.out,?_⟩
    refine ae Dm.eng {ov:=[(62,kW w0.x.length cap.cx .i64 (i:Nat) q ⟨ab,by rw [r.fit.x];omega⟩ underlying25 ba)]} 40 (r.next l.out) λD G=>?_
    obtain ⟨C,o⟩:=G.putX zs q (0+((i:Nat):Int).toNat) ab (v:=y) J
    refine bx (R:=[]) trivial {} 10 C ?_
    clear C
    generalize D.setCell _ _=L at o ⊢
    refine aC (R:=[]) trivial {} 40 (bA f 2 bc _ o.cur) ?_
    rintro e E ⟨c,rfl,l⟩
    refine ⟨_,0,rfl,?_⟩
    replace o:=o.next l.out
    cases c with
    | false=>exact dY (R:=[]) trivial {eq:=[(50,cR .i64 a)]} 60 λzs p=>u zs E j (_,_,i+1) ab (p.less ba) ⟨cb,o⟩
    | true =>
      generalize xM w0 _=N at o ⊢
      refine aL (Dm M g B n w A A.heap.size m N cap) ?_
      refine aj (R:=[]) trivial {} 40 ?_
      refine fV 2 ?_
      refine aT Dm.eng {} 30 (o.below (A8 _ _).drew) (λW k=>az f 1024 bc W k.cur) ?_
      rintro S e T s ⟨z,rfl,X,l⟩
      refine ⟨_,0,rfl,λ_=>s.next l.out,?_⟩
      refine ae Dm.eng {ov:=[(73,kW N.x.length cap.cx .i64 (i:Nat) q ⟨ab,by rw [s.fit.x];omega⟩ underlying25 ba)]} 40 (s.next l.out) λO H=>?_
      obtain ⟨K,I⟩:=H.putX zs q (0+((i:Nat):Int).toNat) ab (v:=Uz.wrap (2147483648+Uz.wrap (8*Uz.wrap z))) (aW _)
      refine bx (R:=[]) trivial {} 10 K ?_
      exact dY (R:=[]) trivial {eq:=[(50,cR .i64 a)]} 60 λzs p=>u zs _ j (_,_,i+1) ab (p.less ba) ⟨cb,I⟩
theorem d4 (o:Code M B n b) {zs N:Nat} (x:N=4096\/N=8192) (r:M.heap.size<=A.heap.size) (h:Rm M g B n w A zs N W) (hr:W.heap[A.heap.size]?=some (.cells (ak zeroM zeroA) 29 (0,0))):Wg prog (λ_=>True) (F0 prog Tryz.f37 λe s=>∃ (w0:MV) (cap:MA),e=.returned (.agg (ak w0 cap))/\Hid (Mf w0)/\Hid (bj A.heap.size s.heap.size s (aF w0 cap))/\Hid (Cs M g B n w A s)) Tryz.f37.ntmps [.code (au 4 (aM Tryz.f37))] [(0,.p g 0,0),(2,.p A.heap.size 0,0),(3,.slice (some ⟨zs,0,none⟩) N N,0)] W:=by
 obtain ⟨c,a,k,f,p,-⟩:=h;have j:c.length=N:=by have:=k.1;simpa using this
 have l:=qw (some ⟨zs,0,none⟩) N N c W j ab (fJ k);have i:Mf (Bk c):=OU c a (by rw [j];exact x);refine aC (R:=[]) trivial {} 40 l ?_;rintro e V ⟨C,rfl,d,m⟩;refine ⟨_,0,rfl,?_⟩;generalize Bk c=w0 at *;have t:=f.trans (Cs.of_below f.1 m);have v:=aD m hr;have E:=(C5.1 hr).1;have D:=m.size;have u:Dm M g B n w A A.heap.size V.heap.size w0 C (V.alloc (.cells (ak w0 C) 29)):=
  ⟨t.trans (Cs.alloc t.1 _),(A9 _ _ _ ab).trans v,⟨D4 _ _,(d.below (bal _ _)).low ab di,λq y e=>by have:=d.hi q y _ e;omega,ab⟩,i,p,I5 _,r⟩
 refine gz (R:=[]) trivial {} 10 1 (ct (T:=29) (z:=.agg (ak zeroM zeroA)) ba V) ?_;refine bx (R:=[]) trivial {} 10 (av (ty:=29) (cells:=ak w0 C) (D4 V _) ba ba (rL w0 C)) ?_;rw [O1];refine aj (R:=[]) trivial {} 2 ?_;exact af _ _ (d5 o _ _ _ u)
theorem Re (j:D=4096\/D=8192):∃ W',(do pure (.value (<- N1 22 (.i D) (.i D))):Sem I2).run prog C=.ok (.value (.slice (some ⟨C.heap.size,0,none⟩) D D)) W'/\W'.ownsRow C.heap.size 5 1 (.slice (some ⟨C.heap.size,0,none⟩) D D) D ((D3 D (0:Int)).map (Value.int .u8))/\C.grownBy W' none:=by obtain ⟨i,f,b,c,d⟩:=info_parts info5;obtain ⟨W',h,g,e⟩:=run_make_full (P:=prog) C C.heap.size 22 5 i (.int .u8 0) 1 underlying22 f b c .i64 .i64 D (by rw [d];omega) fb (I5 _);have a:(N1 22 (.i D) (.i D)).run prog C=.ok (.slice (some ⟨C.heap.size,0,none⟩) D D) W':=h;refine ⟨W',by simp [a],?_,e⟩;rw [List.map_replicate,<- toList_madeCells_one];simpa [Value.cells] using g
theorem OX {zs:List Int} (f:Code M B n zs) (cap:D8) (E:ma M cap g B n w):I4 prog 37 #[.p g 0] cap λe J=>∃ (w0:MV) (A:MA),e=.returned (.agg (ak w0 A))/\Hid (Mf w0)/\Hid (bj cap.heap.size J.heap.size J (aF w0 A))/\Hid (Cs M g B n w cap J):=by
 refine br (S:=λ_=>True) (args:=[.p g 0]) [(ak zeroM zeroA,29)] func37 ?_;have F:=E.lt;have G:=E.below.size;have s:Cs M g B n w cap (bP cap [(ak zeroM zeroA,29)]):=Cs.alloc E _;have L:=(Bs.start cap [(ak zeroM zeroA,29)]).1 0 _ rfl;have Y:(bP cap [(ak zeroM zeroA,29)]).heap.size=cap.heap.size+1:=by simp [bP]
 generalize bP cap [(ak zeroM zeroA,29)]=Z at *;refine aC (R:=[]) trivial {} 40 (az f 2 bc Z s.1) ?_;rintro e r ⟨K,rfl,I,l⟩;refine ⟨_,0,rfl,?_⟩;obtain ⟨N,hN,o⟩:∃ N:Nat,IntKind.i64.wrap (4096*IntKind.i64.wrap (1+K))=(N:Int)/\(N=4096\/N=8192):=by
  obtain rfl|rfl:K=0\/K=1:=ab;·exact ⟨4096,cp,.inl rfl⟩
  ·exact ⟨8192,cp,.inr rfl⟩
 obtain ⟨O,U,T,i⟩:=Re r N o;have u:=s.trans l.out;have z1:=l.out.2.size;have v:Rm M g B n w cap r.heap.size N O:=⟨_,λy p=>by rw [List.eq_of_mem_replicate p];exact Vr ab ab,cQ T ab,u.trans ⟨u.1.grown i,i.os,i.tape,i.output,i.size,λk hk _=>i.block k hk di⟩,F,ab⟩;have R1:=l.out.keep L ab;have R2:=(i.block _ (C5.1 R1).1 di).trans R1;have hbr:cap.heap.size<r.heap.size:=ab
 refine aj (R:=[]) trivial {eq:=[(14,cR .i64 hN)]} 2 ?_;refine dt 0 U ?_;generalize r.heap.size=b at *;clear U T i R1 u L Y s z1;refine aj (R:=[]) trivial {} 6 ?_;refine af [.code (au 3 (aM Tryz.f37))] [(0,.p g 0,0),(2,.p cap.heap.size 0,0),(3,.slice (some ⟨b,0,none⟩) N N,0),(4,.u 2147483648,0)] ?_;refine aC (R:=[]) trivial {} 40 (az f 30 bc O v.cur) ?_;rintro e W3 ⟨x,rfl,⟨H,I⟩,m⟩;refine ⟨_,0,rfl,?_⟩;obtain ⟨x,rfl⟩:=Int.eq_ofNat_of_zero_le H;refine aj (R:=[]) trivial {} 20 ?_;refine gJ (λx:Nat × Nat=>[(0,.p g 0,0),(2,.p cap.heap.size 0,0),(3,.slice (some ⟨b,0,none⟩) N N,0),(4,.u (2147483648+((4*x.1:Nat):Int)),0),(5,.i (x.2:Nat),0)]) (λk x W=>x.2=k/\x.1+k<=30/\Rm M g B n w cap b N W/\W.heap[cap.heap.size]?=some (.cells (ak zeroM zeroA) 29 (0,0))) x (0,x) ba ba ⟨rfl,cb,v.next m.out,m.out.keep R2 ab⟩ ?_;clear v R2 m;rintro k ⟨j,k'⟩ W ⟨Q,hj,D,R⟩ Rr hR;dsimp only at Q hj;subst Q;cases k' with
 | zero =>have d:decide (0<((0:Nat):Int))=false:=bc;refine aj (R:=[]) trivial {eq:=[(19,an d)]} 8 ?_;exact af _ _ (d4 f o G D R)
 | succ k =>
   have d:decide (0<((k+1:Nat):Int)):=ek;have a:Uz.wrap (2147483648+((4*j:Nat):Int)+4)=2147483648+((4*(j+1):Nat):Int):=dv;have z:IntKind.i64.wrap (((k+1:Nat):Int)-1)=((k:Nat):Int):=e8;refine aC (R:=[]) trivial {eq:=[(19,an d)]} 60 (OS f _ D.cur) ?_;rintro e V ⟨ii,rfl,hii,h⟩;refine ⟨_,0,rfl,?_⟩;replace R:=h.out.keep R ab;replace D:=D.next h.out;refine aC (R:=[]) trivial {} 60 (Bi ii V) ?_;rintro e V ⟨y,t,rfl,p,C⟩;refine ⟨_,0,rfl,?_⟩;replace R:=aD C R;replace D:=D.next (Cs.of_below D.cur C);clear h C;cases t;case' false =>refine aC (R:=[]) trivial {} 60 (lu f _ D.cur) ?_;rintro e V ⟨y,rfl,p,h⟩;refine ⟨_,0,rfl,?_⟩;replace R:=h.out.keep R ab;replace D:=D.next h.out
   case' true =>refine aC (R:=[]) trivial {} 60 (bA f 30 bc _ D.cur) ?_;rintro e V ⟨c,rfl,h⟩;refine ⟨_,0,rfl,?_⟩;replace R:=h.out.keep R ab;replace D:=D.next h.out;clear h;cases c;case' true =>refine aC (R:=[]) trivial {} 60 (lu f _ D.cur) ?_;rintro e V ⟨y,rfl,p,h⟩;refine ⟨_,0,rfl,?_⟩;replace R:=h.out.keep R ab;replace D:=D.next h.out
   all_goals
    refine aC (R:=[]) trivial {} 60 (OT D ab (4*j) 4 y ab ab p) ?_
    rintro e P ⟨rfl,X,gP⟩
    refine ⟨_,0,rfl,?_⟩
    exact dY (R:=[]) trivial {eq:=[(41,cR .u64 a),(21,cR .i64 z)]} 60 λq hq=>hR q P k (j+1,k) ab (hq.less ba) ⟨rfl,cb,X,(gP.block _ (C5.1 R).1 bv).trans R⟩
structure Ma (M:MV):Prop where
 len:iR M
 ux:∀ j,U (M.x.getD j 0)
 ucs:∀ j,U (M.cs.getD j 0)
 bram:∀ y ∈ M.ram,(Lit.int .u8 y).wf
 d:RW M.d
 pc:U M.pc
 hd:U M.hd
 pos:0<M.x.length/\0<M.ram.length
theorem Mf.pos (h:Mf k):1<k.x.length/\1<k.ram.length:=by have:=h.x;have:=h.ram;omega
theorem Mf.any (h:Mf k):Ma k:=⟨h.len,h.ux,h.ucs,h.bram,h.d.any,h.pc,h.hd,by have:=h.pos;omega⟩
theorem IL (h:Sl p M (some ⟨w,0,none⟩) b):Sl p M (some ⟨w,1,none⟩) b.tail:=by intro i d;rw [C6] at d;obtain ⟨f,g,e,a,c⟩:=h (i+1) ab;cases e;refine ⟨w,1,rfl,a,?_⟩;rw [show b.tail.getD i 0=b.getD (i+1) 0 from by cases b<;>simp];rw [show 1+i=0+(i+1) from ab];exact c
def KK (M:MV):MV:=⟨M.pc,M.x.tail,M.pr,M.cs,M.ram,M.d,M.hd,M.hl,M.wt⟩
def KL (M:MV):MV:=⟨M.pc,M.x,M.pr,M.cs,M.ram.tail,M.d,M.hd,M.hl,M.wt⟩
def xm (M:MV):MV:=⟨M.pc,M.x,2,M.cs,M.ram,M.d,M.hd,M.hl,M.wt⟩
def WE (A:MA) (b:Nat):MA:=⟨some ⟨b,1,none⟩,A.cx-1,A.ac,A.cc,A.ar,A.cr,A.ai,A.ci,A.ao,A.co⟩
def WF (A:MA) (b:Nat):MA:=⟨A.ax,A.cx,A.ac,A.cc,some ⟨b,1,none⟩,A.cr-1,A.ai,A.ci,A.ao,A.co⟩
def td (B:Nat) (A:MA):Prop:=∀ p,(p=A.ax\/p=A.ac\/p=A.ar\/p=A.ai\/p=A.ao)->∀ b a,p=some ⟨b,a,none⟩->B<=b
theorem pi {xs:List Value} (h:M.ownsRow w j 1 (.slice B n g) n xs) {b d:Nat} (i:B=some ⟨b,d,none⟩):w<=b:=by
 subst i;rcases h.2 with ⟨a,p⟩|⟨c,cap,e,a,f,_⟩;·cases a
 ·cases a;exact f
theorem rM {A:MA} (h:bj w g M (aF k A)):td w A:=by
 intro p a b c e;rcases a with rfl|rfl|rfl|rfl|rfl;·exact pi (h.own (aG A.ax k.x.length A.cx k.x) ef) e
 ·exact pi (h.own (aG A.ac k.cs.length A.cc k.cs) ef) e
 ·exact pi (h.own (aE A.ar k.ram.length A.cr k.ram) ef) e
 ·exact pi (h.own (aE A.ai k.d.xs.length A.ci k.d.xs) ef) e
 ·exact pi (h.own (aE A.ao k.d.ys.length A.co k.d.ys) ef) e
theorem Rf {A:MA} (h:td w A) (e:A.ax=some ⟨g,0,none⟩):td w (WE A g):=by
 intro p b d c a;rcases b with rfl|rfl|rfl|rfl|rfl
 ·have e2:g=d:=by have f:some (⟨g,1,none⟩:F3)=some ⟨d,c,none⟩:=a;injection f with h4;injection h4
  rw [<- e2];exact h A.ax (A6 rfl) g 0 e
 ·exact h A.ac (A5 (A6 rfl)) d c a
 ·exact h A.ar (A5 (A5 (A6 rfl))) d c a
 ·exact h A.ai (A5 (A5 (A5 (A6 rfl)))) d c a
 ·exact h A.ao (A5 (A5 (A5 (A5 rfl)))) d c a
theorem Rh {A:MA} (h:td w A) (e:A.ar=some ⟨g,0,none⟩):td w (WF A g):=by
 intro p b d c a;rcases b with rfl|rfl|rfl|rfl|rfl;·exact h A.ax (A6 rfl) d c a
 ·exact h A.ac (A5 (A6 rfl)) d c a
 ·have e2:g=d:=by have f:some (⟨g,1,none⟩:F3)=some ⟨d,c,none⟩:=a;injection f with h4;injection h4
  rw [<- e2];exact h A.ar (A5 (A5 (A6 rfl))) g 0 e
 ·exact h A.ai (A5 (A5 (A5 (A6 rfl)))) d c a
 ·exact h A.ao (A5 (A5 (A5 (A5 rfl)))) d c a
theorem pj (h:Sl p M B b) (d:M.grownBy A (some g)) (m:g<w) (hn:∀ zs a,B=some ⟨zs,a,none⟩->w<=zs):Sl p A B b:=by intro i j;obtain ⟨zs,a,e,c,f⟩:=h i j;have n:=hn zs a e;refine ⟨zs,a,e,K1 c d.size,?_⟩;have l:=d.block zs c bv;rw [<- f];simp only [P2,l]
theorem KM (h:oe M k r) (b:M.grownBy A (some g)) (a:g<w) (hn:td w r):oe A k r :=
 ⟨pj h.x b a (hn r.ax (A6 rfl)),pj h.cs b a (hn r.ac (A5 (A6 rfl))),pj h.ram b a (hn r.ar (A5 (A5 (A6 rfl)))),pj h.xs b a (hn r.ai (A5 (A5 (A5 (A6 rfl))))),pj h.ys b a (hn r.ao (A5 (A5 (A5 (A5 rfl)))))⟩
theorem KN:x.tail.getD D 0=x.getD (D+1) 0:=by cases x<;>simp
theorem IN (h:Mf k):Ma (KK k)/\dJ (KK k)=false:=by
 refine ⟨⟨⟨by show k.x.tail.length<=_;rw [C6,h.x];omega,h.len.cs,h.len.ram,h.len.xs,h.len.ys⟩,λj=>by show U (k.x.tail.getD j 0);rw [KN];exact h.ux _,h.ucs,h.bram,h.d.any,h.pc,h.hd,by have:=h.pos;show 0<k.x.tail.length/\_;rw [C6];exact ⟨ab,by show 0<k.ram.length;omega⟩⟩,?_⟩;have:gA (KK k).x.length (KK k).x=false:=by unfold gA;have e:(KK k).x.length=31:=(by show k.x.tail.length=31;rw [C6,h.x]);simp [e]
 unfold dJ;rw [this];simp
theorem DW (h:Mf k):Ma (xm k)/\dJ (xm k)=false:=by
 refine ⟨⟨⟨h.len.x,h.len.cs,h.len.ram,h.len.xs,h.len.ys⟩,h.ux,h.ucs,h.bram,h.d.any,h.pc,h.hd,h.any.pos⟩,?_⟩;have:bm (xm k).cs.length (xm k).cs (xm k).pr=false:=by unfold bm;rw [show bZ (xm k).pr=false from rfl,Bool.and_false]
 unfold dJ;rw [this];simp
theorem IP (h:Mf k):Ma (KL k)/\dJ (KL k)=false:=by
 refine ⟨⟨⟨h.len.x,h.len.cs,by show k.ram.tail.length<=_;rw [C6];have:=h.len.ram;omega,h.len.xs,h.len.ys⟩,h.ux,h.ucs,λy a=>h.bram y (List.mem_of_mem_tail a),h.d.any,h.pc,h.hd,by have:=h.pos;show _/\0<k.ram.tail.length;rw [C6];exact ⟨by show 0<k.x.length;omega,by omega⟩⟩,?_⟩;have:bf (KL k).ram.length=false:=by have e:(KL k).ram.length=4095\/(KL k).ram.length=8191:=(by show k.ram.tail.length=_\/k.ram.tail.length=_;rw [C6];rcases h.ram with e | e<;>rw [e]<;>simp);rcases e with e | e<;>rw [e]<;>decide
 unfold dJ;rw [this];simp
set_option maxRecDepth 100000
theorem rN (h:Sl p W B b) {zs:Nat} (cs:Array Value) (hn:∀ c d,B=some ⟨c,d,none⟩->zs<c):Sl p (W.setRow zs cs) B b:=λj g=>by obtain ⟨c,o,e,a,f⟩:=h j g;refine ⟨c,o,e,by rw [setRow_size];exact a,?_⟩;simp only [P2] at f ⊢;rw [I1 _ _ _ _ (by have:=hn c o e;omega)];exact f
theorem uL {N:MV} {C:MA} (hr:W.heap[m]?=some (.cells (ak N C) 29 (0,0))) (hz:W.heap[A.heap.size]?=some (.cells (ak zeroM zeroA) 29 (0,0))) (o:Ma N) (f:oe W N C) (fm:dJ N->bj (A.heap.size+1) W.heap.size W (aF N C)) (v:td (A.heap.size+1) C) (r:Cs M g B n w A W) (s:g<A.heap.size) (l:M.heap.size<=A.heap.size): Wg prog (λ_=>True) (F0 prog Tryz.f13 λe h=>∃ (w0:MV) (cap:MA),e=.returned (.agg (ak w0 cap))/\Hid (Ma w0)/\Hid (oe h w0 cap)/\Hid (dJ w0->bj A.heap.size h.heap.size h (aF w0 cap))/\Hid (td A.heap.size cap)/\Hid (Cs M g B n w A h)) Tryz.f13.ntmps [.code (au 3 (aM Tryz.f13))] [(0,.p g 0,0),(2,.p A.heap.size 0,0),(3,.p m 0,1)] W:=by
 refine bx (R:=[⟨m,ak N C,[]⟩]) ⟨⟨_,_,hr⟩,trivial⟩ {} 40 (av (g:=A.heap.size) (t:=29) (ty:=29) (cells:=ak N C) hz ba rfl (rL N C)) ?_;have q:∀ p,(p=C.ax\/p=C.ac\/p=C.ar\/p=C.ai\/p=C.ao)->∀ c d,p=some ⟨c,d,none⟩->A.heap.size<c:=λp i c d e=>by have:=v p i c d e;omega
 exact ix (R:=[]) trivial {} 40 λb u=>⟨_,G1 rfl b.tmps _ A.heap.size 29 (ak N C) (0,0) _ (u.slot ba) (I3 _ _ _ _ _ _ hz) underlying29 rfl ba,N,C,rfl,o,⟨rN f.x _ (q _ (.inl rfl)),rN f.cs _ (q _ (.inr (.inl rfl))),rN f.ram _ (q _ (.inr (.inr (.inl rfl)))),rN f.xs _ (q _ (.inr (.inr (.inr (.inl rfl))))),rN f.ys _ (q _ (.inr (.inr (.inr (.inr rfl)))))⟩,λk=>((fm k).mono λj x _ _=>I1 _ _ _ _ ab).low ab rz,λp i c d e=>by have:=q p i c d e;omega,r.behind (aI (A8 _ _) (I5 _) _) s l⟩
theorem xn (h:Dm M g B n w A A.heap.size m k r W):Wg prog (λ_=>True) (F0 prog Tryz.f13 λe b=>∃ (k:MV) (r:MA),e=.returned (.agg (ak k r))/\Hid (Ma k)/\Hid (oe b k r)/\Hid (dJ k->bj A.heap.size b.heap.size b (aF k r))/\Hid (td A.heap.size r)/\Hid (Cs M g B n w A b)) Tryz.f13.ntmps [.code (au 3 (aM Tryz.f13))] [(0,.p g 0,0),(2,.p A.heap.size 0,0),(3,.p m 0,1)] W :=
 uL h.mp.row h.res h.fit.any h.mp.fam.msl (λ_=>h.mp.fam) (rM h.mp.fam) h.cu h.gr h.w0w
def WG {S:D8->Prop} {T E:TypeId} (a:Option F3) (xs:List Int) (c:Nat) {b:Nat} (i:a=some ⟨b,0,none⟩) (hx:1<xs.length) (k:xs.length<=c) (h:prog.underlying T=some (.slice E)) (hz:(prog.info? E).map (·.size)=some 1):Ov prog S :=
 ⟨do pure (.value (<- Instr.sliceAt T (.slice a xs.length c) (some (.i 1)) none none)),.slice (some ⟨b,1,none⟩) xs.tail.length (c-1),0,λW _=>by
  subst i
  obtain ⟨l,j,e⟩:=Option.map_eq_some_iff.1 hz
  have f:prog.elem T=E:=by simp [Program.elem,h]
  have g:prog.underlying T=some (.slice (prog.elem T)):=by rw [f];exact h
  have d:¬ c=1:=ab
  have r:=run_slice_l (P:=prog) (w:=W) T (some ⟨b,0,none⟩) xs.length c g .i64 1 ab ab
  rw [<- run_sliceAt_slice (P:=prog) (w:=W) T _ _ _ _ g,f] at r
  simp [r,sizeOf,typeInfo,j,e,sliced,d,Addr.add,Result.andThen]⟩
theorem OY (h:Dm M g B n w A A.heap.size m k r W) (i:Nat) (v:Value):bj (A.heap.size+1) W.heap.size (W.setCell ⟨m,i,none⟩ v) (aF k r)/\Cs M g B n w A (W.setCell ⟨m,i,none⟩ v)/\(W.setCell ⟨m,i,none⟩ v).heap[A.heap.size]?=some (.cells (ak zeroM zeroA) 29 (0,0)):=by have c:=h.mp.lo;have b:Below A.heap.size W (W.setCell ⟨m,i,none⟩ v):=(A8 _ _).setCell (by show A.heap.size<=m;omega) v;exact ⟨by have:=Mp.fam_set h.mp.fam h.mp.ne i v;rwa [aO] at this,h.cu.behind b h.gr h.w0w,(Below.heap_setCell _ _ _ _ (by show A.heap.size≠m;omega)).trans h.res⟩
theorem DX {w0:D8} {g n cap:Nat} {a:Option F3} {zs:List Int} (j:Code w0 a n zs) (w:D8) (E:ma w0 w g a n cap):I4 prog 13 #[.p g 0] w λe H=>∃ (M:MV) (A:MA),e=.returned (.agg (ak M A))/\Hid (Ma M)/\Hid (oe H M A)/\Hid (dJ M->bj w.heap.size H.heap.size H (aF M A))/\Hid (td w.heap.size A)/\Hid (Cs w0 g a n cap w H):=by
 refine br (S:=λ_=>True) (args:=[.p g 0]) [(ak zeroM zeroA,29)] func13 ?_;have O:=E.lt;have P:=E.below.size;have I:Cs w0 g a n cap w (bP w [(ak zeroM zeroA,29)]):=Cs.alloc E _;have U:=(Bs.start w [(ak zeroM zeroA,29)]).1 0 _ rfl;have Y:(bP w [(ak zeroM zeroA,29)]).heap.size=w.heap.size+1:=by simp [bP]
 generalize bP w [(ak zeroM zeroA,29)]=Z at *;refine aC (R:=[]) trivial {} 40 (OX j Z I.1) ?_;rintro e V ⟨M,A,rfl,s,o,d⟩;refine ⟨_,0,rfl,?_⟩;have z1:=d.out.2.size;have R1:=d.out.keep U ab;have J:=I.trans d.out;have h:Dm w0 g a n cap w w.heap.size V.heap.size M A (V.alloc (.cells (ak M A) 29)):=
  ⟨J.trans (Cs.alloc J.1 _),(A9 _ _ _ ab).trans R1,⟨D4 _ _,(o.out.below (bal _ _)).low ab di,λq hq e=>by have:=o.out.hi q hq _ e;omega,ab⟩,s.out,O,I5 _,P⟩
 refine gz (R:=[]) trivial {} 10 1 (ct (T:=29) (z:=.agg (ak zeroM zeroA)) ba V) ?_;refine bx (R:=[]) trivial {} 10 (av (ty:=29) (cells:=ak M A) (D4 V _) ba ba (rL M A)) ?_;rw [O1];refine aj (R:=[]) trivial {} 1 ?_;generalize V.alloc (.cells (ak M A) 29)=V1 at *;generalize V.heap.size=m at *;refine af [.code (au 2 (aM Tryz.f13))] [(0,.p g 0,0),(2,.p w.heap.size 0,0),(3,.p m 0,1)] ?_;clear s o d R1 J I U Y;refine aC (R:=[]) trivial {} 40 (bA j 20 bc _ h.cur) ?_;rintro e V2 ⟨c,rfl,d⟩;refine ⟨_,0,rfl,?_⟩;replace h:=h.next d.out;cases c with
 | false =>refine aj (R:=[]) trivial {} 3 ?_;exact af _ _ (xn h)
 | true =>
 refine aC (R:=[]) trivial {} 40 (az j 7 bc _ h.cur) ?_;rintro e u ⟨x,rfl,hx,d⟩;refine ⟨_,0,rfl,?_⟩;replace h:=h.next d.out;obtain rfl|rfl|rfl|rfl|rfl|rfl|rfl:x=0\/x=1\/x=2\/x=3\/x=4\/x=5\/x=6:=ab
 ·refine aL (Dm w0 g a n cap w w.heap.size m M A) ?_;refine aj (R:=[]) trivial {} 60 ?_;refine fV 2 ?_;replace h:=h.below (A8 u.heap.size u).drew;refine aT Dm.eng {} 30 h (λW k=>az j 4 bc W k.cur) ?_;rintro W1 e W2 D ⟨y,rfl,X,d⟩;refine ⟨_,0,rfl,λ_=>D.next d.out,?_⟩;refine ae Dm.eng {} 40 (D.next d.out) λK B=>?_;refine bx (R:=[]) trivial {} 10 (bG (i:=0) (T:=24) (v:=.u (Uz.wrap (M.pc+Uz.wrap y))) B.mp.row ro ba rfl) ?_;refine aj (R:=[]) trivial {} 2 ?_;exact aL (λ_=>True) (af _ _ (xn (B.setPc _ (aW _))))
 ·refine aL (Dm w0 g a n cap w w.heap.size m M A) ?_;refine aj (R:=[]) trivial {} 60 ?_;refine fV 2 ?_;replace h:=h.below (A8 u.heap.size u).drew;obtain ⟨b,_,f,_⟩:=h.atX;refine aT Dm.eng {} 30 h (λW k=>az j 2 bc W k.cur) ?_;rintro W1 e W2 D ⟨y,rfl,X,d⟩;refine ⟨_,0,rfl,λ_=>D.next d.out,?_⟩;refine ae Dm.eng {ov:=[(26,kW M.x.length A.cx .i64 0 f ⟨bc,by rw [h.fit.x];decide⟩ underlying25 ba)]} 40 (D.next d.out) λK B=>?_;obtain ⟨Q,L⟩:=B.putX b f 0 bc (v:=Uz.wrap y) (aW _);refine bx (R:=[]) trivial {} 10 Q ?_;refine aj (R:=[]) trivial {} 2 ?_;exact aL (λ_=>True) (af _ _ (xn L))
 ·obtain ⟨b,f,l⟩:∃ b,A.ax=some ⟨b,0,none⟩/\M.x.length<=A.cx:=by
   rcases (h.mp.xrow).2 with ⟨_,e⟩|⟨b,_,_,e,_,_,t,_⟩;·have:=h.fit.pos;omega
   ·simp only [Value.slice.injEq,true_and] at e;exact ⟨b,e.1,by rw [e.2];exact t⟩
  obtain ⟨r,k,F⟩:=OY h 1 (.slice (some ⟨b,1,none⟩) M.x.tail.length (A.cx-1));refine bx h.rows {ov:=[(31,WG A.ax M.x A.cx f (by have:=h.fit.pos;omega) l underlying25 ba)]} 60 (bG (i:=1) (T:=25) (v:=.slice (some ⟨b,1,none⟩) M.x.tail.length (A.cx-1)) h.mp.row ro ba rfl) ?_;refine aj (R:=[]) trivial {} 2 ?_;have p:=r.msl;have G:=p.x;rw [f] at G;exact af _ _ (uL (N:=KK M) (C:=WE A b) (sZ h.mp.row 1 _) F (IN h.fit).1 ⟨IL G,p.cs,p.ram,p.xs,p.ys⟩ (λk=>by rw [(IN h.fit).2] at k;cases k) (Rf (rM h.mp.fam) f) k h.gr h.w0w)
 ·refine aL (Dm w0 g a n cap w w.heap.size m M A) ?_;refine aj (R:=[]) trivial {} 60 ?_;refine fV 2 ?_;replace h:=h.below (A8 u.heap.size u).drew;obtain ⟨b,_,f,_⟩:=h.atC;have c9:∀ W,Dm w0 g a n cap w w.heap.size m M A W->W.cell? ⟨b,0+(9:Int).toNat,none⟩=some (.u (M.cs.getD 9 0)):=λW k=>by obtain ⟨b',_,e,_,_,E⟩:=k.atC;rw [f] at e;cases e;exact (E 9 bc).1
  refine ae Dm.eng {ov:=[(39,kW M.cs.length A.cc .i64 9 f ⟨bc,sb⟩ underlying25 ba),(40,iP ⟨b,0+(9:Int).toNat,none⟩ (.u (M.cs.getD 9 0)) underlying24 rfl c9),(42,kW M.cs.length A.cc .i64 9 f ⟨bc,sb⟩ underlying25 ba)]} 40 h λK B=>?_;obtain ⟨Q,L⟩:=B.putC b f 9 bc (v:=bits .xor .u64 (M.cs.getD 9 0) 128) (ah _ _ _);refine bx (R:=[]) trivial {} 10 Q ?_;refine aj (R:=[]) trivial {} 2 ?_;exact aL (λ_=>True) (af _ _ (xn L))
 ·obtain ⟨r,k,F⟩:=OY h 2 (.i 2);refine bx h.rows {} 60 (bG (i:=2) (T:=2) (v:=.i 2) h.mp.row ro ba rfl) ?_;refine aj (R:=[]) trivial {} 2 ?_;exact af _ _ (uL (N:=xm M) (C:=A) (sZ h.mp.row 2 _) F (DW h.fit).1 ⟨r.msl.x,r.msl.cs,r.msl.ram,r.msl.xs,r.msl.ys⟩ (λk=>by rw [(DW h.fit).2] at k;cases k) (rM h.mp.fam) k h.gr h.w0w)
 ·refine aC (R:=[]) trivial {} 60 (az j 2 bc _ h.cur) ?_;rintro e K ⟨y,rfl,X,d⟩;refine ⟨_,0,rfl,?_⟩;replace h:=h.next d.out;refine bx h.rows {} 60 (bG (i:=11) (T:=24) (v:=.u (Uz.wrap y)) h.mp.row ro ba rfl) ?_;refine aj (R:=[]) trivial {} 2 ?_;exact af _ _ (xn (h.setHd _ (aW _)))
 ·obtain ⟨b,f,l⟩:∃ b,A.ar=some ⟨b,0,none⟩/\M.ram.length<=A.cr:=by
   rcases (h.mp.rrow).2 with ⟨_,e⟩|⟨b,_,_,e,_,_,t,_⟩;·have:=h.fit.pos;omega
   ·simp only [Value.slice.injEq,true_and] at e;exact ⟨b,e.1,by rw [e.2];exact t⟩
  obtain ⟨r,k,F⟩:=OY h 4 (.slice (some ⟨b,1,none⟩) M.ram.tail.length (A.cr-1));refine bx h.rows {ov:=[(56,WG A.ar M.ram A.cr f (by have:=h.fit.pos;omega) l underlying22 ba)]} 60 (bG (i:=4) (T:=22) (v:=.slice (some ⟨b,1,none⟩) M.ram.tail.length (A.cr-1)) h.mp.row ro ba rfl) ?_;refine aj (R:=[]) trivial {} 2 ?_;have p:=r.msl;have G:=p.ram;rw [f] at G;exact af _ _ (uL (N:=KL M) (C:=WF A b) (sZ h.mp.row 4 _) F (IP h.fit).1 ⟨p.x,p.cs,IL G,p.xs,p.ys⟩ (λk=>by rw [(IP h.fit).2] at k;cases k) (Rh (rM h.mp.fam) f) k h.gr h.w0w)
def yi (M:MV):List Int:=if dJ M=true then M.d.ys else []
theorem xo (M:MV) (A:MA) (w:D8) (hl:iR M) (hs:oe w M A) (o:∀ j,U (M.cs.getD j 0)):I4 prog 10 #[.agg #[.u M.pc,.slice A.ax M.x.length A.cx,.i M.pr,.slice A.ac M.cs.length A.cc,.slice A.ar M.ram.length A.cr,.u M.d.t,.u M.d.cm,.bool M.d.so,.slice A.ai M.d.xs.length A.ci,.slice A.ao M.d.ys.length A.co,.i M.d.ir,.u M.hd,.bool M.hl,.bool M.wt]] w λe c=>∃ (r:Option F3) (s:Nat),e=.returned (.slice r (yi M).length s)/\c.ownsRow w.heap.size 5 1 (.slice r (yi M).length s) (yi M).length ((yi M).map (Value.int .u8))/\Bw w c:=by
 have d:Hid (∀ c,Bw w c->CB 11 #[.agg #[.u M.pc,.slice A.ax M.x.length A.cx,.i M.pr,.slice A.ac M.cs.length A.cc,.slice A.ar M.ram.length A.cr,.u M.d.t,.u M.d.cm,.bool M.d.so,.slice A.ai M.d.xs.length A.ci,.slice A.ao M.d.ys.length A.co,.i M.d.ir,.u M.hd,.bool M.hl,.bool M.wt]] c (.bool (dJ M))):=λc J=>dZ M A c hl (hs.below J) o;cases h:dJ M with
 | false =>rw [h] at d;have g:yi M=[]:=(by simp [yi,h]);rw [g];clear hl hs h g o;go_enter func10,ntmps10;go_wp2_with fail;refine (d.out _ (bal _ _)).mono ?_;rintro e q ⟨rfl,b⟩;have u:=aq (aa (bal _ _) b);clear b d;go_wp2_with fail;go_ret;exact ⟨none,0,rfl,⟨rfl,.inl ⟨rfl,rfl⟩⟩,u.out⟩
 | true =>rw [h] at d;have g:yi M=M.d.ys:=(by simp [yi,h]);rw [g];have z:Hid (M.d.ys.length<=1048576):=hl.ys;have y:Hid (Sl .u8 w A.ao M.d.ys):=hs.ys;clear hl hs h g o;go_enter func10,ntmps10;go_wp2_with fail;refine (d.out _ (bal _ _)).mono ?_;rintro e q ⟨rfl,b⟩;have R1:q.heap[w.heap.size]?=some (.cells #[.u M.pc,.slice A.ax M.x.length A.cx,.i M.pr,.slice A.ac M.cs.length A.cc,.slice A.ar M.ram.length A.cr,.u M.d.t,.u M.d.cm,.bool M.d.so,.slice A.ai M.d.xs.length A.ci,.slice A.ao M.d.ys.length A.co,.i M.d.ir,.u M.hd,.bool M.hl,.bool M.wt] 29 (0,0)):=aD b (D4 _ _);have m:=aq (aa (bal _ _) b);obtain ⟨K,L,N,O,P,Q,R,S,T,V,D,E,F,G⟩:=aX R1;clear b d R1;go_wp2_with fail;refine (jY _ _ _ M.d.ys q rfl z.out (y.out.below m.out)).mono ?_;rintro e W ⟨H,I,rfl,l,f⟩;have B:=aq l;have t:=aq (aa m.out f);have C:=aq m.out.size;clear l f;go_wp2_with fail;go_ret;exact ⟨H,I,rfl,cQ B.out C.out,t.out⟩
theorem qe (a b:Option F3) (n m ca H:Nat) (xs ys:List Int) (w:D8) (hx:xs.length=n) (hy:ys.length=m) (hn:n<=1048576) (hm:m<=1048576) (hs:Sl .u64 w a xs) (J:Sl .u64 w b ys):CB 24 #[.slice a n ca,.slice b m H] w (.bool (decide (xs=ys))):=by
 by_cases q:n=m
 ·subst q;have r:Hid (xs.length=n):=hx;have s:Hid (ys.length=n):=hy;have I:((n:Int) != (n:Int))=false:=di;clear hx hy;go_enter func24,ntmps24;go_wp2;go_loopw [5] (λi wr=>∃ k:Nat,k<=n/\i=.i k/\Hid (xs.take k=ys.take k)/\Bw w wr)
   (λi _=>n-(intOf i).toNat)
  case atStart=>exact ⟨0,K0 _,rfl,(rfl:xs.take 0=ys.take 0),A8 _ _⟩
  case round =>
   obtain ⟨k,P,rfl,o,c⟩:=hrel;by_cases A:k<n
   ·obtain ⟨E,K,rfl,t,j⟩:=hs k (by have:=r.out;omega);obtain ⟨G,L,rfl,u,l⟩:=J k (by have:=s.out;omega);obtain ⟨x,f⟩:∃ x,x=xs.getD k 0:=⟨_,rfl⟩;obtain ⟨y,g⟩:∃ y,y=ys.getD k 0:=⟨_,rfl⟩;have N:wr.cell? ⟨E,K+k,none⟩=some (.u x):=(by rw [f];exact (c.cell (by exact t)).trans j);have O:wr.cell? ⟨G,L+k,none⟩=some (.u y):=(by rw [g];exact (c.cell (by exact u)).trans l);have B:Hid (x=xs.getD k 0):=f;have C:Hid (y=ys.getD k 0):=g;clear j l f g;by_cases d:x=y
    ·subst d;have R:=IW xs ys k n r.out s.out A o.out (B.out.symm.trans C.out);have D:Hid (xs.take (k+1)=ys.take (k+1)):=R;clear R;have p:(x != x)=false:=di;go_wp2;go_region;all_goals go_wp2
     all_goals go_roundw
     case rel=>exact ⟨k+1,ab,by go_num,D,c.drew⟩
     case measure=>simp [intOf];omega
    ·have F:Hid (decide (xs=ys)=false):=(by show decide (xs=ys)=false;rw [JZ7];intro h;apply d;rw [B.out,C.out,h]);have p:(x != y):=lg;clear d;go_wp2;go_region;all_goals go_wp2
     all_goals go_ret
     all_goals exact ⟨bh,c.drew⟩
   ·have z:k=n:=ab;subst z;have F:Hid (decide (xs=ys)):=(by show decide (xs=ys)=true;rw [JZ6];have h:=o.out;rw [D1 (by have:=r.out;omega),D1 (by have:=s.out;omega)] at h;exact h);go_wp2;go_ret;exact ⟨bh,c⟩
 ·have F:Hid (decide (xs=ys)=false):=(by show decide (xs=ys)=false;rw [JZ7];intro h;apply q;rw [<- hx,<- hy,h]);have p:((n:Int) != (m:Int)):=bv;clear hx hy;go_enter func24,ntmps24;go_wp2;go_ret;exact ⟨bh,A8 _ _⟩
theorem ke (w:D8) (hl:iR t) (Z:oe w t c) (hc:oe w t l): CB 8 #[.agg #[.u t.pc,.slice c.ax t.x.length c.cx,.i t.pr,.slice c.ac t.cs.length c.cc,.slice c.ar t.ram.length c.cr,.u t.d.t,.u t.d.cm,.bool t.d.so,.slice c.ai t.d.xs.length c.ci,.slice c.ao t.d.ys.length c.co,.i t.d.ir,.u t.hd,.bool t.hl,.bool t.wt],.agg #[.u t.pc,.slice l.ax t.x.length l.cx,.i t.pr,.slice l.ac t.cs.length l.cc,.slice l.ar t.ram.length l.cr,.u t.d.t,.u t.d.cm,.bool t.d.so,.slice l.ai t.d.xs.length l.ci,.slice l.ao t.d.ys.length l.co,.i t.d.ir,.u t.hd,.bool t.hl,.bool t.wt]] w (.bool true):=by obtain ⟨ra,rb⟩:=jR (w:=w) (o1:=.cells #[.u t.pc,.slice c.ax t.x.length c.cx,.i t.pr,.slice c.ac t.cs.length c.cc,.slice c.ar t.ram.length c.cr,.u t.d.t,.u t.d.cm,.bool t.d.so,.slice c.ai t.d.xs.length c.ci,.slice c.ao t.d.ys.length c.co,.i t.d.ir,.u t.hd,.bool t.hl,.bool t.wt] 29) (o2:=.cells #[.u t.pc,.slice l.ax t.x.length l.cx,.i t.pr,.slice l.ac t.cs.length l.cc,.slice l.ar t.ram.length l.cr,.u t.d.t,.u t.d.cm,.bool t.d.so,.slice l.ai t.d.xs.length l.ci,.slice l.ao t.d.ys.length l.co,.i t.d.ir,.u t.hd,.bool t.hl,.bool t.wt] 29) (A8 _ _);have RA:=aq ra;have RB:=aq rb;have B0:Hid (Bw w ((w.alloc (.cells #[.u t.pc,.slice c.ax t.x.length c.cx,.i t.pr,.slice c.ac t.cs.length c.cc,.slice c.ar t.ram.length c.cr,.u t.d.t,.u t.d.cm,.bool t.d.so,.slice c.ai t.d.xs.length c.ci,.slice c.ao t.d.ys.length c.co,.i t.d.ir,.u t.hd,.bool t.hl,.bool t.wt] 29)).alloc (.cells #[.u t.pc,.slice l.ax t.x.length l.cx,.i t.pr,.slice l.ac t.cs.length l.cc,.slice l.ar t.ram.length l.cr,.u t.d.t,.u t.d.cm,.bool t.d.so,.slice l.ai t.d.xs.length l.ci,.slice l.ao t.d.ys.length l.co,.i t.d.ir,.u t.hd,.bool t.hl,.bool t.wt] 29))):=(bal _ _).alloc di _;clear ra rb;have HX:Hid (∀ b,Bw w b->CB 24 #[.slice c.ax t.x.length c.cx,.slice l.ax t.x.length l.cx] b (.bool true)):=λb f=>(qe _ _ _ _ _ _ _ _ b rfl rfl hl.x hl.x (Z.x.below f) (hc.x.below f)).mono λe A h=>⟨by rw [h.1];simp,h.2⟩;have HS:Hid (∀ b,Bw w b->CB 24 #[.slice c.ac t.cs.length c.cc,.slice l.ac t.cs.length l.cc] b (.bool true)):=λb f=>(qe _ _ _ _ _ _ _ _ b rfl rfl hl.cs hl.cs (Z.cs.below f) (hc.cs.below f)).mono λe A h=>⟨by rw [h.1];simp,h.2⟩;have HD:Hid (∀ b,Bw w b->CB 25 #[.agg #[.u t.d.t,.u t.d.cm,.bool t.d.so,.slice c.ai t.d.xs.length c.ci,.slice c.ao t.d.ys.length c.co,.i t.d.ir],.agg #[.u t.d.t,.u t.d.cm,.bool t.d.so,.slice l.ai t.d.xs.length l.ci,.slice l.ao t.d.ys.length l.co,.i t.d.ir]] b (.bool true)):=λb f=>Bj t.d _ _ _ _ _ _ _ _ b (Z.xs.below f) (Z.ys.below f) (hc.xs.below f) (hc.ys.below f);have CA:Hid (∀ b,Bw w b->(convert 22 9 (.slice c.ar t.ram.length c.cr)).run prog b=.ok (.string (strOfNums t.ram)) b):=λb f=>mx _ _ _ _ _ rfl (Z.ram.below f);have CC:Hid (∀ b,Bw w b->(convert 22 9 (.slice l.ar t.ram.length l.cr)).run prog b=.ok (.string (strOfNums t.ram)) b):=λb f=>mx _ _ _ _ _ rfl (hc.ram.below f);clear Z hc hl;obtain ⟨pc,x,pr,cs,ram,d,hd,hh,wt⟩:=t;dsimp only at *;generalize strOfNums ram=sr at *;generalize x.length=nx at *;generalize cs.length=nc at *;generalize ram.length=nr at *;generalize d.xs.length=n1 at *;generalize d.ys.length=n2 at *;obtain ⟨E,F,G,H,I,J,K,L,N,O,g,j,C,m⟩:=aX RA.out;obtain ⟨P,Q,R,S,T,U,V,W,X,Y,o,p,q,r⟩:=aX RB.out;go_enter func8,ntmps8;go_wp2_with fail;refine (HX.out _ B0.out).mono ?_;rintro e w1 ⟨rfl,s⟩;have y:=aq (aD s RA.out);have B:=aq (aD s RB.out);have B1:=aq (aa B0.out s);clear s RA RB B0 HX E F G H I J K L N O g j C m P Q R S T U V W X Y o p q r;obtain ⟨E,F,G,H,I,J,K,L,N,O,g,j,C,m⟩:=aX y.out;obtain ⟨P,Q,R,S,T,U,V,W,X,Y,o,p,q,r⟩:=aX B.out;go_wp2_with fail;refine (HS.out _ B1.out).mono ?_;rintro e w2 ⟨rfl,M⟩;have z:=aq (aD M y.out);have D:=aq (aD M B.out);have B2:=aq (aa B1.out M);clear M y B B1 HS E F G H I J K L N O g j C m P Q R S T U V W X Y o p q r;obtain ⟨E,F,G,H,I,J,K,L,N,O,g,j,C,m⟩:=aX z.out;obtain ⟨P,Q,R,S,T,U,V,W,X,Y,o,p,q,r⟩:=aX D.out;have cva:=CA.out _ B2.out;have cvc:=CC.out _ B2.out;clear CA CC;go_wp2_with fail;refine (HD.out _ B2.out).mono ?_;rintro e w3 ⟨rfl,u⟩;have RA3:=aq (aD u z.out);have RB3:=aq (aD u D.out);have B3:=aq (aa B2.out u);clear u z D B2 HD cva cvc E F G H I J K L N O g j C m P Q R S T U V W X Y o p q r;obtain ⟨E,F,G,H,I,J,K,L,N,O,g,j,C,m⟩:=aX RA3.out;obtain ⟨P,Q,R,S,T,U,V,W,X,Y,o,p,q,r⟩:=aX RB3.out;go_wp2_with fail;go_ret;exact ⟨rfl,B3.out⟩
