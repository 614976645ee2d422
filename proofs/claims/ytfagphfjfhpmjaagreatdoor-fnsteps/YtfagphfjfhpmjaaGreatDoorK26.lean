/- Own lemmas. -/
import Derived.Test.YtfagphfjfhpmjaaGreatDoorAut
import Derived.Test.YtfagphfjfhpmjaaGreatDoorK25
set_option maxRecDepth 100000
set_option maxHeartbeats 6400000
namespace Go.Proofs.YtfagphfjfhpmjaaGreatDoor
open Go.RowKit Tryz
open IntKind renaming u64->Uz
set_option linter.unusedVariables false
variable {M w:Nat} {b:MV} {A B:World} {g:MA} {k:Option Addr} {n:IntKind} {a:List Int} (j:MV) (m p:MA) (c:List Int) (d l:Nat)
theorem Gi:∃ i,prog.info? 22=some i/\i.zero=some (.u 0)/\i.size=1:=by
 have h:(prog.info? 22).map (λi=>(i.zero,i.size))=some (some (.u 0),1):=ba
 cases a:prog.info? 22 with
 | none=>rw [a] at h;cases h
 | some i=>rw [a] at h;simp at h;exact ⟨i,rfl,h.1,h.2⟩
theorem Ot {cap:Nat} {wr:World} {b m:Nat} (h:Rm A M k w cap B b m wr) (hm:m<=1048576) (f a:Nat) (x:Int) (hk:a<=8) (u:f+a<=m) (hx:U x): Calls prog 137 #[.slice (some ⟨b,0,none⟩) m m,.u (2147483648+(f:Int)),.i (a:Int),.u x] wr λe p=>e=.returned (.tuple #[])/\Rm A M k w cap B b m p/\wr.grownBy p (some b):=by
 obtain ⟨zs,g,w0,c,v,t⟩:=h;refine (yj b m m f a _ zs x wr hm hk u hx.1 (by have:=hx.2;omega) w0).mono λe p ⟨r,s,d⟩=>⟨r,⟨km zs f x a,Iq zs g f x a,s,?_,v,t⟩,d⟩;have C:A.heap.size<=B.heap.size:=by
  rcases Nat.lt_or_ge B.heap.size A.heap.size with q|q;·have:=c.1.new;omega
  ·exact q
 obtain ⟨i,y,z,j⟩:=c.1.row;have l:=(Array.getElem?_eq_some_iff.1 j).1;refine ⟨⟨c.1.new,?_,i,y,z,(d.block M l bv).trans j⟩,⟨d.os.trans c.2.os,d.tape.trans c.2.tape,d.output.trans c.2.output,Nat.le_trans c.2.size d.size,λa hk o=>(d.block a (Nat.lt_of_lt_of_le hk c.2.size) bv).trans (c.2.block a hk o)⟩⟩;exact c.1.below.grown d c.1.below.size (by intro a hk;cases hk;omega)
theorem Gj:U 0:=⟨bc,bc⟩
theorem Rv:U ((List.replicate d (0:Int)).getD l 0):=by simp only [List.getD,List.getElem?_replicate];split<;>exact ⟨cp,cp⟩
theorem Ou (ram:∀ y ∈ c,(Lit.int .u8 y).wf=true) (hl:c.length=4096\/c.length=8192):Mf (AY c):=by
 have a:bf c.length=true:=by rcases hl with e|e<;>rw [e]<;>decide
 unfold AY;rw [if_pos a];refine ⟨by simp [cK,nX],λj=>Rv 32 j,by simp [cK,nX],?_,hl,ram,⟨Gj,Gj,.inl rfl,⟨λy b=>(nomatch b),λy b=>(nomatch b)⟩,Nat.zero_le _,Nat.zero_le _⟩,(show U 2147483648 from ⟨bc,bc⟩),Gj,.inr (.inr rfl)⟩;exact GJ (Rv 22) 9 (aU _)
theorem TA (D:DV) (a1:Option Addr) (c1:Nat) (a2:Option Addr) (c2:Nat):((aj j m).toList.take 5++(fU D a1 c1 a2 c2).toList++(aj j m).toList.drop (5+(fU D a1 c1 a2 c2).size)).toArray=aj (db j D) (ky m a1 c1 a2 c2):=rfl
theorem TB (w:World):(do pure (.value (<- Instr.buildSlice 39 2 #[(0,.i 0),(1,.i 1)])):Sem Next).run prog w=.ok (.value (.slice (some ⟨w.heap.size,0,none⟩) 2 2)) (w.alloc (.cells #[.i 0,.i 1] 2)):=by obtain ⟨c,b,e⟩:=Option.map_eq_some_iff.1 (show (prog.info? 2).map (λi=>(i.zero,i.size))=some (some (.i 0),1) by kernel_rfl);simp only [Prod.mk.injEq] at e;obtain ⟨a,e2⟩:=e;have:=run_buildSlice (P:=prog) w 39 2 2 #[(0,.i 0),(1,.i 1)] #[.i 0,.i 1] c (.i 0) underlying39 b a o0 o0 (by rw [e2];kernel_rfl);simp [this]
def Dj (w0:World) (g:Nat) (a:Option Addr) (n cap:Nat) (w:World) (m j:Nat):Prop:=∀ M A W,Dm w0 g a n cap w w.heap.size m M A W->Wg prog (λ_=>True) (bodyPost prog Tryz.f116 λe b=>∃ (M:MV) (A:MA),e=.returned (.agg (aj M A))/\Hid (Mf M)/\Hid (bA w.heap.size b.heap.size b (aG M A))/\Hid (Cs w0 g a n cap w b)) Tryz.f116.ntmps [.code (aq j (aL Tryz.f116))] [(0,.p g 0,0),(2,.p w.heap.size 0,0),(8,.p m 0,1)] W
set_option maxRecDepth 100000
section
variable {w0 w W : World} {g n cap r m : Nat} {a : Option Addr} {zs : List Int} {M : MV} {A : MA}
theorem Dm.eng {P:Program} {fn:Func} {Rs:Ending->World->Prop}:nZ P (Dm w0 g a n cap w r m M A) (Dm w0 g a n cap w r m M A) [⟨m,aj M A,[]⟩] true (bodyPost P fn Rs):=
 ⟨λ_ h=>h,λW h x b=>by rw [List.mem_singleton.1 b];exact ⟨_,_,h.mp.row⟩,λ_ W h=>h.below (Below.refl _ _).drew,cH⟩
theorem Dm.rows (h:Dm w0 g a n cap w r m M A W):ik W [⟨m,aj M A,[]⟩]:=⟨⟨_,_,h.mp.row⟩,trivial⟩
theorem Dm.putC (h:Dm w0 g a n cap w r m M A W) (b:Nat) (c:A.ac=some ⟨b,0,none⟩) (i:Nat) (f:i<22) {v:Int} (hv:U v):(do Instr.storeAt 22 (.p b i) (.u v);pure Next.skip:Sem Next).run prog W=.ok .skip (W.setCell ⟨b,i,none⟩ (.u v))/\Dm w0 g a n cap w r m (cM M (M.cs.set i v)) A (W.setCell ⟨b,i,none⟩ (.u v)):=by obtain ⟨j,_,e,_,_,d⟩:=h.atC;rw [c] at e;cases e;exact ⟨jw (d i f) ba rfl,h.setC b c i hv⟩
theorem Dm.putX (h:Dm w0 g a n cap w r m M A W) (b:Nat) (c:A.ax=some ⟨b,0,none⟩) (i:Nat) (f:i<32) {v:Int} (hv:U v):(do Instr.storeAt 22 (.p b i) (.u v);pure Next.skip:Sem Next).run prog W=.ok .skip (W.setCell ⟨b,i,none⟩ (.u v))/\Dm w0 g a n cap w r m (xM M (M.x.set i v)) A (W.setCell ⟨b,i,none⟩ (.u v)):=by obtain ⟨j,_,e,_,_,d⟩:=h.atX;rw [c] at e;cases e;exact ⟨jw (d i f) ba rfl,h.setX b c i hv⟩
theorem UQ:Dj w0 g a n cap w m 17:=by intro M A W h;refine cq h.rows {} 40 (az (g:=w.heap.size) (t:=32) (ty:=32) (cells:=aj M A) h.res ba rfl (rJ M A)) ?_;obtain ⟨f,k⟩:=h.outM (aj M A);exact gu (R:=[]) trivial {} 40 λb c=>⟨_,results_cell_row rfl b.tmps _ w.heap.size 32 (aj M A) (0,0) _ (c.slot ba) (setRow_heap _ _ _ _ _ _ h.res) underlying32 rfl ba,M,A,rfl,h.fit,f,k⟩
theorem UF:Dj w0 g a n cap w m 16:=by intro M A W h;refine aN (R:=[]) trivial {} 40 (yt M A (w.heap.size+1) m W h.fit.cs h.fit.len h.mp) ?_;rintro e V ⟨rfl,c,b⟩;refine ⟨_,0,rfl,?_⟩;refine an (R:=[]) trivial {} 1 ?_;exact af _ _ (UQ _ _ _ (h.step (h.mp.under b) c (Oo h.fit)))
theorem UG (b:Code w0 a n zs):Dj w0 g a n cap w m 15:=by
 intro M A W h;refine aN (R:=[]) trivial {} 40 (bH b 12 bc W h.cur) ?_;rintro e V ⟨c,rfl,d⟩;refine ⟨_,0,rfl,?_⟩;replace h:=h.next d.out;cases c with
 | false =>refine an (R:=[]) trivial {} 3 ?_;exact af _ _ (UF _ _ _ h)
 | true =>refine cq h.rows {} 40 (bJ (i:=13) (T:=4) (v:=.bool true) h.mp.row oi ba rfl) ?_;refine an (R:=[]) trivial {} 1 ?_;exact af _ _ (UF _ _ _ (h.setWt true))
theorem VN (b:Code w0 a n zs):Dj w0 g a n cap w m 14:=by
 intro M A W h;refine aN (R:=[]) trivial {} 40 (bH b 5 bc W h.cur) ?_;rintro e V ⟨c,rfl,d⟩;refine ⟨_,0,rfl,?_⟩;replace h:=h.next d.out;cases c with
 | false =>refine an (R:=[]) trivial {} 3 ?_;exact af _ _ (UG b _ _ _ h)
 | true =>refine cq h.rows {} 40 (bJ (i:=12) (T:=4) (v:=.bool true) h.mp.row oi ba rfl) ?_;replace h:=h.setHl true;refine aN (R:=[]) trivial {} 40 (aA b 1024 bc _ h.cur) ?_;rintro e V ⟨x,rfl,f,d⟩;refine ⟨_,0,rfl,?_⟩;replace h:=h.next d.out;refine cq h.rows {} 40 (bJ (i:=11) (T:=22) (v:=.u (Uz.wrap (2147483648+Uz.wrap (8*Uz.wrap x)))) h.mp.row oi ba rfl) ?_;refine an (R:=[]) trivial {} 1 ?_;exact af _ _ (UG b _ _ _ (h.setHd _ (aU _)))
theorem UR (b:Code w0 a n zs):Dj w0 g a n cap w m 13:=by
 intro M A W h;refine aN (R:=[]) trivial {} 40 (bH b 6 bc W h.cur) ?_;rintro e V ⟨c,rfl,d⟩;refine ⟨_,0,rfl,?_⟩;replace h:=h.next d.out;cases c with
 | false =>refine an (R:=[]) trivial {} 3 ?_;exact af _ _ (VN b _ _ _ h)
 | true =>refine aN (R:=[]) trivial {} 40 (aA b 8 bc _ h.cur) ?_;rintro e V ⟨x,rfl,f,d⟩;refine ⟨_,0,rfl,?_⟩;replace h:=h.next d.out;refine cq h.rows {} 40 (bJ (i:=0) (T:=22) (v:=.u (Uz.wrap (2147483648+Uz.wrap (4*Uz.wrap x)))) h.mp.row oi ba rfl) ?_;refine an (R:=[]) trivial {} 1 ?_;exact af _ _ (VN b _ _ _ (h.setPc _ (aU _)))
theorem UH (b:Code w0 a n zs) (h:Dm w0 g a n cap w w.heap.size m M A W):Wg prog (λ_=>True) (bodyPost prog Tryz.f116 λe d=>∃ (M:MV) (A:MA),e=.returned (.agg (aj M A))/\Hid (Mf M)/\Hid (bA w.heap.size d.heap.size d (aG M A))/\Hid (Cs w0 g a n cap w d)) Tryz.f116.ntmps [.code (aq 2 (Ca (aq 1 (iF (aq 12 (aL Tryz.f116)))))),.code (aq 13 (aL Tryz.f116))] [(0,.p g 0,0),(2,.p w.heap.size 0,0),(8,.p m 0,1)] W:=by
 refine aN (R:=[]) trivial {} 40 (bH b 2 bc W h.cur) ?_;rintro e V ⟨c,rfl,i⟩;refine ⟨_,0,rfl,?_⟩;replace h:=h.next i.out;cases c with
 | false =>refine an (R:=[]) trivial {} 3 ?_;exact af _ _ (UR b _ _ _ h)
 | true =>refine aN (R:=[]) trivial {} 40 (yf b h) ?_;rintro e V ⟨rfl,N,f⟩;refine ⟨_,0,rfl,?_⟩;refine an (R:=[]) trivial {} 1 ?_;exact af _ _ (UR b _ _ _ f.out)
theorem VC (d:Code w0 a n zs):Dj w0 g a n cap w m 12:=by
 intro M A W h;refine aN (R:=[]) trivial {} 40 (bH d 3 bc W h.cur) ?_;rintro e V ⟨c,rfl,l⟩;refine ⟨_,0,rfl,?_⟩;replace h:=h.next l.out;cases c with
 | false =>refine an (R:=[]) trivial {} 3 ?_;exact af _ _ (UR d _ _ _ h)
 | true =>
   refine jh (R:=[]) trivial {} 10 1 (TB V) ?_;have C:=(Below.refl V.heap.size V).alloc (Nat.le_refl _) (.cells #[.i 0,.i 1] 2);have t:=heap_alloc_new V (.cells #[.i 0,.i 1] 2);replace h:=h.below C;generalize V.alloc (.cells #[.i 0,.i 1] 2)=z at *;have E:=(Array.getElem?_eq_some_iff.1 t).1;refine aN (R:=[]) trivial {} 40 (aA d 2 bc z h.cur) ?_;rintro e B ⟨y,rfl,F,j⟩;refine ⟨_,0,rfl,?_⟩;have u:=j.out.keep t (by have:=l.out.1.lt;omega);replace h:=h.next j.out;have fin:∀ v:Int,v=0\/v=1->Wg prog (λ_=>True) (bodyPost prog Tryz.f116 λe r=>∃ (M:MV) (A:MA),e=.returned (.agg (aj M A))/\Hid (Mf M)/\Hid (bA w.heap.size r.heap.size r (aG M A))/\Hid (Cs w0 g a n cap w r)) Tryz.f116.ntmps [.code (aq 1 (Ca (aq 1 (iF (aq 12 (aL Tryz.f116)))))),.code (aq 13 (aL Tryz.f116))] [(0,.p g 0,0),(2,.p w.heap.size 0,0),(8,.p m 0,1)] (B.setCell ⟨m,2,none⟩ (.i v)):=by
    intro v D;replace h:=h.setPr v (D.elim .inl λe=>.inr (.inl e));obtain ⟨N,s⟩:∃ N,VB M v=N:=⟨_,rfl⟩;rw [s] at h;clear s;refine aN (R:=[]) trivial {} 40 (bH d 3 bc _ h.cur) ?_;rintro e V ⟨c,rfl,l⟩;refine ⟨_,0,rfl,?_⟩;replace h:=h.next l.out;cases c with
    | true =>refine an (R:=[]) trivial {} 4 ?_;exact af _ _ (UH d h)
    | false =>obtain ⟨b,_,k,_⟩:=h.atC;obtain ⟨p,f⟩:=h.putC b k 16 bc (v:=31) ⟨bc,bc⟩;obtain ⟨q,o⟩:=f.putC b k 17 bc (v:=18014398509481983) ⟨bc,bc⟩;refine cq h.rows {ov:=[(133,kF N.cs.length A.cc .i64 16 k ⟨bc,ph⟩ underlying23 ba)]} 40 p ?_;refine cq f.rows {ov:=[(136,kF (N.cs.set 16 31).length A.cc .i64 17 k ⟨bc,by rw [List.length_set,h.fit.cs];decide⟩ underlying23 ba)]} 40 q ?_;refine an (R:=[]) trivial {} 1 ?_;exact af _ _ (UH d o)
   have x:=λv:Int=>bJ (P:=prog) (i:=2) (T:=2) (v:=.i v) h.mp.row oi ba rfl;obtain rfl | rfl:y=0\/y=1:=ab;all_goals refine an (R:=[]) trivial {} 1 ?_
   all_goals refine aK 125 2 ?_
   ·refine cq (R:=[⟨m,aj M A,[]⟩,⟨V.heap.size,#[.i 0,.i 1],[]⟩]) ⟨⟨_,_,h.mp.row⟩,⟨_,_,u⟩,trivial⟩ {} 40 (x 0) ?_;refine an (R:=[]) trivial {} 1 ?_;exact af _ _ (fin 0 (.inl rfl))
   ·refine cq (R:=[⟨m,aj M A,[]⟩,⟨V.heap.size,#[.i 0,.i 1],[]⟩]) ⟨⟨_,_,h.mp.row⟩,⟨_,_,u⟩,trivial⟩ {} 40 (x 1) ?_;refine an (R:=[]) trivial {} 1 ?_;exact af _ _ (fin 1 (.inr rfl))
theorem VO (d:Code w0 a n zs):Dj w0 g a n cap w m 11:=by
 intro M A W h;refine aN (R:=[]) trivial {} 40 (bH d 3 bc W h.cur) ?_;rintro e V ⟨c,rfl,o⟩;refine ⟨_,0,rfl,?_⟩;replace h:=h.next o.out;cases c with
 | false =>refine an (R:=[]) trivial {} 3 ?_;exact af _ _ (VC d _ _ _ h)
 | true =>obtain ⟨b,_,i,_⟩:=h.atC;obtain ⟨k,f⟩:=h.putC b i 16 bc (v:=31) ⟨bc,bc⟩;obtain ⟨l,j⟩:=f.putC b i 17 bc (v:=18014398509481983) ⟨bc,bc⟩;refine cq h.rows {ov:=[(116,kF M.cs.length A.cc .i64 16 i ⟨bc,ph⟩ underlying23 ba)]} 40 k ?_;refine cq f.rows {ov:=[(119,kF (M.cs.set 16 31).length A.cc .i64 17 i ⟨bc,by rw [List.length_set,h.fit.cs];decide⟩ underlying23 ba)]} 40 l ?_;refine an (R:=[]) trivial {} 1 ?_;exact af _ _ (VC d _ _ _ j)
theorem US (d:Code w0 a n zs):Dj w0 g a n cap w m 10:=by
 intro M A W h;refine aN (R:=[]) trivial {} 40 (bH d 2 bc W h.cur) ?_;rintro e V ⟨c,rfl,p⟩;refine ⟨_,0,rfl,?_⟩;replace h:=h.next p.out;cases c with
 | false =>refine an (R:=[]) trivial {} 3 ?_;exact af _ _ (VO d _ _ _ h)
 | true =>
   refine aH (Dm w0 g a n cap w w.heap.size m M A) ?_;refine an (R:=[]) trivial {} 2 ?_;refine it 2 ?_;replace h:=h.below (Below.refl V.heap.size V).drew;obtain ⟨b,_,f,_,_,i⟩:=h.atC;have j:∀ W,Dm w0 g a n cap w w.heap.size m M A W->W.cell? ⟨b,0+(4:Int).toNat,none⟩=some (.u (M.cs.getD 4 0)):=λW k=>by obtain ⟨s,_,e,_,_,i⟩:=k.atC;rw [f] at e;cases e;exact (i 4 bc).1
   refine ae Dm.eng {ov:=[(108,kF M.cs.length A.cc .i64 4 f ⟨bc,ph⟩ underlying23 ba),(109,iL ⟨b,0+(4:Int).toNat,none⟩ (.u (M.cs.getD 4 0)) underlying22 rfl j),(111,kF M.cs.length A.cc .i64 4 f ⟨bc,ph⟩ underlying23 ba)]} 40 h λr l=>?_;obtain ⟨q,o⟩:=l.putC b f 4 bc (v:=bits .or .u64 (M.cs.getD 4 0) 1) (ah _ _ _);refine cq (R:=[]) trivial {} 10 q ?_;refine an (R:=[]) trivial {} 1 ?_;exact aH (λ_=>True) (af _ _ (VO d _ _ _ o))
theorem d9 (c:Code w0 a n zs):Dj w0 g a n cap w m 9:=by intro M A W h;refine aH (Dm w0 g a n cap w w.heap.size m M A) ?_;refine an (R:=[]) trivial {} 1 ?_;refine it 2 ?_;replace h:=h.below (Below.refl W.heap.size W).drew;obtain ⟨b,_,d,_⟩:=h.atC;refine aS Dm.eng {} 30 h (λW k=>aA c 64 bc W k.cur) ?_;rintro q e r f ⟨x,rfl,s,i⟩;refine ⟨_,0,rfl,λ_=>f.next i.out,?_⟩;refine ae Dm.eng {ov:=[(101,kF M.cs.length A.cc .i64 4 d ⟨bc,ph⟩ underlying23 ba)]} 40 (f.next i.out) λp j=>?_;obtain ⟨o,l⟩:=j.putC b d 4 bc (v:=Uz.wrap (2147483648+Uz.wrap (4*Uz.wrap x))) (aU _);refine cq (R:=[]) trivial {} 10 o ?_;refine an (R:=[]) trivial {} 1 ?_;exact aH (λ_=>True) (af _ _ (US c _ _ _ l))
theorem d8 (b:Code w0 a n zs):Dj w0 g a n cap w m 8:=by
 intro M A W h;refine aN (R:=[]) trivial {} 40 (bH b 3 bc W h.cur) ?_;rintro e V ⟨c,rfl,k⟩;refine ⟨_,0,rfl,?_⟩;replace h:=h.next k.out;cases c with
 | false =>refine an (R:=[]) trivial {} 3 ?_;exact af _ _ (d9 b _ _ _ h)
 | true =>refine aN (R:=[]) trivial {} 40 (Ba b _ h.cur) ?_;rintro e p ⟨rfl,f⟩;obtain ⟨o,l,j,d,_⟩:=f.out;refine ⟨_,0,rfl,?_⟩;refine cq (h.next d).rows {} 40 (bJ (i:=3) (T:=23) (v:=.slice (some ⟨V.heap.size,0,none⟩) 22 22) (h.next d).mp.row oi ba rfl) ?_;refine an (R:=[]) trivial {} 1 ?_;exact af _ _ (d9 b _ _ _ (h.csrs d o l j))
theorem TC {t:TypeId} {W:World} {D:DV} {a1 a2:Option Addr} {c1 c2:Nat} (h:W.heap[m]?=some (.cells (aj M A) t (0,0))):(do Instr.storeAt 30 (.p m 5) (.agg (fU D a1 c1 a2 c2));pure Next.skip:Sem Next).run prog W=.ok .skip (W.setRow m (aj (db M D) (ky A a1 c1 a2 c2))):=by have:=ui (P:=prog) W m 5 t 30 (aj M A) (fU D a1 c1 a2 c2) h bN (by simp [aj,fU]) (fG _ _ _ _ _);rw [TA] at this;simp [Instr.storeAt,Instr.sureAddr,this,Result.andThen]
theorem d7 (b:Code w0 a n zs):Dj w0 g a n cap w m 7:=by intro M A W h;refine aN (R:=[]) trivial {} 40 (Oi b W h.cur) ?_;rintro e V ⟨D,a1,c1,a2,c2,rfl,f,d,c⟩;refine ⟨_,0,rfl,?_⟩;refine cq (h.next c.out).rows {} 40 (TC (D:=D) (a1:=a1) (c1:=c1) (a2:=a2) (c2:=c2) (h.next c.out).mp.row) ?_;refine an (R:=[]) trivial {} 1 ?_;exact af _ _ (d8 b _ _ _ (h.dev c.out D a1 c1 a2 c2 f.out d.out))
theorem Ow (W:World) (x:Int):(do pure (.value (<- Instr.buildSlice 23 6 #[(0,.u 268435456),(1,.u 33554432),(2,.u 33603576),(3,.u 33570816),(4,.u 268435457),(5,.u x)])):Sem Next).run prog W=.ok (.value (.slice (some ⟨W.heap.size,0,none⟩) 6 6)) (W.alloc (.cells #[.u 268435456,.u 33554432,.u 33603576,.u 33570816,.u 268435457,.u x] 22)):=by obtain ⟨c,b,a,e2⟩:=Gi;have:=run_buildSlice (P:=prog) W 23 22 6 #[(0,.u 268435456),(1,.u 33554432),(2,.u 33603576),(3,.u 33570816),(4,.u 268435457),(5,.u x)] #[.u 268435456,.u 33554432,.u 33603576,.u 33570816,.u 268435457,.u x] c (.u 0) underlying23 b a o0 o0 (by rw [e2];kernel_rfl);simp [this]
theorem d6 (d:Code w0 a n zs):Dj w0 g a n cap w m 6:=by
 intro M A W h;refine aH (Dm w0 g a n cap w w.heap.size m M A) ?_;refine an (R:=[]) trivial {} 1 ?_;refine it 2 ?_;replace h:=h.below (Below.refl W.heap.size W).drew;obtain ⟨b,_,p,_⟩:=h.atX;have H:∀ W,Dm w0 g a n cap w w.heap.size m M A W->W.cell? ⟨b,0+(5:Int).toNat,none⟩=some (.u (M.x.getD 5 0)):=λW k=>by obtain ⟨L,_,e,_,_,q⟩:=k.atX;rw [p] at e;cases e;exact (q 5 bc).1
 have K:=h.fit.ux 5;generalize M.x.getD 5 0=c at *;have D:∀ x ∈ [268435456,33554432,33603576,33570816,268435457,c],U x:=λx E=>by simp only [List.mem_cons,List.not_mem_nil,or_false] at E;rcases E with rfl | rfl | rfl | rfl | rfl | rfl<;>first | exact K | exact ⟨bc,bc⟩
 refine ae Dm.eng {ov:=[(78,kF M.x.length A.cx .i64 5 p ⟨bc,by rw [h.fit.x];decide⟩ underlying23 ba),(79,iL ⟨b,0+(5:Int).toNat,none⟩ (.u c) underlying22 rfl H)]} 40 h λV h=>?_;have s:∀ V:World,Bw V (V.alloc (.cells #[.u 268435456,.u 33554432,.u 33603576,.u 33570816,.u 268435457,.u c] 22)):=λV=>bal _ _;have N:=h.cur.lt;refine oE (i:=6) (j:=8) ?_ ?_;·refine qN 0 (Ow V c) (h.below (s V)) ?_;have F:=heap_alloc_new V (.cells #[.u 268435456,.u 33554432,.u 33603576,.u 33570816,.u 268435457,.u c] 22);replace h:=h.below (s V);generalize V.alloc (.cells #[.u 268435456,.u 33554432,.u 33603576,.u 33570816,.u 268435457,.u c] 22)=l at *;refine ju (aA d 6 bc l h.cur) ?_;rintro e o ⟨y,rfl,J,f⟩;refine ⟨_,0,rfl,λ_=>h.next f.out,?_⟩;have r:=f.out.keep F ab;replace h:=h.next f.out;generalize V.heap.size=z at *;clear F f;obtain ⟨u,C,q⟩:=sR [268435456,33554432,33603576,33570816,268435457,c] 22 r D (k:=0+y.toNat) bv;refine dF 0 ((kF (S:=λ_=>True) 6 6 .i64 y (a:=some ⟨z,0,none⟩) rfl ⟨ab,ab⟩ underlying23 ba).h o trivial) ?_ (hS:=λ_=>h);refine dF 0 ((iL (S:=λW=>W=o) ⟨z,0+y.toNat,none⟩ (.u u) underlying22 rfl (λW e=>by rw [e];exact q)).h o rfl) ?_ (hS:=λ_=>h);refine ae Dm.eng {ov:=[(85,kF M.x.length A.cx .i64 5 p ⟨bc,by rw [h.fit.x];decide⟩ underlying23 ba)]} 40 h λG t=>?_;obtain ⟨B,v⟩:=t.putX b p 5 bc C;refine cq (R:=[]) trivial {} 10 B ?_;refine an (R:=[]) trivial {} 1 ?_;exact aH (λ_=>True) (af _ _ (d7 d _ _ _ v))
 ·refine nz (aA d 6 bc V h.cur) ?_;rintro e l ⟨y,rfl,J,f⟩;refine ⟨_,0,rfl,h.next f.out,?_⟩;have I:=f.out.2.size;replace h:=h.next f.out;refine dF 0 (Ow l c) ?_ (hS:=λ_=>h.below (s l));have r:=heap_alloc_new l (.cells #[.u 268435456,.u 33554432,.u 33603576,.u 33570816,.u 268435457,.u c] 22);replace h:=h.below (s l);generalize l.alloc (.cells #[.u 268435456,.u 33554432,.u 33603576,.u 33570816,.u 268435457,.u c] 22)=o at *;generalize l.heap.size=z at *;clear f;obtain ⟨u,C,q⟩:=sR [268435456,33554432,33603576,33570816,268435457,c] 22 r D (k:=0+y.toNat) bv;refine dF 0 ((kF (S:=λ_=>True) 6 6 .i64 y (a:=some ⟨z,0,none⟩) rfl ⟨ab,ab⟩ underlying23 ba).h o trivial) ?_ (hS:=λ_=>h);refine dF 0 ((iL (S:=λW=>W=o) ⟨z,0+y.toNat,none⟩ (.u u) underlying22 rfl (λW e=>by rw [e];exact q)).h o rfl) ?_ (hS:=λ_=>h);refine ae Dm.eng {ov:=[(85,kF M.x.length A.cx .i64 5 p ⟨bc,by rw [h.fit.x];decide⟩ underlying23 ba)]} 40 h λG t=>?_;obtain ⟨B,v⟩:=t.putX b p 5 bc C;refine cq (R:=[]) trivial {} 10 B ?_;refine an (R:=[]) trivial {} 1 ?_;exact aH (λ_=>True) (af _ _ (d7 d _ _ _ v))
theorem d5 (f:Code w0 a n zs):Dj w0 g a n cap w m 5:=by
 intro M A W h;refine an (R:=[]) trivial {} 20 ?_;refine kS (λx:MV × MA × Nat=>[(0,.p g 0,0),(2,.p w.heap.size 0,0),(8,.p m 0,1),(10,.i (x.2.2:Nat),0)]) (λj x W=>x.2.2+j=32/\Dm w0 g a n cap w w.heap.size m x.1 x.2.1 W) 31 (M,A,1) ba ba ⟨rfl,h⟩ ?_;clear h;rintro j ⟨M,A,i⟩ W ⟨F,h⟩ R u;dsimp only at F h;cases j with
 | zero =>have d:decide ((i:Int)<32)=false:=ck;refine an (R:=[]) trivial {eq:=[(48,ak d)]} 8 ?_;exact af _ _ (d6 f _ _ _ h)
 | succ j =>
   have d:decide ((i:Int)<32)=true:=ef;have U:i<32:=ab;have B:IntKind.i64.wrap ((i:Nat)+1:Int)=((i+1:Nat):Int):=i6;obtain ⟨b,_,q,_⟩:=h.atX;obtain ⟨t,d8⟩:∃ t,decide ((i:Int)<8)=t:=⟨_,rfl⟩;cases t;case' true =>refine aH (Dm w0 g a n cap w w.heap.size m M A) ?_;refine an (R:=[]) trivial {eq:=[(48,ak d),(52,ak d8)]} 60 ?_
   case' false =>
    refine aN (R:=[]) trivial {eq:=[(48,ak d),(52,ak d8)]} 60 (bH f 4 bc _ h.cur) ?_;rintro e V ⟨c,rfl,l⟩;refine ⟨_,0,rfl,?_⟩;replace h:=h.next l.out;clear l;cases c;case false=>exact oo (R:=[]) trivial {eq:=[(50,dG .i64 B)]} 60 λb p=>u b V j (_,_,i+1) ab (p.less ba) ⟨di,h⟩
    case' true =>refine aH (Dm w0 g a n cap w w.heap.size m M A) ?_;refine an (R:=[]) trivial {} 60 ?_
   all_goals
    refine it 2 ?_
    refine aS Dm.eng {} 30 (h.below (Below.refl _ _).drew) (λW k=>kZ f W k.cur) ?_
    rintro P e Q r ⟨y,rfl,J,l⟩
    refine ⟨_,0,rfl,λ_=>r.next l.out,?_⟩
    refine ae Dm.eng {ov:=[(62,kF M.x.length A.cx .i64 (i:Nat) q ⟨ab,by rw [r.fit.x];omega⟩ underlying23 ba)]} 40 (r.next l.out) λD G=>?_
    obtain ⟨C,o⟩:=G.putX b q (0+((i:Nat):Int).toNat) ab (v:=y) J
    refine cq (R:=[]) trivial {} 10 C ?_
    clear C
    generalize D.setCell _ _=L at o ⊢
    refine aN (R:=[]) trivial {} 40 (bH f 2 bc _ o.cur) ?_
    rintro e E ⟨c,rfl,l⟩
    refine ⟨_,0,rfl,?_⟩
    replace o:=o.next l.out
    cases c with
    | false=>exact oo (R:=[]) trivial {eq:=[(50,dG .i64 B)]} 60 λb p=>u b E j (_,_,i+1) ab (p.less ba) ⟨di,o⟩
    | true =>
      generalize xM M _=N at o ⊢
      refine aH (Dm w0 g a n cap w w.heap.size m N A) ?_
      refine an (R:=[]) trivial {} 40 ?_
      refine it 2 ?_
      refine aS Dm.eng {} 30 (o.below (Below.refl _ _).drew) (λW k=>aA f 1024 bc W k.cur) ?_
      rintro S e T s ⟨z,rfl,X,l⟩
      refine ⟨_,0,rfl,λ_=>s.next l.out,?_⟩
      refine ae Dm.eng {ov:=[(73,kF N.x.length A.cx .i64 (i:Nat) q ⟨ab,by rw [s.fit.x];omega⟩ underlying23 ba)]} 40 (s.next l.out) λO H=>?_
      obtain ⟨K,I⟩:=H.putX b q (0+((i:Nat):Int).toNat) ab (v:=Uz.wrap (2147483648+Uz.wrap (8*Uz.wrap z))) (aU _)
      refine cq (R:=[]) trivial {} 10 K ?_
      exact oo (R:=[]) trivial {eq:=[(50,dG .i64 B)]} 60 λb p=>u b _ j (_,_,i+1) ab (p.less ba) ⟨di,I⟩
theorem d4 (o:Code w0 a n zs) {b N:Nat} (x:N=4096\/N=8192) (r:w0.heap.size<=w.heap.size) (h:Rm w0 g a n cap w b N W) (hr:W.heap[w.heap.size]?=some (.cells (aj zeroM zeroA) 32 (0,0))):Wg prog (λ_=>True) (bodyPost prog Tryz.f116 λe s=>∃ (M:MV) (A:MA),e=.returned (.agg (aj M A))/\Hid (Mf M)/\Hid (bA w.heap.size s.heap.size s (aG M A))/\Hid (Cs w0 g a n cap w s)) Tryz.f116.ntmps [.code (aq 4 (aL Tryz.f116))] [(0,.p g 0,0),(2,.p w.heap.size 0,0),(3,.slice (some ⟨b,0,none⟩) N N,0)] W:=by
 obtain ⟨c,B,k,f,p,-⟩:=h;have j:c.length=N:=by have:=k.1;simpa using this
 have l:=qr (some ⟨b,0,none⟩) N N c W j ab (fO k);have i:Mf (AY c):=Ou c B (by rw [j];exact x);refine aN (R:=[]) trivial {} 40 l ?_;rintro e V ⟨C,rfl,d,m⟩;refine ⟨_,0,rfl,?_⟩;generalize AY c=M at *;have t:=f.trans (Cs.of_below f.1 m);have v:=bq m hr;have E:=(Array.getElem?_eq_some_iff.1 hr).1;have D:=m.size;have u:Dm w0 g a n cap w w.heap.size V.heap.size M C (V.alloc (.cells (aj M C) 32)):=
  ⟨t.trans (Cs.alloc t.1 _),(Below.heap_alloc _ _ _ ab).trans v,⟨heap_alloc_new _ _,(d.below (bal _ _)).low ab cp,λq y e=>by have:=d.hi q y _ e;omega,ab⟩,i,p,Nat.le_refl _,r⟩
 refine jh (R:=[]) trivial {} 10 1 (dD (T:=32) (z:=.agg (aj zeroM zeroA)) ba V) ?_;refine cq (R:=[]) trivial {} 10 (az (ty:=32) (cells:=aj M C) (heap_alloc_new V _) ba ba (rJ M C)) ?_;rw [World.setRow_alloc_new];refine an (R:=[]) trivial {} 2 ?_;exact af _ _ (d5 o _ _ _ u)
theorem QP (W:World) (N:Nat) (j:N=4096\/N=8192):∃ W',(do pure (.value (<- Instr.makeSlice 24 (.i N) (.i N))):Sem Next).run prog W=.ok (.value (.slice (some ⟨W.heap.size,0,none⟩) N N)) W'/\W'.ownsRow W.heap.size 5 1 (.slice (some ⟨W.heap.size,0,none⟩) N N) N ((List.replicate N (0:Int)).map (Value.int .u8))/\W.grownBy W' none:=by obtain ⟨i,f,b,c,d⟩:=info_parts info5;obtain ⟨W',h,g,e⟩:=run_make_full (P:=prog) W W.heap.size 24 5 i (.int .u8 0) 1 underlying24 f b c .i64 .i64 N (by rw [d];omega) et (Nat.le_refl _);have a:(Instr.makeSlice 24 (.i N) (.i N)).run prog W=.ok (.slice (some ⟨W.heap.size,0,none⟩) N N) W':=h;refine ⟨W',by simp [a],?_,e⟩;rw [List.map_replicate,<- toList_madeCells_one];simpa [Value.cells] using g
theorem Ox (f:Code w0 a n zs) (w:World) (E:lq w0 w g a n cap):Calls prog 116 #[.p g 0] w λe J=>∃ (M:MV) (A:MA),e=.returned (.agg (aj M A))/\Hid (Mf M)/\Hid (bA w.heap.size J.heap.size J (aG M A))/\Hid (Cs w0 g a n cap w J):=by
 refine bC (S:=λ_=>True) (args:=[.p g 0]) [(aj zeroM zeroA,32)] func116 ?_;have F:=E.lt;have G:=E.below.size;have s:Cs w0 g a n cap w (bP w [(aj zeroM zeroA,32)]):=Cs.alloc E _;have L:=(Bs.start w [(aj zeroM zeroA,32)]).1 0 _ rfl;have Y:(bP w [(aj zeroM zeroA,32)]).heap.size=w.heap.size+1:=by simp [bP]
 generalize bP w [(aj zeroM zeroA,32)]=Z at *;refine aN (R:=[]) trivial {} 40 (aA f 2 bc Z s.1) ?_;rintro e r ⟨K,rfl,I,l⟩;refine ⟨_,0,rfl,?_⟩;obtain ⟨N,hN,o⟩:∃ N:Nat,IntKind.i64.wrap (4096*IntKind.i64.wrap (1+K))=(N:Int)/\(N=4096\/N=8192):=by
  obtain rfl|rfl:K=0\/K=1:=ab;·exact ⟨4096,cb,.inl rfl⟩
  ·exact ⟨8192,cb,.inr rfl⟩
 obtain ⟨O,U,T,i⟩:=QP r N o;have u:=s.trans l.out;have z1:=l.out.2.size;have v:Rm w0 g a n cap w r.heap.size N O:=⟨_,λy p=>by rw [List.eq_of_mem_replicate p];exact UO ab ab,cG T ab,u.trans ⟨u.1.grown i,i.os,i.tape,i.output,i.size,λk hk _=>i.block k hk cp⟩,F,ab⟩;have R1:=l.out.keep L ab;have R2:=(i.block _ (Array.getElem?_eq_some_iff.1 R1).1 cp).trans R1;have hbr:w.heap.size<r.heap.size:=ab
 refine an (R:=[]) trivial {eq:=[(14,dG .i64 hN)]} 2 ?_;refine dF 0 U ?_;generalize r.heap.size=b at *;clear U T i R1 u L Y s z1;refine an (R:=[]) trivial {} 6 ?_;refine af [.code (aq 3 (aL Tryz.f116))] [(0,.p g 0,0),(2,.p w.heap.size 0,0),(3,.slice (some ⟨b,0,none⟩) N N,0),(4,.u 2147483648,0)] ?_;refine aN (R:=[]) trivial {} 40 (aA f 30 bc O v.cur) ?_;rintro e W3 ⟨x,rfl,⟨H,I⟩,m⟩;refine ⟨_,0,rfl,?_⟩;obtain ⟨x,rfl⟩:=Int.eq_ofNat_of_zero_le H;refine an (R:=[]) trivial {} 20 ?_;refine kS (λx:Nat × Nat=>[(0,.p g 0,0),(2,.p w.heap.size 0,0),(3,.slice (some ⟨b,0,none⟩) N N,0),(4,.u (2147483648+((4*x.1:Nat):Int)),0),(5,.i (x.2:Nat),0)]) (λk x W=>x.2=k/\x.1+k<=30/\Rm w0 g a n cap w b N W/\W.heap[w.heap.size]?=some (.cells (aj zeroM zeroA) 32 (0,0))) x (0,x) ba ba ⟨rfl,di,v.next m.out,m.out.keep R2 ab⟩ ?_;clear v R2 m;rintro k ⟨j,k'⟩ W ⟨Q,hj,D,R⟩ Rr hR;dsimp only at Q hj;subst Q;cases k' with
 | zero =>have d:decide (0<((0:Nat):Int))=false:=bc;refine an (R:=[]) trivial {eq:=[(19,ak d)]} 8 ?_;exact af _ _ (d4 f o G D R)
 | succ k =>
   have d:decide (0<((k+1:Nat):Int))=true:=ef;have B:Uz.wrap (2147483648+((4*j:Nat):Int)+4)=2147483648+((4*(j+1):Nat):Int):=dm;have z:IntKind.i64.wrap (((k+1:Nat):Int)-1)=((k:Nat):Int):=i6;refine aN (R:=[]) trivial {eq:=[(19,ak d)]} 60 (Oq f _ D.cur) ?_;rintro e V ⟨ii,rfl,hii,h⟩;refine ⟨_,0,rfl,?_⟩;replace R:=h.out.keep R ab;replace D:=D.next h.out;refine aN (R:=[]) trivial {} 60 (AW ii V) ?_;rintro e V ⟨y,t,rfl,p,C⟩;refine ⟨_,0,rfl,?_⟩;replace R:=bq C R;replace D:=D.next (Cs.of_below D.cur C);clear h C;cases t;case' false =>refine aN (R:=[]) trivial {} 60 (kZ f _ D.cur) ?_;rintro e V ⟨y,rfl,p,h⟩;refine ⟨_,0,rfl,?_⟩;replace R:=h.out.keep R ab;replace D:=D.next h.out
   case' true =>refine aN (R:=[]) trivial {} 60 (bH f 30 bc _ D.cur) ?_;rintro e V ⟨c,rfl,h⟩;refine ⟨_,0,rfl,?_⟩;replace R:=h.out.keep R ab;replace D:=D.next h.out;clear h;cases c;case' true =>refine aN (R:=[]) trivial {} 60 (kZ f _ D.cur) ?_;rintro e V ⟨y,rfl,p,h⟩;refine ⟨_,0,rfl,?_⟩;replace R:=h.out.keep R ab;replace D:=D.next h.out
   all_goals
    refine aN (R:=[]) trivial {} 60 (Ot D ab (4*j) 4 y ab ab p) ?_
    rintro e P ⟨rfl,X,gP⟩
    refine ⟨_,0,rfl,?_⟩
    exact oo (R:=[]) trivial {eq:=[(41,dG .u64 B),(21,dG .i64 z)]} 60 λq hq=>hR q P k (j+1,k) ab (hq.less ba) ⟨rfl,di,X,(gP.block _ (Array.getElem?_eq_some_iff.1 R).1 bv).trans R⟩
end
structure Ma (M:MV):Prop where
 len:jR M
 ux:∀ j,U (M.x.getD j 0)
 ucs:∀ j,U (M.cs.getD j 0)
 bram:∀ y ∈ M.ram,(Lit.int .u8 y).wf=true
 d:Rp M.d
 pc:U M.pc
 hd:U M.hd
 pos:0<M.x.length/\0<M.ram.length
theorem Mf.pos (h:Mf b):1<b.x.length/\1<b.ram.length:=by have:=h.x;have:=h.ram;omega
theorem Mf.any (h:Mf b):Ma b:=⟨h.len,h.ux,h.ucs,h.bram,h.d.any,h.pc,h.hd,by have:=h.pos;omega⟩
theorem Ir (h:Sl n A (some ⟨M,0,none⟩) a):Sl n A (some ⟨M,1,none⟩) a.tail:=by intro i d;rw [List.length_tail] at d;obtain ⟨f,g,e,zs,c⟩:=h (i+1) ab;cases e;refine ⟨M,1,rfl,zs,?_⟩;rw [show a.tail.getD i 0=a.getD (i+1) 0 from by cases a<;>simp];rw [show 1+i=0+(i+1) from ab];exact c
def Ko (M:MV):MV:=⟨M.pc,M.x.tail,M.pr,M.cs,M.ram,M.d,M.hd,M.hl,M.wt⟩
def Kp (M:MV):MV:=⟨M.pc,M.x,M.pr,M.cs,M.ram.tail,M.d,M.hd,M.hl,M.wt⟩
def xo (M:MV):MV:=⟨M.pc,M.x,2,M.cs,M.ram,M.d,M.hd,M.hl,M.wt⟩
def VP (A:MA) (b:Nat):MA:=⟨some ⟨b,1,none⟩,A.cx-1,A.ac,A.cc,A.ar,A.cr,A.ai,A.ci,A.ao,A.co⟩
def VQ (A:MA) (b:Nat):MA:=⟨A.ax,A.cx,A.ac,A.cc,some ⟨b,1,none⟩,A.cr-1,A.ai,A.ci,A.ao,A.co⟩
def uw (B:Nat) (A:MA):Prop:=∀ p,(p=A.ax\/p=A.ac\/p=A.ar\/p=A.ai\/p=A.ao)->∀ b a,p=some ⟨b,a,none⟩->B<=b
theorem pg {t:TypeId} {c:Nat} {xs:List Value} (h:A.ownsRow M t 1 (.slice k w c) w xs) {b d:Nat} (i:k=some ⟨b,d,none⟩):M<=b:=by
 subst i;rcases h.2 with ⟨a,j⟩|⟨g,cap,e,a,f,_⟩;·cases a
 ·cases a;exact f
theorem rK (h:bA M w A (aG b g)):uw M g:=by
 intro p a B c e;rcases a with rfl|rfl|rfl|rfl|rfl;·exact pg (h.own (aJ g.ax b.x.length g.cx b.x) dv) e
 ·exact pg (h.own (aJ g.ac b.cs.length g.cc b.cs) dv) e
 ·exact pg (h.own (aD g.ar b.ram.length g.cr b.ram) dv) e
 ·exact pg (h.own (aD g.ai b.d.xs.length g.ci b.d.xs) dv) e
 ·exact pg (h.own (aD g.ao b.d.ys.length g.co b.d.ys) dv) e
theorem QQ (h:uw M g) (e:g.ax=some ⟨w,0,none⟩):uw M (VP g w):=by
 intro p A d c a;rcases A with rfl|rfl|rfl|rfl|rfl
 ·have e2:w=d:=by have f:some (⟨w,1,none⟩:Addr)=some ⟨d,c,none⟩:=a;injection f with h4;injection h4
  rw [<- e2];exact h g.ax (Or.inl rfl) w 0 e
 ·exact h g.ac (Or.inr (Or.inl rfl)) d c a
 ·exact h g.ar (Or.inr (Or.inr (Or.inl rfl))) d c a
 ·exact h g.ai (Or.inr (Or.inr (Or.inr (Or.inl rfl)))) d c a
 ·exact h g.ao (Or.inr (Or.inr (Or.inr (Or.inr rfl)))) d c a
theorem QR (h:uw M g) (e:g.ar=some ⟨w,0,none⟩):uw M (VQ g w):=by
 intro p A d c a;rcases A with rfl|rfl|rfl|rfl|rfl;·exact h g.ax (Or.inl rfl) d c a
 ·exact h g.ac (Or.inr (Or.inl rfl)) d c a
 ·have e2:w=d:=by have f:some (⟨w,1,none⟩:Addr)=some ⟨d,c,none⟩:=a;injection f with h4;injection h4
  rw [<- e2];exact h g.ar (Or.inr (Or.inr (Or.inl rfl))) w 0 e
 ·exact h g.ai (Or.inr (Or.inr (Or.inr (Or.inl rfl)))) d c a
 ·exact h g.ao (Or.inr (Or.inr (Or.inr (Or.inr rfl)))) d c a
theorem pi (h:Sl n A k a) (d:A.grownBy B (some M)) (m:M<w) (hn:∀ b zs,k=some ⟨b,zs,none⟩->w<=b):Sl n B k a:=by intro i j;obtain ⟨b,zs,e,c,f⟩:=h i j;have w':=hn b zs e;refine ⟨b,zs,e,Nat.lt_of_lt_of_le c d.size,?_⟩;have l:=d.block b c bv;rw [<- f];simp only [World.cell?,l]
theorem Kq (h:nR A b g) (w':A.grownBy B (some M)) (a:M<w) (hn:uw w g):nR B b g :=
 ⟨pi h.x w' a (hn g.ax (Or.inl rfl)),pi h.cs w' a (hn g.ac (Or.inr (Or.inl rfl))),pi h.ram w' a (hn g.ar (Or.inr (Or.inr (Or.inl rfl)))),pi h.xs w' a (hn g.ai (Or.inr (Or.inr (Or.inr (Or.inl rfl))))),pi h.ys w' a (hn g.ao (Or.inr (Or.inr (Or.inr (Or.inr rfl)))))⟩
theorem Ks:c.tail.getD d 0=c.getD (d+1) 0:=by cases c<;>simp
theorem Is (h:Mf b):Ma (Ko b)/\dI (Ko b)=false:=by
 refine ⟨⟨⟨by show b.x.tail.length<=_;rw [List.length_tail,h.x];omega,h.len.cs,h.len.ram,h.len.xs,h.len.ys⟩,λj=>by show U (b.x.tail.getD j 0);rw [Ks];exact h.ux _,h.ucs,h.bram,h.d.any,h.pc,h.hd,by have:=h.pos;show 0<b.x.tail.length/\_;rw [List.length_tail];exact ⟨ab,by show 0<b.ram.length;omega⟩⟩,?_⟩;have:gv (Ko b).x.length (Ko b).x=false:=by unfold gv;have e:(Ko b).x.length=31:=(by show b.x.tail.length=31;rw [List.length_tail,h.x]);simp [e]
 unfold dI;rw [this];simp
theorem DI (h:Mf b):Ma (xo b)/\dI (xo b)=false:=by
 refine ⟨⟨⟨h.len.x,h.len.cs,h.len.ram,h.len.xs,h.len.ys⟩,h.ux,h.ucs,h.bram,h.d.any,h.pc,h.hd,h.any.pos⟩,?_⟩;have:bn (xo b).cs.length (xo b).cs (xo b).pr=false:=by unfold bn;rw [show bZ (xo b).pr=false from rfl,Bool.and_false]
 unfold dI;rw [this];simp
theorem Iu (h:Mf b):Ma (Kp b)/\dI (Kp b)=false:=by
 refine ⟨⟨⟨h.len.x,h.len.cs,by show b.ram.tail.length<=_;rw [List.length_tail];have:=h.len.ram;omega,h.len.xs,h.len.ys⟩,h.ux,h.ucs,λy a=>h.bram y (List.mem_of_mem_tail a),h.d.any,h.pc,h.hd,by have:=h.pos;show _/\0<b.ram.tail.length;rw [List.length_tail];exact ⟨by show 0<b.x.length;omega,by omega⟩⟩,?_⟩;have:bf (Kp b).ram.length=false:=by have e:(Kp b).ram.length=4095\/(Kp b).ram.length=8191:=(by show b.ram.tail.length=_\/b.ram.tail.length=_;rw [List.length_tail];rcases h.ram with e | e<;>rw [e]<;>simp);rcases e with e | e<;>rw [e]<;>decide
 unfold dI;rw [this];simp
set_option maxRecDepth 100000
section
variable {w0 w W W' : World} {g n cap r m : Nat} {a : Option Addr} {zs : List Int} {M N : MV} {A C : MA}
theorem rL {k:IntKind} {p:Option Addr} {zs:List Int} (h:Sl k W p zs) {b:Nat} (cs:Array Value) (hn:∀ c d,p=some ⟨c,d,none⟩->b<c):Sl k (W.setRow b cs) p zs:=λj g=>by obtain ⟨c,o,e,a,f⟩:=h j g;refine ⟨c,o,e,by rw [setRow_size];exact a,?_⟩;simp only [World.cell?] at f ⊢;rw [setRow_other _ _ _ _ (by have:=hn c o e;omega)];exact f
theorem uN (hr:W.heap[m]?=some (.cells (aj N C) 32 (0,0))) (hz:W.heap[w.heap.size]?=some (.cells (aj zeroM zeroA) 32 (0,0))) (o:Ma N) (f:nR W N C) (fm:dI N=true->bA (w.heap.size+1) W.heap.size W (aG N C)) (v:uw (w.heap.size+1) C) (r:Cs w0 g a n cap w W) (s:g<w.heap.size) (l:w0.heap.size<=w.heap.size):Wg prog (λ_=>True) (bodyPost prog Tryz.f64 λe h=>∃ (M:MV) (A:MA),e=.returned (.agg (aj M A))/\Hid (Ma M)/\Hid (nR h M A)/\Hid (dI M=true->bA w.heap.size h.heap.size h (aG M A))/\Hid (uw w.heap.size A)/\Hid (Cs w0 g a n cap w h)) Tryz.f64.ntmps [.code (aq 3 (aL Tryz.f64))] [(0,.p g 0,0),(2,.p w.heap.size 0,0),(3,.p m 0,1)] W:=by
 refine cq (R:=[⟨m,aj N C,[]⟩]) ⟨⟨_,_,hr⟩,trivial⟩ {} 40 (az (g:=w.heap.size) (t:=32) (ty:=32) (cells:=aj N C) hz ba rfl (rJ N C)) ?_;have q:∀ p,(p=C.ax\/p=C.ac\/p=C.ar\/p=C.ai\/p=C.ao)->∀ c d,p=some ⟨c,d,none⟩->w.heap.size<c:=λp i c d e=>by have:=v p i c d e;omega
 exact gu (R:=[]) trivial {} 40 λb u=>⟨_,results_cell_row rfl b.tmps _ w.heap.size 32 (aj N C) (0,0) _ (u.slot ba) (setRow_heap _ _ _ _ _ _ hz) underlying32 rfl ba,N,C,rfl,o,⟨rL f.x _ (q _ (.inl rfl)),rL f.cs _ (q _ (.inr (.inl rfl))),rL f.ram _ (q _ (.inr (.inr (.inl rfl)))),rL f.xs _ (q _ (.inr (.inr (.inr (.inl rfl))))),rL f.ys _ (q _ (.inr (.inr (.inr (.inr rfl)))))⟩,λk=>((fm k).mono λj x _ _=>setRow_other _ _ _ _ ab).low ab lr,λp i c d e=>by have:=q p i c d e;omega,r.behind (aR (Below.refl _ _) (Nat.le_refl _) _) s l⟩
theorem xp (h:Dm w0 g a n cap w w.heap.size m M A W):Wg prog (λ_=>True) (bodyPost prog Tryz.f64 λe b=>∃ (M:MV) (A:MA),e=.returned (.agg (aj M A))/\Hid (Ma M)/\Hid (nR b M A)/\Hid (dI M=true->bA w.heap.size b.heap.size b (aG M A))/\Hid (uw w.heap.size A)/\Hid (Cs w0 g a n cap w b)) Tryz.f64.ntmps [.code (aq 3 (aL Tryz.f64))] [(0,.p g 0,0),(2,.p w.heap.size 0,0),(3,.p m 0,1)] W :=
 uN h.mp.row h.res h.fit.any h.mp.fam.msl (λ_=>h.mp.fam) (rK h.mp.fam) h.cu h.gr h.w0w
def VR {S:World->Prop} {T E:TypeId} (a:Option Addr) (xs:List Int) (c:Nat) {b:Nat} (i:a=some ⟨b,0,none⟩) (hx:1<xs.length) (k:xs.length<=c) (h:prog.underlying T=some (.slice E)) (hz:(prog.info? E).map (·.size)=some 1):Ov prog S :=
 ⟨do pure (.value (<- Instr.sliceAt T (.slice a xs.length c) (some (.i 1)) none none)),.slice (some ⟨b,1,none⟩) xs.tail.length (c-1),0,λW _=>by
  subst i
  obtain ⟨l,j,e⟩:=Option.map_eq_some_iff.1 hz
  have f:prog.elem T=E:=by simp [Program.elem,h]
  have g:prog.underlying T=some (.slice (prog.elem T)):=by rw [f];exact h
  have d:¬ c=1:=ab
  have r:=run_slice_l (P:=prog) (w:=W) T (some ⟨b,0,none⟩) xs.length c g .i64 1 ab ab
  rw [<- run_sliceAt_slice (P:=prog) (w:=W) T _ _ _ _ g,f] at r
  simp [r,sizeOf,typeInfo,j,e,sliced,d,Addr.add,Result.andThen]⟩
theorem Oy (h:Dm w0 g a n cap w w.heap.size m M A W) (i:Nat) (v:Value):bA (w.heap.size+1) W.heap.size (W.setCell ⟨m,i,none⟩ v) (aG M A)/\Cs w0 g a n cap w (W.setCell ⟨m,i,none⟩ v)/\(W.setCell ⟨m,i,none⟩ v).heap[w.heap.size]?=some (.cells (aj zeroM zeroA) 32 (0,0)):=by have c:=h.mp.lo;have b:Below w.heap.size W (W.setCell ⟨m,i,none⟩ v):=(Below.refl _ _).setCell (by show w.heap.size<=m;omega) v;exact ⟨by have:=Mp.fam_set h.mp.fam h.mp.ne i v;rwa [aT] at this,h.cu.behind b h.gr h.w0w,(Below.heap_setCell _ _ _ _ (by show w.heap.size≠m;omega)).trans h.res⟩
theorem t8 (j:Code w0 a n zs) (w:World) (E:lq w0 w g a n cap):Calls prog 64 #[.p g 0] w λe H=>∃ (M:MV) (A:MA),e=.returned (.agg (aj M A))/\Hid (Ma M)/\Hid (nR H M A)/\Hid (dI M=true->bA w.heap.size H.heap.size H (aG M A))/\Hid (uw w.heap.size A)/\Hid (Cs w0 g a n cap w H):=by
 refine bC (S:=λ_=>True) (args:=[.p g 0]) [(aj zeroM zeroA,32)] func64 ?_;have O:=E.lt;have P:=E.below.size;have I:Cs w0 g a n cap w (bP w [(aj zeroM zeroA,32)]):=Cs.alloc E _;have U:=(Bs.start w [(aj zeroM zeroA,32)]).1 0 _ rfl;have Y:(bP w [(aj zeroM zeroA,32)]).heap.size=w.heap.size+1:=by simp [bP]
 generalize bP w [(aj zeroM zeroA,32)]=Z at *;refine aN (R:=[]) trivial {} 40 (Ox j Z I.1) ?_;rintro e V ⟨M,A,rfl,s,o,d⟩;refine ⟨_,0,rfl,?_⟩;have z1:=d.out.2.size;have R1:=d.out.keep U ab;have J:=I.trans d.out;have h:Dm w0 g a n cap w w.heap.size V.heap.size M A (V.alloc (.cells (aj M A) 32)):=
  ⟨J.trans (Cs.alloc J.1 _),(Below.heap_alloc _ _ _ ab).trans R1,⟨heap_alloc_new _ _,(o.out.below (bal _ _)).low ab cp,λq hq e=>by have:=o.out.hi q hq _ e;omega,ab⟩,s.out,O,Nat.le_refl _,P⟩
 refine jh (R:=[]) trivial {} 10 1 (dD (T:=32) (z:=.agg (aj zeroM zeroA)) ba V) ?_;refine cq (R:=[]) trivial {} 10 (az (ty:=32) (cells:=aj M A) (heap_alloc_new V _) ba ba (rJ M A)) ?_;rw [World.setRow_alloc_new];refine an (R:=[]) trivial {} 1 ?_;generalize V.alloc (.cells (aj M A) 32)=V1 at *;generalize V.heap.size=m at *;refine af [.code (aq 2 (aL Tryz.f64))] [(0,.p g 0,0),(2,.p w.heap.size 0,0),(3,.p m 0,1)] ?_;clear s o d R1 J I U Y;refine aN (R:=[]) trivial {} 40 (bH j 20 bc _ h.cur) ?_;rintro e V2 ⟨c,rfl,d⟩;refine ⟨_,0,rfl,?_⟩;replace h:=h.next d.out;cases c with
 | false =>refine an (R:=[]) trivial {} 3 ?_;exact af _ _ (xp h)
 | true =>
 refine aN (R:=[]) trivial {} 40 (aA j 7 bc _ h.cur) ?_;rintro e u ⟨x,rfl,hx,d⟩;refine ⟨_,0,rfl,?_⟩;replace h:=h.next d.out;obtain rfl|rfl|rfl|rfl|rfl|rfl|rfl:x=0\/x=1\/x=2\/x=3\/x=4\/x=5\/x=6:=ab
 ·refine aH (Dm w0 g a n cap w w.heap.size m M A) ?_;refine an (R:=[]) trivial {} 60 ?_;refine it 2 ?_;replace h:=h.below (Below.refl u.heap.size u).drew;refine aS Dm.eng {} 30 h (λW k=>aA j 4 bc W k.cur) ?_;rintro W1 e W2 D ⟨y,rfl,X,d⟩;refine ⟨_,0,rfl,λ_=>D.next d.out,?_⟩;refine ae Dm.eng {} 40 (D.next d.out) λK B=>?_;refine cq (R:=[]) trivial {} 10 (bJ (i:=0) (T:=22) (v:=.u (Uz.wrap (M.pc+Uz.wrap y))) B.mp.row oi ba rfl) ?_;refine an (R:=[]) trivial {} 2 ?_;exact aH (λ_=>True) (af _ _ (xp (B.setPc _ (aU _))))
 ·refine aH (Dm w0 g a n cap w w.heap.size m M A) ?_;refine an (R:=[]) trivial {} 60 ?_;refine it 2 ?_;replace h:=h.below (Below.refl u.heap.size u).drew;obtain ⟨b,_,f,_⟩:=h.atX;refine aS Dm.eng {} 30 h (λW k=>aA j 2 bc W k.cur) ?_;rintro W1 e W2 D ⟨y,rfl,X,d⟩;refine ⟨_,0,rfl,λ_=>D.next d.out,?_⟩;refine ae Dm.eng {ov:=[(26,kF M.x.length A.cx .i64 0 f ⟨bc,by rw [h.fit.x];decide⟩ underlying23 ba)]} 40 (D.next d.out) λK B=>?_;obtain ⟨Q,L⟩:=B.putX b f 0 bc (v:=Uz.wrap y) (aU _);refine cq (R:=[]) trivial {} 10 Q ?_;refine an (R:=[]) trivial {} 2 ?_;exact aH (λ_=>True) (af _ _ (xp L))
 ·obtain ⟨b,f,l⟩:∃ b,A.ax=some ⟨b,0,none⟩/\M.x.length<=A.cx:=by
   rcases (h.mp.xrow).2 with ⟨_,e⟩|⟨b,_,_,e,_,_,t,_⟩;·have:=h.fit.pos;omega
   ·simp only [Value.slice.injEq,true_and] at e;exact ⟨b,e.1,by rw [e.2];exact t⟩
  obtain ⟨r,k,F⟩:=Oy h 1 (.slice (some ⟨b,1,none⟩) M.x.tail.length (A.cx-1));refine cq h.rows {ov:=[(31,VR A.ax M.x A.cx f (by have:=h.fit.pos;omega) l underlying23 ba)]} 60 (bJ (i:=1) (T:=23) (v:=.slice (some ⟨b,1,none⟩) M.x.tail.length (A.cx-1)) h.mp.row oi ba rfl) ?_;refine an (R:=[]) trivial {} 2 ?_;have p:=r.msl;have G:=p.x;rw [f] at G;exact af _ _ (uN (N:=Ko M) (C:=VP A b) (sU h.mp.row 1 _) F (Is h.fit).1 ⟨Ir G,p.cs,p.ram,p.xs,p.ys⟩ (λk=>by rw [(Is h.fit).2] at k;cases k) (QQ (rK h.mp.fam) f) k h.gr h.w0w)
 ·refine aH (Dm w0 g a n cap w w.heap.size m M A) ?_;refine an (R:=[]) trivial {} 60 ?_;refine it 2 ?_;replace h:=h.below (Below.refl u.heap.size u).drew;obtain ⟨b,_,f,_⟩:=h.atC;have c9:∀ W,Dm w0 g a n cap w w.heap.size m M A W->W.cell? ⟨b,0+(9:Int).toNat,none⟩=some (.u (M.cs.getD 9 0)):=λW k=>by obtain ⟨b',_,e,_,_,E⟩:=k.atC;rw [f] at e;cases e;exact (E 9 bc).1
  refine ae Dm.eng {ov:=[(39,kF M.cs.length A.cc .i64 9 f ⟨bc,ph⟩ underlying23 ba),(40,iL ⟨b,0+(9:Int).toNat,none⟩ (.u (M.cs.getD 9 0)) underlying22 rfl c9),(42,kF M.cs.length A.cc .i64 9 f ⟨bc,ph⟩ underlying23 ba)]} 40 h λK B=>?_;obtain ⟨Q,L⟩:=B.putC b f 9 bc (v:=bits .xor .u64 (M.cs.getD 9 0) 128) (ah _ _ _);refine cq (R:=[]) trivial {} 10 Q ?_;refine an (R:=[]) trivial {} 2 ?_;exact aH (λ_=>True) (af _ _ (xp L))
 ·obtain ⟨r,k,F⟩:=Oy h 2 (.i 2);refine cq h.rows {} 60 (bJ (i:=2) (T:=2) (v:=.i 2) h.mp.row oi ba rfl) ?_;refine an (R:=[]) trivial {} 2 ?_;exact af _ _ (uN (N:=xo M) (C:=A) (sU h.mp.row 2 _) F (DI h.fit).1 ⟨r.msl.x,r.msl.cs,r.msl.ram,r.msl.xs,r.msl.ys⟩ (λk=>by rw [(DI h.fit).2] at k;cases k) (rK h.mp.fam) k h.gr h.w0w)
 ·refine aN (R:=[]) trivial {} 60 (aA j 2 bc _ h.cur) ?_;rintro e K ⟨y,rfl,X,d⟩;refine ⟨_,0,rfl,?_⟩;replace h:=h.next d.out;refine cq h.rows {} 60 (bJ (i:=11) (T:=22) (v:=.u (Uz.wrap y)) h.mp.row oi ba rfl) ?_;refine an (R:=[]) trivial {} 2 ?_;exact af _ _ (xp (h.setHd _ (aU _)))
 ·obtain ⟨b,f,l⟩:∃ b,A.ar=some ⟨b,0,none⟩/\M.ram.length<=A.cr:=by
   rcases (h.mp.rrow).2 with ⟨_,e⟩|⟨b,_,_,e,_,_,t,_⟩;·have:=h.fit.pos;omega
   ·simp only [Value.slice.injEq,true_and] at e;exact ⟨b,e.1,by rw [e.2];exact t⟩
  obtain ⟨r,k,F⟩:=Oy h 4 (.slice (some ⟨b,1,none⟩) M.ram.tail.length (A.cr-1));refine cq h.rows {ov:=[(56,VR A.ar M.ram A.cr f (by have:=h.fit.pos;omega) l underlying24 ba)]} 60 (bJ (i:=4) (T:=24) (v:=.slice (some ⟨b,1,none⟩) M.ram.tail.length (A.cr-1)) h.mp.row oi ba rfl) ?_;refine an (R:=[]) trivial {} 2 ?_;have p:=r.msl;have G:=p.ram;rw [f] at G;exact af _ _ (uN (N:=Kp M) (C:=VQ A b) (sU h.mp.row 4 _) F (Iu h.fit).1 ⟨p.x,p.cs,Ir G,p.xs,p.ys⟩ (λk=>by rw [(Iu h.fit).2] at k;cases k) (QR (rK h.mp.fam) f) k h.gr h.w0w)
end
theorem pX (a b:Option Addr) (n m ca H:Nat) (xs ys:List Int) (w:World) (hx:xs.length=n) (hy:ys.length=m) (hn:n<=1048576) (hm:m<=1048576) (hs:Sl .u64 w a xs) (J:Sl .u64 w b ys):CB 30 #[.slice a n ca,.slice b m H] w (.bool (decide (xs=ys))):=by
 by_cases q:n=m
 ·subst q;have r:Hid (xs.length=n):=hx;have s:Hid (ys.length=n):=hy;have I:((n:Int) != (n:Int))=false:=cp;clear hx hy;go_enter func30,ntmps30;go_wp2;go_loopw [5] (λi wr=>∃ k:Nat,k<=n/\i=.i k/\Hid (xs.take k=ys.take k)/\Bw w wr)
   (λi _=>n-(intOf i).toNat)
  case atStart=>exact ⟨0,Nat.zero_le _,rfl,(rfl:xs.take 0=ys.take 0),Below.refl _ _⟩
  case round =>
   obtain ⟨k,P,rfl,o,c⟩:=hrel;by_cases A:k<n
   ·obtain ⟨E,K,rfl,t,j⟩:=hs k (by have:=r.out;omega);obtain ⟨G,L,rfl,u,l⟩:=J k (by have:=s.out;omega);obtain ⟨x,f⟩:∃ x,x=xs.getD k 0:=⟨_,rfl⟩;obtain ⟨y,g⟩:∃ y,y=ys.getD k 0:=⟨_,rfl⟩;have N:wr.cell? ⟨E,K+k,none⟩=some (.u x):=(by rw [f];exact (c.cell (by exact t)).trans j);have O:wr.cell? ⟨G,L+k,none⟩=some (.u y):=(by rw [g];exact (c.cell (by exact u)).trans l);have B:Hid (x=xs.getD k 0):=f;have C:Hid (y=ys.getD k 0):=g;clear j l f g;by_cases d:x=y
    ·subst d;have R:=IB xs ys k n r.out s.out A o.out (B.out.symm.trans C.out);have D:Hid (xs.take (k+1)=ys.take (k+1)):=R;clear R;have p:(x != x)=false:=cp;go_wp2;go_region;all_goals go_wp2
     all_goals go_roundw
     case rel=>exact ⟨k+1,ab,by go_num,D,c.drew⟩
     case measure=>simp [intOf];omega
    ·have F:Hid (decide (xs=ys)=false):=(by show decide (xs=ys)=false;rw [decide_eq_false_iff_not];intro h;apply d;rw [B.out,C.out,h]);have p:(x != y)=true:=kp;clear d;go_wp2;go_region;all_goals go_wp2
     all_goals go_ret
     all_goals exact ⟨bh,c.drew⟩
   ·have z:k=n:=ab;subst z;have F:Hid (decide (xs=ys)=true):=(by show decide (xs=ys)=true;rw [decide_eq_true_eq];have h:=o.out;rw [List.take_of_length_le (by have:=r.out;omega),List.take_of_length_le (by have:=s.out;omega)] at h;exact h);go_wp2;go_ret;exact ⟨bh,c⟩
 ·have F:Hid (decide (xs=ys)=false):=(by show decide (xs=ys)=false;rw [decide_eq_false_iff_not];intro h;apply q;rw [<- hx,<- hy,h]);have p:((n:Int) != (m:Int))=true:=bv;clear hx hy;go_enter func30,ntmps30;go_wp2;go_ret;exact ⟨bh,Below.refl _ _⟩
theorem j6 (w:World) (hl:jR j) (Z:nR w j m) (hc:nR w j p): CB 26 #[.agg #[.u j.pc,.slice m.ax j.x.length m.cx,.i j.pr,.slice m.ac j.cs.length m.cc,.slice m.ar j.ram.length m.cr,.u j.d.t,.u j.d.cm,.bool j.d.so,.slice m.ai j.d.xs.length m.ci,.slice m.ao j.d.ys.length m.co,.i j.d.ir,.u j.hd,.bool j.hl,.bool j.wt],.agg #[.u j.pc,.slice p.ax j.x.length p.cx,.i j.pr,.slice p.ac j.cs.length p.cc,.slice p.ar j.ram.length p.cr,.u j.d.t,.u j.d.cm,.bool j.d.so,.slice p.ai j.d.xs.length p.ci,.slice p.ao j.d.ys.length p.co,.i j.d.ir,.u j.hd,.bool j.hl,.bool j.wt]] w (.bool true):=by obtain ⟨ra,rb⟩:=vf (w:=w) (o1:=.cells #[.u j.pc,.slice m.ax j.x.length m.cx,.i j.pr,.slice m.ac j.cs.length m.cc,.slice m.ar j.ram.length m.cr,.u j.d.t,.u j.d.cm,.bool j.d.so,.slice m.ai j.d.xs.length m.ci,.slice m.ao j.d.ys.length m.co,.i j.d.ir,.u j.hd,.bool j.hl,.bool j.wt] 32) (o2:=.cells #[.u j.pc,.slice p.ax j.x.length p.cx,.i j.pr,.slice p.ac j.cs.length p.cc,.slice p.ar j.ram.length p.cr,.u j.d.t,.u j.d.cm,.bool j.d.so,.slice p.ai j.d.xs.length p.ci,.slice p.ao j.d.ys.length p.co,.i j.d.ir,.u j.hd,.bool j.hl,.bool j.wt] 32) (Below.refl _ _);have RA:=aE ra;have RB:=aE rb;have B0:Hid (Bw w ((w.alloc (.cells #[.u j.pc,.slice m.ax j.x.length m.cx,.i j.pr,.slice m.ac j.cs.length m.cc,.slice m.ar j.ram.length m.cr,.u j.d.t,.u j.d.cm,.bool j.d.so,.slice m.ai j.d.xs.length m.ci,.slice m.ao j.d.ys.length m.co,.i j.d.ir,.u j.hd,.bool j.hl,.bool j.wt] 32)).alloc (.cells #[.u j.pc,.slice p.ax j.x.length p.cx,.i j.pr,.slice p.ac j.cs.length p.cc,.slice p.ar j.ram.length p.cr,.u j.d.t,.u j.d.cm,.bool j.d.so,.slice p.ai j.d.xs.length p.ci,.slice p.ao j.d.ys.length p.co,.i j.d.ir,.u j.hd,.bool j.hl,.bool j.wt] 32))):=(bal _ _).alloc cp _;clear ra rb;have HX:Hid (∀ b,Bw w b->CB 30 #[.slice m.ax j.x.length m.cx,.slice p.ax j.x.length p.cx] b (.bool true)):=λb f=>(pX _ _ _ _ _ _ _ _ b rfl rfl hl.x hl.x (Z.x.below f) (hc.x.below f)).mono λe c h=>⟨by rw [h.1];simp,h.2⟩;have HS:Hid (∀ b,Bw w b->CB 30 #[.slice m.ac j.cs.length m.cc,.slice p.ac j.cs.length p.cc] b (.bool true)):=λb f=>(pX _ _ _ _ _ _ _ _ b rfl rfl hl.cs hl.cs (Z.cs.below f) (hc.cs.below f)).mono λe c h=>⟨by rw [h.1];simp,h.2⟩;have HD:Hid (∀ b,Bw w b->CB 74 #[.agg #[.u j.d.t,.u j.d.cm,.bool j.d.so,.slice m.ai j.d.xs.length m.ci,.slice m.ao j.d.ys.length m.co,.i j.d.ir],.agg #[.u j.d.t,.u j.d.cm,.bool j.d.so,.slice p.ai j.d.xs.length p.ci,.slice p.ao j.d.ys.length p.co,.i j.d.ir]] b (.bool true)):=λb f=>AX j.d _ _ _ _ _ _ _ _ b (Z.xs.below f) (Z.ys.below f) (hc.xs.below f) (hc.ys.below f);have CA:Hid (∀ b,Bw w b->(convert 24 9 (.slice m.ar j.ram.length m.cr)).run prog b=.ok (.string (strOfNums j.ram)) b):=λb f=>pF _ _ _ _ _ rfl (Z.ram.below f);have CC:Hid (∀ b,Bw w b->(convert 24 9 (.slice p.ar j.ram.length p.cr)).run prog b=.ok (.string (strOfNums j.ram)) b):=λb f=>pF _ _ _ _ _ rfl (hc.ram.below f);clear Z hc hl;obtain ⟨pc,x,pr,cs,ram,d,hd,hh,wt⟩:=j;dsimp only at *;generalize strOfNums ram=sr at *;generalize x.length=nx at *;generalize cs.length=nc at *;generalize ram.length=nr at *;generalize d.xs.length=n1 at *;generalize d.ys.length=n2 at *;obtain ⟨E,F,G,H,I,J,K,L,N,O,g,M,l,A⟩:=aZ RA.out;obtain ⟨P,Q,R,S,T,U,V,W,X,Y,o,C,q,r⟩:=aZ RB.out;go_enter func26,ntmps26;go_wp2_with fail;refine (HX.out _ B0.out).mono ?_;rintro e w1 ⟨rfl,s⟩;have y:=aE (bq s RA.out);have B:=aE (bq s RB.out);have B1:=aE (aa B0.out s);clear s RA RB B0 HX E F G H I J K L N O g M l A P Q R S T U V W X Y o C q r;obtain ⟨E,F,G,H,I,J,K,L,N,O,g,M,l,A⟩:=aZ y.out;obtain ⟨P,Q,R,S,T,U,V,W,X,Y,o,C,q,r⟩:=aZ B.out;go_wp2_with fail;refine (HS.out _ B1.out).mono ?_;rintro e w2 ⟨rfl,t⟩;have z:=aE (bq t y.out);have D:=aE (bq t B.out);have B2:=aE (aa B1.out t);clear t y B B1 HS E F G H I J K L N O g M l A P Q R S T U V W X Y o C q r;obtain ⟨E,F,G,H,I,J,K,L,N,O,g,M,l,A⟩:=aZ z.out;obtain ⟨P,Q,R,S,T,U,V,W,X,Y,o,C,q,r⟩:=aZ D.out;have cva:=CA.out _ B2.out;have cvc:=CC.out _ B2.out;clear CA CC;go_wp2_with fail;refine (HD.out _ B2.out).mono ?_;rintro e w3 ⟨rfl,u⟩;have RA3:=aE (bq u z.out);have RB3:=aE (bq u D.out);have B3:=aE (aa B2.out u);clear u z D B2 HD cva cvc E F G H I J K L N O g M l A P Q R S T U V W X Y o C q r;obtain ⟨E,F,G,H,I,J,K,L,N,O,g,M,l,A⟩:=aZ RA3.out;obtain ⟨P,Q,R,S,T,U,V,W,X,Y,o,C,q,r⟩:=aZ RB3.out;go_wp2_with fail;go_ret;exact ⟨rfl,B3.out⟩
end Go.Proofs.YtfagphfjfhpmjaaGreatDoor
