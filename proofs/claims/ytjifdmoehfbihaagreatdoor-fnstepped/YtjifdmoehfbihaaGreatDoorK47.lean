/- Own lemmas. -/
import Derived.Test.YtjifdmoehfbihaaGreatDoorAut
import Derived.Test.YtjifdmoehfbihaaGreatDoorK45
import Derived.Test.YtjifdmoehfbihaaGreatDoorK46
set_option maxHeartbeats 400000
namespace Go.Proofs.YtjifdmoehfbihaaGreatDoor
open Go.RowKit Tryz
open IntKind renaming u64->Uz
set_option linter.unusedVariables false
theorem Fb:∃ i,prog.info? 22=some i/\i.zero=some (.u 0)/\i.size=1:=by
 have h:(prog.info? 22).map (λi=>(i.zero,i.size))=some (some (.u 0),1):=al
 cases a:prog.info? 22 with
 | none=>rw [a] at h;cases h
 | some i=>rw [a] at h;simp at h;exact ⟨i,rfl,h.1,h.2⟩
theorem Nv {w0:World} {g:Nat} {a:Option Addr} {n cap:Nat} {w wr:World} {b m:Nat} (h:Rm w0 g a n cap w b m wr) (hm:m<=1048576) (f k:Nat) (x:Int) (hk:k<=8) (u:f+k<=m) (hx:U x):Calls prog 119 #[.slice (some ⟨b,0,none⟩) m m,.u (2147483648+(f:Int)),.i (k:Int),.u x] wr λe p=>e=.returned (.tuple #[])/\Rm w0 g a n cap w b m p/\wr.grownBy p (some b):=by
 obtain ⟨zs,B,A,c,v,t⟩:=h;refine (xt b m m f k _ zs x wr hm hk u hx.1 (by have:=hx.2;omega) A).mono λe p ⟨r,s,d⟩=>⟨r,⟨jZ zs f x k,GW zs B f x k,s,?_,v,t⟩,d⟩;have C:w0.heap.size<=w.heap.size:=by
  rcases Nat.lt_or_ge w.heap.size w0.heap.size with q|q;·have:=c.1.new;omega
  ·exact q
 obtain ⟨i,y,z,j⟩:=c.1.row;have l:=(Array.getElem?_eq_some_iff.1 j).1;refine ⟨⟨c.1.new,?_,i,y,z,(d.block g l bh).trans j⟩,⟨d.os.trans c.2.os,d.tape.trans c.2.tape,d.output.trans c.2.output,Nat.le_trans c.2.size d.size,λk hk o=>(d.block k (Nat.lt_of_lt_of_le hk c.2.size) bh).trans (c.2.block k hk o)⟩⟩;exact c.1.below.grown d c.1.below.size (by intro k hk;cases hk;omega)
theorem Fc:U 0:=⟨bb,bb⟩
theorem Qv (k j:Nat):U ((List.replicate k (0:Int)).getD j 0):=by simp only [List.getD,List.getElem?_replicate];split<;>exact ⟨cp,cp⟩
theorem Nw (ram:List Int) (c:∀ y ∈ ram,(Lit.int .u8 y).wf=true) (hl:ram.length=4096\/ram.length=8192):Mf (Aa ram):=by
 have a:aU ram.length=true:=by rcases hl with e|e<;>rw [e]<;>decide
 unfold Aa;rw [if_pos a];refine ⟨by simp [cC,nC],λj=>Qv 32 j,by simp [cC,nC],?_,hl,c,⟨Fc,Fc,.inl rfl,⟨λy b=>(nomatch b),λy b=>(nomatch b)⟩,Nat.zero_le _,Nat.zero_le _⟩,(show U 2147483648 from ⟨bb,bb⟩),Fc,.inr (.inr rfl)⟩;exact FG (Qv 22) 9 (aP _)
theorem SC (M:MV) (A:MA) (D:DV) (a1:Option Addr) (c1:Nat) (a2:Option Addr) (c2:Nat):((aq M A).toList.take 5++(fM D a1 c1 a2 c2).toList++(aq M A).toList.drop (5+(fM D a1 c1 a2 c2).size)).toArray=aq (cP M D) (ke A a1 c1 a2 c2):=rfl
theorem SE (w:World):(do pure (.value (<- Instr.buildSlice 39 2 #[(0,.i 0),(1,.i 1)])):Sem Next).run prog w=.ok (.value (.slice (some ⟨w.heap.size,0,none⟩) 2 2)) (w.alloc (.cells #[.i 0,.i 1] 2)):=by obtain ⟨c,b,e⟩:=Option.map_eq_some_iff.1 (show (prog.info? 2).map (λi=>(i.zero,i.size))=some (some (.i 0),1) by kernel_rfl);simp only [Prod.mk.injEq] at e;obtain ⟨a,e2⟩:=e;have:=run_buildSlice (P:=prog) w 39 2 2 #[(0,.i 0),(1,.i 1)] #[.i 0,.i 1] c (.i 0) underlying39 b a (by rw [e2];decide) (by rw [e2];decide) (by rw [e2];kernel_rfl);simp [this]
def Dj (w0:World) (g:Nat) (a:Option Addr) (n cap:Nat) (w:World) (m j:Nat):Prop:=∀ M A W,Dm w0 g a n cap w w.heap.size m M A W->Wg prog (λ_=>True) (bodyPost prog Tryz.f100 λe b=>∃ (M:MV) (A:MA),e=.returned (.agg (aq M A))/\Hid (Mf M)/\Hid (bx w.heap.size b.heap.size b (aI M A))/\Hid (Cs w0 g a n cap w b)) Tryz.f100.ntmps [.code (az j (aW Tryz.f100))] [(0,.p g 0,0),(2,.p w.heap.size 0,0),(8,.p m 0,1)] W
set_option maxRecDepth 100000
section
variable {w0 w W : World} {g n cap r m : Nat} {a : Option Addr} {zs : List Int} {M : MV} {A : MA}
theorem Dm.eng {P:Program} {fn:Func} {Rs:Ending->World->Prop}:nE P (Dm w0 g a n cap w r m M A) (Dm w0 g a n cap w r m M A) [⟨m,aq M A,[]⟩] true (bodyPost P fn Rs):=
 ⟨λ_ h=>h,λW h x b=>by rw [List.mem_singleton.1 b];exact ⟨_,_,h.mp.row⟩,λ_ W h=>h.below (Below.refl _ _).drew,ct⟩
theorem Dm.rows (h:Dm w0 g a n cap w r m M A W):g6 W [⟨m,aq M A,[]⟩]:=⟨⟨_,_,h.mp.row⟩,trivial⟩
theorem Dm.putC (h:Dm w0 g a n cap w r m M A W) (b:Nat) (c:A.ac=some ⟨b,0,none⟩) (i:Nat) (f:i<22) {v:Int} (hv:U v):(do Instr.storeAt 22 (.p b i) (.u v);pure Next.skip:Sem Next).run prog W=.ok .skip (W.setCell ⟨b,i,none⟩ (.u v))/\Dm w0 g a n cap w r m (cM M (M.cs.set i v)) A (W.setCell ⟨b,i,none⟩ (.u v)):=by obtain ⟨j,_,e,_,_,d⟩:=h.atC;rw [c] at e;cases e;exact ⟨jh (d i f) al rfl,h.setC b c i hv⟩
theorem Dm.putX (h:Dm w0 g a n cap w r m M A W) (b:Nat) (c:A.ax=some ⟨b,0,none⟩) (i:Nat) (f:i<32) {v:Int} (hv:U v):(do Instr.storeAt 22 (.p b i) (.u v);pure Next.skip:Sem Next).run prog W=.ok .skip (W.setCell ⟨b,i,none⟩ (.u v))/\Dm w0 g a n cap w r m (xM M (M.x.set i v)) A (W.setCell ⟨b,i,none⟩ (.u v)):=by obtain ⟨j,_,e,_,_,d⟩:=h.atX;rw [c] at e;cases e;exact ⟨jh (d i f) al rfl,h.setX b c i hv⟩
theorem TY:Dj w0 g a n cap w m 17:=by intro M A W h;refine cw h.rows {} 40 (aG (g:=w.heap.size) (t:=32) (ty:=32) (cells:=aq M A) h.res al rfl (qQ M A)) ?_;obtain ⟨f,k⟩:=h.outM (aq M A);exact fP (R:=[]) trivial {} 40 λb c=>⟨_,results_cell_row rfl b.tmps _ w.heap.size 32 (aq M A) (0,0) _ (c.slot al) (setRow_heap _ _ _ _ _ _ h.res) underlying32 rfl al,M,A,rfl,h.fit,f,k⟩
theorem TK:Dj w0 g a n cap w m 16:=by intro M A W h;refine aS (R:=[]) trivial {} 40 (xA M A (w.heap.size+1) m W h.fit.cs h.fit.len h.mp) ?_;rintro e V ⟨rfl,c,b⟩;refine ⟨_,0,rfl,?_⟩;refine an (R:=[]) trivial {} 1 ?_;exact ah _ _ (TY _ _ _ (h.step (h.mp.under b) c (Nt h.fit)))
theorem TM (b:Code w0 a n zs):Dj w0 g a n cap w m 15:=by
 intro M A W h;refine aS (R:=[]) trivial {} 40 (bG b 12 bb W h.cur) ?_;rintro e V ⟨c,rfl,d⟩;refine ⟨_,0,rfl,?_⟩;replace h:=h.next d.out;cases c with
 | false =>refine an (R:=[]) trivial {} 3 ?_;exact ah _ _ (TK _ _ _ h)
 | true =>refine cw h.rows {} 40 (bE (i:=13) (T:=4) (v:=.bool true) h.mp.row ni al rfl) ?_;refine an (R:=[]) trivial {} 1 ?_;exact ah _ _ (TK _ _ _ (h.setWt true))
theorem US (b:Code w0 a n zs):Dj w0 g a n cap w m 14:=by
 intro M A W h;refine aS (R:=[]) trivial {} 40 (bG b 5 bb W h.cur) ?_;rintro e V ⟨c,rfl,d⟩;refine ⟨_,0,rfl,?_⟩;replace h:=h.next d.out;cases c with
 | false =>refine an (R:=[]) trivial {} 3 ?_;exact ah _ _ (TM b _ _ _ h)
 | true =>refine cw h.rows {} 40 (bE (i:=12) (T:=4) (v:=.bool true) h.mp.row ni al rfl) ?_;replace h:=h.setHl true;refine aS (R:=[]) trivial {} 40 (aB b 1024 bb _ h.cur) ?_;rintro e V ⟨x,rfl,f,d⟩;refine ⟨_,0,rfl,?_⟩;replace h:=h.next d.out;refine cw h.rows {} 40 (bE (i:=11) (T:=22) (v:=.u (Uz.wrap (2147483648+Uz.wrap (8*Uz.wrap x)))) h.mp.row ni al rfl) ?_;refine an (R:=[]) trivial {} 1 ?_;exact ah _ _ (TM b _ _ _ (h.setHd _ (aP _)))
theorem TZ (b:Code w0 a n zs):Dj w0 g a n cap w m 13:=by
 intro M A W h;refine aS (R:=[]) trivial {} 40 (bG b 6 bb W h.cur) ?_;rintro e V ⟨c,rfl,d⟩;refine ⟨_,0,rfl,?_⟩;replace h:=h.next d.out;cases c with
 | false =>refine an (R:=[]) trivial {} 3 ?_;exact ah _ _ (US b _ _ _ h)
 | true =>refine aS (R:=[]) trivial {} 40 (aB b 8 bb _ h.cur) ?_;rintro e V ⟨x,rfl,f,d⟩;refine ⟨_,0,rfl,?_⟩;replace h:=h.next d.out;refine cw h.rows {} 40 (bE (i:=0) (T:=22) (v:=.u (Uz.wrap (2147483648+Uz.wrap (4*Uz.wrap x)))) h.mp.row ni al rfl) ?_;refine an (R:=[]) trivial {} 1 ?_;exact ah _ _ (US b _ _ _ (h.setPc _ (aP _)))
theorem TN (b:Code w0 a n zs) (h:Dm w0 g a n cap w w.heap.size m M A W):Wg prog (λ_=>True) (bodyPost prog Tryz.f100 λe d=>∃ (M:MV) (A:MA),e=.returned (.agg (aq M A))/\Hid (Mf M)/\Hid (bx w.heap.size d.heap.size d (aI M A))/\Hid (Cs w0 g a n cap w d)) Tryz.f100.ntmps [.code (az 2 (Fz (az 1 (i8 (az 12 (aW Tryz.f100)))))),.code (az 13 (aW Tryz.f100))] [(0,.p g 0,0),(2,.p w.heap.size 0,0),(8,.p m 0,1)] W:=by
 refine aS (R:=[]) trivial {} 40 (bG b 2 bb W h.cur) ?_;rintro e V ⟨c,rfl,i⟩;refine ⟨_,0,rfl,?_⟩;replace h:=h.next i.out;cases c with
 | false =>refine an (R:=[]) trivial {} 3 ?_;exact ah _ _ (TZ b _ _ _ h)
 | true =>refine aS (R:=[]) trivial {} 40 (xo b h) ?_;rintro e V ⟨rfl,N,f⟩;refine ⟨_,0,rfl,?_⟩;refine an (R:=[]) trivial {} 1 ?_;exact ah _ _ (TZ b _ _ _ f.out)
theorem UH (d:Code w0 a n zs):Dj w0 g a n cap w m 12:=by
 intro M A W h;refine aS (R:=[]) trivial {} 40 (bG d 3 bb W h.cur) ?_;rintro e V ⟨c,rfl,l⟩;refine ⟨_,0,rfl,?_⟩;replace h:=h.next l.out;cases c with
 | false =>refine an (R:=[]) trivial {} 3 ?_;exact ah _ _ (TZ d _ _ _ h)
 | true =>
   refine nQ (R:=[]) trivial {} 10 1 (SE V) ?_;have C:=(Below.refl V.heap.size V).alloc (Nat.le_refl _) (.cells #[.i 0,.i 1] 2);have t:=heap_alloc_new V (.cells #[.i 0,.i 1] 2);replace h:=h.below C;generalize V.alloc (.cells #[.i 0,.i 1] 2)=z at *;have E:=(Array.getElem?_eq_some_iff.1 t).1;refine aS (R:=[]) trivial {} 40 (aB d 2 bb z h.cur) ?_;rintro e B ⟨y,rfl,F,j⟩;refine ⟨_,0,rfl,?_⟩;have u:=j.out.keep t (by have:=l.out.1.lt;omega);replace h:=h.next j.out;have fin:∀ v:Int,v=0\/v=1->Wg prog (λ_=>True) (bodyPost prog Tryz.f100 λe r=>∃ (M:MV) (A:MA),e=.returned (.agg (aq M A))/\Hid (Mf M)/\Hid (bx w.heap.size r.heap.size r (aI M A))/\Hid (Cs w0 g a n cap w r)) Tryz.f100.ntmps [.code (az 1 (Fz (az 1 (i8 (az 12 (aW Tryz.f100)))))),.code (az 13 (aW Tryz.f100))] [(0,.p g 0,0),(2,.p w.heap.size 0,0),(8,.p m 0,1)] (B.setCell ⟨m,2,none⟩ (.i v)):=by
    intro v D;replace h:=h.setPr v (D.elim .inl λe=>.inr (.inl e));obtain ⟨N,s⟩:∃ N,UG M v=N:=⟨_,rfl⟩;rw [s] at h;clear s;refine aS (R:=[]) trivial {} 40 (bG d 3 bb _ h.cur) ?_;rintro e V ⟨c,rfl,l⟩;refine ⟨_,0,rfl,?_⟩;replace h:=h.next l.out;cases c with
    | true =>refine an (R:=[]) trivial {} 4 ?_;exact ah _ _ (TN d h)
    | false =>obtain ⟨b,_,k,_⟩:=h.atC;obtain ⟨p,f⟩:=h.putC b k 16 bb (v:=31) ⟨bb,bb⟩;obtain ⟨q,o⟩:=f.putC b k 17 bb (v:=18014398509481983) ⟨bb,bb⟩;refine cw h.rows {ov:=[(133,kN N.cs.length A.cc .i64 16 k ⟨bb,nn⟩ underlying23 al)]} 40 p ?_;refine cw f.rows {ov:=[(136,kN (N.cs.set 16 31).length A.cc .i64 17 k ⟨bb,by rw [List.length_set,h.fit.cs];decide⟩ underlying23 al)]} 40 q ?_;refine an (R:=[]) trivial {} 1 ?_;exact ah _ _ (TN d o)
   have x:=λv:Int=>bE (P:=prog) (i:=2) (T:=2) (v:=.i v) h.mp.row ni al rfl;obtain rfl | rfl:y=0\/y=1:=ab;all_goals refine an (R:=[]) trivial {} 1 ?_
   all_goals refine aL 125 2 ?_
   ·refine cw (R:=[⟨m,aq M A,[]⟩,⟨V.heap.size,#[.i 0,.i 1],[]⟩]) ⟨⟨_,_,h.mp.row⟩,⟨_,_,u⟩,trivial⟩ {} 40 (x 0) ?_;refine an (R:=[]) trivial {} 1 ?_;exact ah _ _ (fin 0 (.inl rfl))
   ·refine cw (R:=[⟨m,aq M A,[]⟩,⟨V.heap.size,#[.i 0,.i 1],[]⟩]) ⟨⟨_,_,h.mp.row⟩,⟨_,_,u⟩,trivial⟩ {} 40 (x 1) ?_;refine an (R:=[]) trivial {} 1 ?_;exact ah _ _ (fin 1 (.inr rfl))
theorem UT (d:Code w0 a n zs):Dj w0 g a n cap w m 11:=by
 intro M A W h;refine aS (R:=[]) trivial {} 40 (bG d 3 bb W h.cur) ?_;rintro e V ⟨c,rfl,o⟩;refine ⟨_,0,rfl,?_⟩;replace h:=h.next o.out;cases c with
 | false =>refine an (R:=[]) trivial {} 3 ?_;exact ah _ _ (UH d _ _ _ h)
 | true =>obtain ⟨b,_,i,_⟩:=h.atC;obtain ⟨k,f⟩:=h.putC b i 16 bb (v:=31) ⟨bb,bb⟩;obtain ⟨l,j⟩:=f.putC b i 17 bb (v:=18014398509481983) ⟨bb,bb⟩;refine cw h.rows {ov:=[(116,kN M.cs.length A.cc .i64 16 i ⟨bb,nn⟩ underlying23 al)]} 40 k ?_;refine cw f.rows {ov:=[(119,kN (M.cs.set 16 31).length A.cc .i64 17 i ⟨bb,by rw [List.length_set,h.fit.cs];decide⟩ underlying23 al)]} 40 l ?_;refine an (R:=[]) trivial {} 1 ?_;exact ah _ _ (UH d _ _ _ j)
theorem T0 (d:Code w0 a n zs):Dj w0 g a n cap w m 10:=by
 intro M A W h;refine aS (R:=[]) trivial {} 40 (bG d 2 bb W h.cur) ?_;rintro e V ⟨c,rfl,p⟩;refine ⟨_,0,rfl,?_⟩;replace h:=h.next p.out;cases c with
 | false =>refine an (R:=[]) trivial {} 3 ?_;exact ah _ _ (UT d _ _ _ h)
 | true =>
   refine aH (Dm w0 g a n cap w w.heap.size m M A) ?_;refine an (R:=[]) trivial {} 2 ?_;refine iH 2 ?_;replace h:=h.below (Below.refl V.heap.size V).drew;obtain ⟨b,_,f,_,_,i⟩:=h.atC;have j:∀ W,Dm w0 g a n cap w w.heap.size m M A W->W.cell? ⟨b,0+(4:Int).toNat,none⟩=some (.u (M.cs.getD 4 0)):=λW k=>by obtain ⟨s,_,e,_,_,i⟩:=k.atC;rw [f] at e;cases e;exact (i 4 bb).1
   refine ae Dm.eng {ov:=[(108,kN M.cs.length A.cc .i64 4 f ⟨bb,nn⟩ underlying23 al),(109,iR ⟨b,0+(4:Int).toNat,none⟩ (.u (M.cs.getD 4 0)) underlying22 rfl j),(111,kN M.cs.length A.cc .i64 4 f ⟨bb,nn⟩ underlying23 al)]} 40 h λr l=>?_;obtain ⟨q,o⟩:=l.putC b f 4 bb (v:=bits .or .u64 (M.cs.getD 4 0) 1) (af _ _ _);refine cw (R:=[]) trivial {} 10 q ?_;refine an (R:=[]) trivial {} 1 ?_;exact aH (λ_=>True) (ah _ _ (UT d _ _ _ o))
theorem d9 (c:Code w0 a n zs):Dj w0 g a n cap w m 9:=by intro M A W h;refine aH (Dm w0 g a n cap w w.heap.size m M A) ?_;refine an (R:=[]) trivial {} 1 ?_;refine iH 2 ?_;replace h:=h.below (Below.refl W.heap.size W).drew;obtain ⟨b,_,d,_⟩:=h.atC;refine aN Dm.eng {} 30 h (λW k=>aB c 64 bb W k.cur) ?_;rintro q e r f ⟨x,rfl,s,i⟩;refine ⟨_,0,rfl,λ_=>f.next i.out,?_⟩;refine ae Dm.eng {ov:=[(101,kN M.cs.length A.cc .i64 4 d ⟨bb,nn⟩ underlying23 al)]} 40 (f.next i.out) λp j=>?_;obtain ⟨o,l⟩:=j.putC b d 4 bb (v:=Uz.wrap (2147483648+Uz.wrap (4*Uz.wrap x))) (aP _);refine cw (R:=[]) trivial {} 10 o ?_;refine an (R:=[]) trivial {} 1 ?_;exact aH (λ_=>True) (ah _ _ (T0 c _ _ _ l))
theorem d8 (b:Code w0 a n zs):Dj w0 g a n cap w m 8:=by
 intro M A W h;refine aS (R:=[]) trivial {} 40 (bG b 3 bb W h.cur) ?_;rintro e V ⟨c,rfl,k⟩;refine ⟨_,0,rfl,?_⟩;replace h:=h.next k.out;cases c with
 | false =>refine an (R:=[]) trivial {} 3 ?_;exact ah _ _ (d9 b _ _ _ h)
 | true =>refine aS (R:=[]) trivial {} 40 (Ac b _ h.cur) ?_;rintro e p ⟨rfl,f⟩;obtain ⟨o,l,j,d,_⟩:=f.out;refine ⟨_,0,rfl,?_⟩;refine cw (h.next d).rows {} 40 (bE (i:=3) (T:=23) (v:=.slice (some ⟨V.heap.size,0,none⟩) 22 22) (h.next d).mp.row ni al rfl) ?_;refine an (R:=[]) trivial {} 1 ?_;exact ah _ _ (d9 b _ _ _ (h.csrs d o l j))
theorem SF {t:TypeId} {W:World} {D:DV} {a1 a2:Option Addr} {c1 c2:Nat} (h:W.heap[m]?=some (.cells (aq M A) t (0,0))):(do Instr.storeAt 30 (.p m 5) (.agg (fM D a1 c1 a2 c2));pure Next.skip:Sem Next).run prog W=.ok .skip (W.setRow m (aq (cP M D) (ke A a1 c1 a2 c2))):=by have:=tq (P:=prog) W m 5 t 30 (aq M A) (fM D a1 c1 a2 c2) h bI (by simp [aq,fM]) (fw _ _ _ _ _);rw [SC] at this;simp [Instr.storeAt,Instr.sureAddr,this,Result.andThen]
theorem d7 (b:Code w0 a n zs):Dj w0 g a n cap w m 7:=by intro M A W h;refine aS (R:=[]) trivial {} 40 (Nm b W h.cur) ?_;rintro e V ⟨D,a1,c1,a2,c2,rfl,f,d,c⟩;refine ⟨_,0,rfl,?_⟩;refine cw (h.next c.out).rows {} 40 (SF (D:=D) (a1:=a1) (c1:=c1) (a2:=a2) (c2:=c2) (h.next c.out).mp.row) ?_;refine an (R:=[]) trivial {} 1 ?_;exact ah _ _ (d8 b _ _ _ (h.dev c.out D a1 c1 a2 c2 f.out d.out))
theorem Nx (W:World) (x:Int):(do pure (.value (<- Instr.buildSlice 23 6 #[(0,.u 268435456),(1,.u 33554432),(2,.u 33603576),(3,.u 33570816),(4,.u 268435457),(5,.u x)])):Sem Next).run prog W=.ok (.value (.slice (some ⟨W.heap.size,0,none⟩) 6 6)) (W.alloc (.cells #[.u 268435456,.u 33554432,.u 33603576,.u 33570816,.u 268435457,.u x] 22)):=by obtain ⟨c,b,a,e2⟩:=Fb;have:=run_buildSlice (P:=prog) W 23 22 6 #[(0,.u 268435456),(1,.u 33554432),(2,.u 33603576),(3,.u 33570816),(4,.u 268435457),(5,.u x)] #[.u 268435456,.u 33554432,.u 33603576,.u 33570816,.u 268435457,.u x] c (.u 0) underlying23 b a (by rw [e2];decide) (by rw [e2];decide) (by rw [e2];kernel_rfl);simp [this]
theorem d6 (d:Code w0 a n zs):Dj w0 g a n cap w m 6:=by
 intro M A W h;refine aH (Dm w0 g a n cap w w.heap.size m M A) ?_;refine an (R:=[]) trivial {} 1 ?_;refine iH 2 ?_;replace h:=h.below (Below.refl W.heap.size W).drew;obtain ⟨b,_,p,_⟩:=h.atX;have H:∀ W,Dm w0 g a n cap w w.heap.size m M A W->W.cell? ⟨b,0+(5:Int).toNat,none⟩=some (.u (M.x.getD 5 0)):=λW k=>by obtain ⟨L,_,e,_,_,q⟩:=k.atX;rw [p] at e;cases e;exact (q 5 bb).1
 have K:=h.fit.ux 5;generalize M.x.getD 5 0=c at *;have D:∀ x ∈ [268435456,33554432,33603576,33570816,268435457,c],U x:=λx E=>by simp only [List.mem_cons,List.not_mem_nil,or_false] at E;rcases E with rfl | rfl | rfl | rfl | rfl | rfl<;>first | exact K | exact ⟨bb,bb⟩
 refine ae Dm.eng {ov:=[(78,kN M.x.length A.cx .i64 5 p ⟨bb,by rw [h.fit.x];decide⟩ underlying23 al),(79,iR ⟨b,0+(5:Int).toNat,none⟩ (.u c) underlying22 rfl H)]} 40 h λV h=>?_;have s:∀ V:World,Bw V (V.alloc (.cells #[.u 268435456,.u 33554432,.u 33603576,.u 33570816,.u 268435457,.u c] 22)):=λV=>bal _ _;have N:=h.cur.lt;refine rv (i:=6) (j:=8) ?_ ?_;·refine uS 0 (Nx V c) (h.below (s V)) ?_;have F:=heap_alloc_new V (.cells #[.u 268435456,.u 33554432,.u 33603576,.u 33570816,.u 268435457,.u c] 22);replace h:=h.below (s V);generalize V.alloc (.cells #[.u 268435456,.u 33554432,.u 33603576,.u 33570816,.u 268435457,.u c] 22)=l at *;refine lQ (aB d 6 bb l h.cur) ?_;rintro e o ⟨y,rfl,J,f⟩;refine ⟨_,0,rfl,λ_=>h.next f.out,?_⟩;have r:=f.out.keep F ab;replace h:=h.next f.out;generalize V.heap.size=z at *;clear F f;obtain ⟨u,C,q⟩:=rW [268435456,33554432,33603576,33570816,268435457,c] 22 r D (k:=0+y.toNat) bh;refine dU 0 ((kN (S:=λ_=>True) 6 6 .i64 y (a:=some ⟨z,0,none⟩) rfl ⟨ab,ab⟩ underlying23 al).h o trivial) ?_ (hS:=λ_=>h);refine dU 0 ((iR (S:=λW=>W=o) ⟨z,0+y.toNat,none⟩ (.u u) underlying22 rfl (λW e=>by rw [e];exact q)).h o rfl) ?_ (hS:=λ_=>h);refine ae Dm.eng {ov:=[(85,kN M.x.length A.cx .i64 5 p ⟨bb,by rw [h.fit.x];decide⟩ underlying23 al)]} 40 h λG t=>?_;obtain ⟨B,v⟩:=t.putX b p 5 bb C;refine cw (R:=[]) trivial {} 10 B ?_;refine an (R:=[]) trivial {} 1 ?_;exact aH (λ_=>True) (ah _ _ (d7 d _ _ _ v))
 ·refine qb (aB d 6 bb V h.cur) ?_;rintro e l ⟨y,rfl,J,f⟩;refine ⟨_,0,rfl,h.next f.out,?_⟩;have I:=f.out.2.size;replace h:=h.next f.out;refine dU 0 (Nx l c) ?_ (hS:=λ_=>h.below (s l));have r:=heap_alloc_new l (.cells #[.u 268435456,.u 33554432,.u 33603576,.u 33570816,.u 268435457,.u c] 22);replace h:=h.below (s l);generalize l.alloc (.cells #[.u 268435456,.u 33554432,.u 33603576,.u 33570816,.u 268435457,.u c] 22)=o at *;generalize l.heap.size=z at *;clear f;obtain ⟨u,C,q⟩:=rW [268435456,33554432,33603576,33570816,268435457,c] 22 r D (k:=0+y.toNat) bh;refine dU 0 ((kN (S:=λ_=>True) 6 6 .i64 y (a:=some ⟨z,0,none⟩) rfl ⟨ab,ab⟩ underlying23 al).h o trivial) ?_ (hS:=λ_=>h);refine dU 0 ((iR (S:=λW=>W=o) ⟨z,0+y.toNat,none⟩ (.u u) underlying22 rfl (λW e=>by rw [e];exact q)).h o rfl) ?_ (hS:=λ_=>h);refine ae Dm.eng {ov:=[(85,kN M.x.length A.cx .i64 5 p ⟨bb,by rw [h.fit.x];decide⟩ underlying23 al)]} 40 h λG t=>?_;obtain ⟨B,v⟩:=t.putX b p 5 bb C;refine cw (R:=[]) trivial {} 10 B ?_;refine an (R:=[]) trivial {} 1 ?_;exact aH (λ_=>True) (ah _ _ (d7 d _ _ _ v))
theorem d5 (f:Code w0 a n zs):Dj w0 g a n cap w m 5:=by
 intro M A W h;refine an (R:=[]) trivial {} 20 ?_;refine pQ (λx:MV × MA × Nat=>[(0,.p g 0,0),(2,.p w.heap.size 0,0),(8,.p m 0,1),(10,.i (x.2.2:Nat),0)]) (λj x W=>x.2.2+j=32/\Dm w0 g a n cap w w.heap.size m x.1 x.2.1 W) 31 (M,A,1) al al ⟨rfl,h⟩ ?_;clear h;rintro j ⟨M,A,i⟩ W ⟨F,h⟩ R u;dsimp only at F h;cases j with
 | zero =>have d:decide ((i:Int)<32)=false:=ck;refine an (R:=[]) trivial {eq:=[(48,aj d)]} 8 ?_;exact ah _ _ (d6 f _ _ _ h)
 | succ j =>
   have d:decide ((i:Int)<32)=true:=ek;have U:i<32:=ab;have B:IntKind.i64.wrap ((i:Nat)+1:Int)=((i+1:Nat):Int):=sy;obtain ⟨b,_,q,_⟩:=h.atX;obtain ⟨t,d8⟩:∃ t,decide ((i:Int)<8)=t:=⟨_,rfl⟩;cases t;case' true =>refine aH (Dm w0 g a n cap w w.heap.size m M A) ?_;refine an (R:=[]) trivial {eq:=[(48,aj d),(52,aj d8)]} 60 ?_
   case' false =>
    refine aS (R:=[]) trivial {eq:=[(48,aj d),(52,aj d8)]} 60 (bG f 4 bb _ h.cur) ?_;rintro e V ⟨c,rfl,l⟩;refine ⟨_,0,rfl,?_⟩;replace h:=h.next l.out;clear l;cases c;case false=>exact rj (R:=[]) trivial {eq:=[(50,dI .i64 B)]} 60 λb p=>u b V j (_,_,i+1) ab (p.less al) ⟨cb,h⟩
    case' true =>refine aH (Dm w0 g a n cap w w.heap.size m M A) ?_;refine an (R:=[]) trivial {} 60 ?_
   all_goals
    refine iH 2 ?_
    refine aN Dm.eng {} 30 (h.below (Below.refl _ _).drew) (λW k=>kK f W k.cur) ?_
    rintro P e Q r ⟨y,rfl,J,l⟩
    refine ⟨_,0,rfl,λ_=>r.next l.out,?_⟩
    refine ae Dm.eng {ov:=[(62,kN M.x.length A.cx .i64 (i:Nat) q ⟨ab,by rw [r.fit.x];omega⟩ underlying23 al)]} 40 (r.next l.out) λD G=>?_
    obtain ⟨C,o⟩:=G.putX b q (0+((i:Nat):Int).toNat) ab (v:=y) J
    refine cw (R:=[]) trivial {} 10 C ?_
    clear C
    generalize D.setCell _ _=L at o ⊢
    refine aS (R:=[]) trivial {} 40 (bG f 2 bb _ o.cur) ?_
    rintro e E ⟨c,rfl,l⟩
    refine ⟨_,0,rfl,?_⟩
    replace o:=o.next l.out
    cases c with
    | false=>exact rj (R:=[]) trivial {eq:=[(50,dI .i64 B)]} 60 λb p=>u b E j (_,_,i+1) ab (p.less al) ⟨cb,o⟩
    | true =>
      generalize xM M _=N at o ⊢
      refine aH (Dm w0 g a n cap w w.heap.size m N A) ?_
      refine an (R:=[]) trivial {} 40 ?_
      refine iH 2 ?_
      refine aN Dm.eng {} 30 (o.below (Below.refl _ _).drew) (λW k=>aB f 1024 bb W k.cur) ?_
      rintro S e T s ⟨z,rfl,X,l⟩
      refine ⟨_,0,rfl,λ_=>s.next l.out,?_⟩
      refine ae Dm.eng {ov:=[(73,kN N.x.length A.cx .i64 (i:Nat) q ⟨ab,by rw [s.fit.x];omega⟩ underlying23 al)]} 40 (s.next l.out) λO H=>?_
      obtain ⟨K,I⟩:=H.putX b q (0+((i:Nat):Int).toNat) ab (v:=Uz.wrap (2147483648+Uz.wrap (8*Uz.wrap z))) (aP _)
      refine cw (R:=[]) trivial {} 10 K ?_
      exact rj (R:=[]) trivial {eq:=[(50,dI .i64 B)]} 60 λb p=>u b _ j (_,_,i+1) ab (p.less al) ⟨cb,I⟩
theorem d4 (o:Code w0 a n zs) {b N:Nat} (x:N=4096\/N=8192) (r:w0.heap.size<=w.heap.size) (h:Rm w0 g a n cap w b N W) (hr:W.heap[w.heap.size]?=some (.cells (aq zeroM zeroA) 32 (0,0))):Wg prog (λ_=>True) (bodyPost prog Tryz.f100 λe s=>∃ (M:MV) (A:MA),e=.returned (.agg (aq M A))/\Hid (Mf M)/\Hid (bx w.heap.size s.heap.size s (aI M A))/\Hid (Cs w0 g a n cap w s)) Tryz.f100.ntmps [.code (az 4 (aW Tryz.f100))] [(0,.p g 0,0),(2,.p w.heap.size 0,0),(3,.slice (some ⟨b,0,none⟩) N N,0)] W:=by
 obtain ⟨c,B,k,f,p,-⟩:=h;have j:c.length=N:=by have:=k.1;simpa using this
 have l:=pG (some ⟨b,0,none⟩) N N c W j ab (gv k);have i:Mf (Aa c):=Nw c B (by rw [j];exact x);refine aS (R:=[]) trivial {} 40 l ?_;rintro e V ⟨C,rfl,d,m⟩;refine ⟨_,0,rfl,?_⟩;generalize Aa c=M at *;have t:=f.trans (Cs.of_below f.1 m);have v:=bA m hr;have E:=(Array.getElem?_eq_some_iff.1 hr).1;have D:=m.size;have u:Dm w0 g a n cap w w.heap.size V.heap.size M C (V.alloc (.cells (aq M C) 32)):=
  ⟨t.trans (Cs.alloc t.1 _),(Below.heap_alloc _ _ _ ab).trans v,⟨heap_alloc_new _ _,(d.below (bal _ _)).low ab cp,λq y e=>by have:=d.hi q y _ e;omega,ab⟩,i,p,Nat.le_refl _,r⟩
 refine nQ (R:=[]) trivial {} 10 1 (dW (T:=32) (z:=.agg (aq zeroM zeroA)) al V) ?_;refine cw (R:=[]) trivial {} 10 (aG (ty:=32) (cells:=aq M C) (heap_alloc_new V _) al al (qQ M C)) ?_;rw [World.setRow_alloc_new];refine an (R:=[]) trivial {} 2 ?_;exact ah _ _ (d5 o _ _ _ u)
theorem PY (W:World) (N:Nat) (j:N=4096\/N=8192):∃ W',(do pure (.value (<- Instr.makeSlice 24 (.i N) (.i N))):Sem Next).run prog W=.ok (.value (.slice (some ⟨W.heap.size,0,none⟩) N N)) W'/\W'.ownsRow W.heap.size 5 1 (.slice (some ⟨W.heap.size,0,none⟩) N N) N ((List.replicate N (0:Int)).map (Value.int .u8))/\W.grownBy W' none:=by obtain ⟨i,f,b,c,d⟩:=info_parts info5;obtain ⟨W',h,g,e⟩:=run_make_full (P:=prog) W W.heap.size 24 5 i (.int .u8 0) 1 underlying24 f b c .i64 .i64 N (by rw [d];omega) et (Nat.le_refl _);have a:(Instr.makeSlice 24 (.i N) (.i N)).run prog W=.ok (.slice (some ⟨W.heap.size,0,none⟩) N N) W':=h;refine ⟨W',by simp [a],?_,e⟩;rw [List.map_replicate,<- toList_madeCells_one];simpa [Value.cells] using g
theorem Ny (f:Code w0 a n zs) (w:World) (E:lL w0 w g a n cap):Calls prog 100 #[.p g 0] w λe J=>∃ (M:MV) (A:MA),e=.returned (.agg (aq M A))/\Hid (Mf M)/\Hid (bx w.heap.size J.heap.size J (aI M A))/\Hid (Cs w0 g a n cap w J):=by
 refine bz (S:=λ_=>True) (args:=[.p g 0]) [(aq zeroM zeroA,32)] func100 ?_;have F:=E.lt;have G:=E.below.size;have s:Cs w0 g a n cap w (bM w [(aq zeroM zeroA,32)]):=Cs.alloc E _;have L:=(Bs.start w [(aq zeroM zeroA,32)]).1 0 _ rfl;have Y:(bM w [(aq zeroM zeroA,32)]).heap.size=w.heap.size+1:=by simp [bM]
 generalize bM w [(aq zeroM zeroA,32)]=Z at *;refine aS (R:=[]) trivial {} 40 (aB f 2 bb Z s.1) ?_;rintro e r ⟨K,rfl,I,l⟩;refine ⟨_,0,rfl,?_⟩;obtain ⟨N,hN,o⟩:∃ N:Nat,IntKind.i64.wrap (4096*IntKind.i64.wrap (1+K))=(N:Int)/\(N=4096\/N=8192):=by
  obtain rfl|rfl:K=0\/K=1:=ab;·exact ⟨4096,bv,.inl rfl⟩
  ·exact ⟨8192,bv,.inr rfl⟩
 obtain ⟨O,U,T,i⟩:=PY r N o;have u:=s.trans l.out;have z1:=l.out.2.size;have v:Rm w0 g a n cap w r.heap.size N O:=⟨_,λy p=>by rw [List.eq_of_mem_replicate p];exact TW ab ab,cN T ab,u.trans ⟨u.1.grown i,i.os,i.tape,i.output,i.size,λk hk _=>i.block k hk cp⟩,F,ab⟩;have R1:=l.out.keep L ab;have R2:=(i.block _ (Array.getElem?_eq_some_iff.1 R1).1 cp).trans R1;have hbr:w.heap.size<r.heap.size:=ab
 refine an (R:=[]) trivial {eq:=[(14,dI .i64 hN)]} 2 ?_;refine dU 0 U ?_;generalize r.heap.size=b at *;clear U T i R1 u L Y s z1;refine an (R:=[]) trivial {} 6 ?_;refine ah [.code (az 3 (aW Tryz.f100))] [(0,.p g 0,0),(2,.p w.heap.size 0,0),(3,.slice (some ⟨b,0,none⟩) N N,0),(4,.u 2147483648,0)] ?_;refine aS (R:=[]) trivial {} 40 (aB f 30 bb O v.cur) ?_;rintro e W3 ⟨x,rfl,⟨H,I⟩,m⟩;refine ⟨_,0,rfl,?_⟩;obtain ⟨x,rfl⟩:=Int.eq_ofNat_of_zero_le H;refine an (R:=[]) trivial {} 20 ?_;refine pQ (λx:Nat × Nat=>[(0,.p g 0,0),(2,.p w.heap.size 0,0),(3,.slice (some ⟨b,0,none⟩) N N,0),(4,.u (2147483648+((4*x.1:Nat):Int)),0),(5,.i (x.2:Nat),0)]) (λk x W=>x.2=k/\x.1+k<=30/\Rm w0 g a n cap w b N W/\W.heap[w.heap.size]?=some (.cells (aq zeroM zeroA) 32 (0,0))) x (0,x) al al ⟨rfl,cb,v.next m.out,m.out.keep R2 ab⟩ ?_;clear v R2 m;rintro k ⟨j,k'⟩ W ⟨Q,hj,D,R⟩ Rr hR;dsimp only at Q hj;subst Q;cases k' with
 | zero =>have d:decide (0<((0:Nat):Int))=false:=bb;refine an (R:=[]) trivial {eq:=[(19,aj d)]} 8 ?_;exact ah _ _ (d4 f o G D R)
 | succ k =>
   have d:decide (0<((k+1:Nat):Int))=true:=ek;have B:Uz.wrap (2147483648+((4*j:Nat):Int)+4)=2147483648+((4*(j+1):Nat):Int):=di;have z:IntKind.i64.wrap (((k+1:Nat):Int)-1)=((k:Nat):Int):=sy;refine aS (R:=[]) trivial {eq:=[(19,aj d)]} 60 (Nu f _ D.cur) ?_;rintro e V ⟨ii,rfl,hii,h⟩;refine ⟨_,0,rfl,?_⟩;replace R:=h.out.keep R ab;replace D:=D.next h.out;refine aS (R:=[]) trivial {} 60 (Ae ii V) ?_;rintro e V ⟨y,t,rfl,p,C⟩;refine ⟨_,0,rfl,?_⟩;replace R:=bA C R;replace D:=D.next (Cs.of_below D.cur C);clear h C;cases t;case' false =>refine aS (R:=[]) trivial {} 60 (kK f _ D.cur) ?_;rintro e V ⟨y,rfl,p,h⟩;refine ⟨_,0,rfl,?_⟩;replace R:=h.out.keep R ab;replace D:=D.next h.out
   case' true =>refine aS (R:=[]) trivial {} 60 (bG f 30 bb _ D.cur) ?_;rintro e V ⟨c,rfl,h⟩;refine ⟨_,0,rfl,?_⟩;replace R:=h.out.keep R ab;replace D:=D.next h.out;clear h;cases c;case' true =>refine aS (R:=[]) trivial {} 60 (kK f _ D.cur) ?_;rintro e V ⟨y,rfl,p,h⟩;refine ⟨_,0,rfl,?_⟩;replace R:=h.out.keep R ab;replace D:=D.next h.out
   all_goals
    refine aS (R:=[]) trivial {} 60 (Nv D ab (4*j) 4 y ab ab p) ?_
    rintro e P ⟨rfl,X,gP⟩
    refine ⟨_,0,rfl,?_⟩
    exact rj (R:=[]) trivial {eq:=[(41,dI .u64 B),(21,dI .i64 z)]} 60 λq hq=>hR q P k (j+1,k) ab (hq.less al) ⟨rfl,cb,X,(gP.block _ (Array.getElem?_eq_some_iff.1 R).1 bh).trans R⟩
end
structure Ma (M:MV):Prop where
 len:j7 M
 ux:∀ j,U (M.x.getD j 0)
 ucs:∀ j,U (M.cs.getD j 0)
 bram:∀ y ∈ M.ram,(Lit.int .u8 y).wf=true
 d:Qr M.d
 pc:U M.pc
 hd:U M.hd
 pos:0<M.x.length/\0<M.ram.length
theorem Mf.pos {M:MV} (h:Mf M):1<M.x.length/\1<M.ram.length:=by have:=h.x;have:=h.ram;omega
theorem Mf.any {M:MV} (h:Mf M):Ma M:=⟨h.len,h.ux,h.ucs,h.bram,h.d.any,h.pc,h.hd,by have:=h.pos;omega⟩
theorem GX {k:IntKind} {w:World} {b:Nat} {zs:List Int} (h:Sl k w (some ⟨b,0,none⟩) zs):Sl k w (some ⟨b,1,none⟩) zs.tail:=by intro i d;rw [List.length_tail] at d;obtain ⟨f,g,e,a,c⟩:=h (i+1) ab;cases e;refine ⟨b,1,rfl,a,?_⟩;rw [show zs.tail.getD i 0=zs.getD (i+1) 0 from by cases zs<;>simp];rw [show 1+i=0+(i+1) from ab];exact c
def JE (M:MV):MV:=⟨M.pc,M.x.tail,M.pr,M.cs,M.ram,M.d,M.hd,M.hl,M.wt⟩
def JF (M:MV):MV:=⟨M.pc,M.x,M.pr,M.cs,M.ram.tail,M.d,M.hd,M.hl,M.wt⟩
def wh (M:MV):MV:=⟨M.pc,M.x,2,M.cs,M.ram,M.d,M.hd,M.hl,M.wt⟩
def UU (A:MA) (b:Nat):MA:=⟨some ⟨b,1,none⟩,A.cx-1,A.ac,A.cc,A.ar,A.cr,A.ai,A.ci,A.ao,A.co⟩
def UV (A:MA) (b:Nat):MA:=⟨A.ax,A.cx,A.ac,A.cc,some ⟨b,1,none⟩,A.cr-1,A.ai,A.ci,A.ao,A.co⟩
def wi (B:Nat) (A:MA):Prop:=∀ p,(p=A.ax\/p=A.ac\/p=A.ar\/p=A.ai\/p=A.ao)->∀ b a,p=some ⟨b,a,none⟩->B<=b
theorem oE {B:Nat} {w:World} {t:TypeId} {p:Option Addr} {n c:Nat} {xs:List Value} (h:w.ownsRow B t 1 (.slice p n c) n xs) {b d:Nat} (i:p=some ⟨b,d,none⟩):B<=b:=by
 subst i;rcases h.2 with ⟨a,j⟩|⟨g,cap,e,a,f,_⟩;·cases a
 ·cases a;exact f
theorem qR {B E:Nat} {w:World} {M:MV} {A:MA} (h:bx B E w (aI M A)):wi B A:=by
 intro p a b c e;rcases a with rfl|rfl|rfl|rfl|rfl;·exact oE (h.own (aJ A.ax M.x.length A.cx M.x) dm) e
 ·exact oE (h.own (aJ A.ac M.cs.length A.cc M.cs) dm) e
 ·exact oE (h.own (aF A.ar M.ram.length A.cr M.ram) dm) e
 ·exact oE (h.own (aF A.ai M.d.xs.length A.ci M.d.xs) dm) e
 ·exact oE (h.own (aF A.ao M.d.ys.length A.co M.d.ys) dm) e
theorem P1 {B:Nat} {A:MA} {b:Nat} (h:wi B A) (e:A.ax=some ⟨b,0,none⟩):wi B (UU A b):=by
 intro p g d c a;rcases g with rfl|rfl|rfl|rfl|rfl
 ·have e2:b=d:=by have f:some (⟨b,1,none⟩:Addr)=some ⟨d,c,none⟩:=a;injection f with h4;injection h4
  rw [<- e2];exact h A.ax (Or.inl rfl) b 0 e
 ·exact h A.ac (Or.inr (Or.inl rfl)) d c a
 ·exact h A.ar (Or.inr (Or.inr (Or.inl rfl))) d c a
 ·exact h A.ai (Or.inr (Or.inr (Or.inr (Or.inl rfl)))) d c a
 ·exact h A.ao (Or.inr (Or.inr (Or.inr (Or.inr rfl)))) d c a
theorem P3 {B:Nat} {A:MA} {b:Nat} (h:wi B A) (e:A.ar=some ⟨b,0,none⟩):wi B (UV A b):=by
 intro p g d c a;rcases g with rfl|rfl|rfl|rfl|rfl;·exact h A.ax (Or.inl rfl) d c a
 ·exact h A.ac (Or.inr (Or.inl rfl)) d c a
 ·have e2:b=d:=by have f:some (⟨b,1,none⟩:Addr)=some ⟨d,c,none⟩:=a;injection f with h4;injection h4
  rw [<- e2];exact h A.ar (Or.inr (Or.inr (Or.inl rfl))) b 0 e
 ·exact h A.ai (Or.inr (Or.inr (Or.inr (Or.inl rfl)))) d c a
 ·exact h A.ao (Or.inr (Or.inr (Or.inr (Or.inr rfl)))) d c a
theorem JG (l:List Int) (j:Nat):l.tail.getD j 0=l.getD (j+1) 0:=by cases l<;>simp
theorem GY {M:MV} (h:Mf M):Ma (JE M)/\ey (JE M)=false:=by
 refine ⟨⟨⟨by show M.x.tail.length<=_;rw [List.length_tail,h.x];omega,h.len.cs,h.len.ram,h.len.xs,h.len.ys⟩,λj=>by show U (M.x.tail.getD j 0);rw [JG];exact h.ux _,h.ucs,h.bram,h.d.any,h.pc,h.hd,by have:=h.pos;show 0<M.x.tail.length/\_;rw [List.length_tail];exact ⟨ab,by show 0<M.ram.length;omega⟩⟩,?_⟩;have:gg (JE M).x.length (JE M).x=false:=by unfold gg;have e:(JE M).x.length=31:=(by show M.x.tail.length=31;rw [List.length_tail,h.x]);simp [e]
 unfold ey;rw [this];simp
theorem CG {M:MV} (h:Mf M):Ma (wh M)/\ey (wh M)=false:=by
 refine ⟨⟨⟨h.len.x,h.len.cs,h.len.ram,h.len.xs,h.len.ys⟩,h.ux,h.ucs,h.bram,h.d.any,h.pc,h.hd,h.any.pos⟩,?_⟩;have:aX (wh M).cs.length (wh M).cs (wh M).pr=false:=by unfold aX;rw [show bC (wh M).pr=false from rfl,Bool.and_false]
 unfold ey;rw [this];simp
theorem GZ {M:MV} (h:Mf M):Ma (JF M)/\ey (JF M)=false:=by
 refine ⟨⟨⟨h.len.x,h.len.cs,by show M.ram.tail.length<=_;rw [List.length_tail];have:=h.len.ram;omega,h.len.xs,h.len.ys⟩,h.ux,h.ucs,λy a=>h.bram y (List.mem_of_mem_tail a),h.d.any,h.pc,h.hd,by have:=h.pos;show _/\0<M.ram.tail.length;rw [List.length_tail];exact ⟨by show 0<M.x.length;omega,by omega⟩⟩,?_⟩;have:aU (JF M).ram.length=false:=by have e:(JF M).ram.length=4095\/(JF M).ram.length=8191:=(by show M.ram.tail.length=_\/M.ram.tail.length=_;rw [List.length_tail];rcases h.ram with e | e<;>rw [e]<;>simp);rcases e with e | e<;>rw [e]<;>decide
 unfold ey;rw [this];simp
set_option maxRecDepth 100000
section
variable {w0 w W W' : World} {g n cap r m : Nat} {a : Option Addr} {zs : List Int} {M N : MV} {A C : MA}
theorem qS {k:IntKind} {p:Option Addr} {zs:List Int} (h:Sl k W p zs) {b:Nat} (cs:Array Value) (hn:∀ c d,p=some ⟨c,d,none⟩->b<c):Sl k (W.setRow b cs) p zs:=λj g=>by obtain ⟨c,o,e,a,f⟩:=h j g;refine ⟨c,o,e,by rw [setRow_size];exact a,?_⟩;simp only [World.cell?] at f ⊢;rw [setRow_other _ _ _ _ (by have:=hn c o e;omega)];exact f
theorem tU (hr:W.heap[m]?=some (.cells (aq N C) 32 (0,0))) (hz:W.heap[w.heap.size]?=some (.cells (aq zeroM zeroA) 32 (0,0))) (o:Ma N) (f:sa W N C) (fm:ey N=true->bx (w.heap.size+1) W.heap.size W (aI N C)) (v:wi (w.heap.size+1) C) (r:Cs w0 g a n cap w W) (s:g<w.heap.size) (l:w0.heap.size<=w.heap.size):Wg prog (λ_=>True) (bodyPost prog Tryz.f54 λe h=>∃ (M:MV) (A:MA),e=.returned (.agg (aq M A))/\Hid (Ma M)/\Hid (sa h M A)/\Hid (ey M=true->bx w.heap.size h.heap.size h (aI M A))/\Hid (wi w.heap.size A)/\Hid (Cs w0 g a n cap w h)) Tryz.f54.ntmps [.code (az 3 (aW Tryz.f54))] [(0,.p g 0,0),(2,.p w.heap.size 0,0),(3,.p m 0,1)] W:=by
 refine cw (R:=[⟨m,aq N C,[]⟩]) ⟨⟨_,_,hr⟩,trivial⟩ {} 40 (aG (g:=w.heap.size) (t:=32) (ty:=32) (cells:=aq N C) hz al rfl (qQ N C)) ?_;have q:∀ p,(p=C.ax\/p=C.ac\/p=C.ar\/p=C.ai\/p=C.ao)->∀ c d,p=some ⟨c,d,none⟩->w.heap.size<c:=λp i c d e=>by have:=v p i c d e;omega
 exact fP (R:=[]) trivial {} 40 λb u=>⟨_,results_cell_row rfl b.tmps _ w.heap.size 32 (aq N C) (0,0) _ (u.slot al) (setRow_heap _ _ _ _ _ _ hz) underlying32 rfl al,N,C,rfl,o,⟨qS f.x _ (q _ (.inl rfl)),qS f.cs _ (q _ (.inr (.inl rfl))),qS f.ram _ (q _ (.inr (.inr (.inl rfl)))),qS f.xs _ (q _ (.inr (.inr (.inr (.inl rfl))))),qS f.ys _ (q _ (.inr (.inr (.inr (.inr rfl)))))⟩,λk=>((fm k).mono λj x _ _=>setRow_other _ _ _ _ ab).low ab la,λp i c d e=>by have:=q p i c d e;omega,r.behind (bm (Below.refl _ _) (Nat.le_refl _) _) s l⟩
theorem wj (h:Dm w0 g a n cap w w.heap.size m M A W):Wg prog (λ_=>True) (bodyPost prog Tryz.f54 λe b=>∃ (M:MV) (A:MA),e=.returned (.agg (aq M A))/\Hid (Ma M)/\Hid (sa b M A)/\Hid (ey M=true->bx w.heap.size b.heap.size b (aI M A))/\Hid (wi w.heap.size A)/\Hid (Cs w0 g a n cap w b)) Tryz.f54.ntmps [.code (az 3 (aW Tryz.f54))] [(0,.p g 0,0),(2,.p w.heap.size 0,0),(3,.p m 0,1)] W :=
 tU h.mp.row h.res h.fit.any h.mp.fam.msl (λ_=>h.mp.fam) (qR h.mp.fam) h.cu h.gr h.w0w
def UW {S:World->Prop} {T E:TypeId} (a:Option Addr) (xs:List Int) (c:Nat) {b:Nat} (i:a=some ⟨b,0,none⟩) (hx:1<xs.length) (k:xs.length<=c) (h:prog.underlying T=some (.slice E)) (hz:(prog.info? E).map (·.size)=some 1):Ov prog S :=
 ⟨do pure (.value (<- Instr.sliceAt T (.slice a xs.length c) (some (.i 1)) none none)),.slice (some ⟨b,1,none⟩) xs.tail.length (c-1),0,λW _=>by
  subst i
  obtain ⟨l,j,e⟩:=Option.map_eq_some_iff.1 hz
  have f:prog.elem T=E:=by simp [Program.elem,h]
  have g:prog.underlying T=some (.slice (prog.elem T)):=by rw [f];exact h
  have d:¬ c=1:=ab
  have r:=run_slice_l (P:=prog) (w:=W) T (some ⟨b,0,none⟩) xs.length c g .i64 1 ab ab
  rw [<- run_sliceAt_slice (P:=prog) (w:=W) T _ _ _ _ g,f] at r
  simp [r,sizeOf,typeInfo,j,e,sliced,d,Addr.add,Result.andThen]⟩
theorem Nz (h:Dm w0 g a n cap w w.heap.size m M A W) (i:Nat) (v:Value):bx (w.heap.size+1) W.heap.size (W.setCell ⟨m,i,none⟩ v) (aI M A)/\Cs w0 g a n cap w (W.setCell ⟨m,i,none⟩ v)/\(W.setCell ⟨m,i,none⟩ v).heap[w.heap.size]?=some (.cells (aq zeroM zeroA) 32 (0,0)):=by have c:=h.mp.lo;have b:Below w.heap.size W (W.setCell ⟨m,i,none⟩ v):=(Below.refl _ _).setCell (by show w.heap.size<=m;omega) v;exact ⟨by have:=Mp.fam_set h.mp.fam h.mp.ne i v;rwa [aO] at this,h.cu.behind b h.gr h.w0w,(Below.heap_setCell _ _ _ _ (by show w.heap.size≠m;omega)).trans h.res⟩
theorem CH (j:Code w0 a n zs) (w:World) (E:lL w0 w g a n cap):Calls prog 54 #[.p g 0] w λe H=>∃ (M:MV) (A:MA),e=.returned (.agg (aq M A))/\Hid (Ma M)/\Hid (sa H M A)/\Hid (ey M=true->bx w.heap.size H.heap.size H (aI M A))/\Hid (wi w.heap.size A)/\Hid (Cs w0 g a n cap w H):=by
 refine bz (S:=λ_=>True) (args:=[.p g 0]) [(aq zeroM zeroA,32)] func54 ?_;have O:=E.lt;have P:=E.below.size;have I:Cs w0 g a n cap w (bM w [(aq zeroM zeroA,32)]):=Cs.alloc E _;have U:=(Bs.start w [(aq zeroM zeroA,32)]).1 0 _ rfl;have Y:(bM w [(aq zeroM zeroA,32)]).heap.size=w.heap.size+1:=by simp [bM]
 generalize bM w [(aq zeroM zeroA,32)]=Z at *;refine aS (R:=[]) trivial {} 40 (Ny j Z I.1) ?_;rintro e V ⟨M,A,rfl,s,o,d⟩;refine ⟨_,0,rfl,?_⟩;have z1:=d.out.2.size;have R1:=d.out.keep U ab;have J:=I.trans d.out;have h:Dm w0 g a n cap w w.heap.size V.heap.size M A (V.alloc (.cells (aq M A) 32)):=
  ⟨J.trans (Cs.alloc J.1 _),(Below.heap_alloc _ _ _ ab).trans R1,⟨heap_alloc_new _ _,(o.out.below (bal _ _)).low ab cp,λq hq e=>by have:=o.out.hi q hq _ e;omega,ab⟩,s.out,O,Nat.le_refl _,P⟩
 refine nQ (R:=[]) trivial {} 10 1 (dW (T:=32) (z:=.agg (aq zeroM zeroA)) al V) ?_;refine cw (R:=[]) trivial {} 10 (aG (ty:=32) (cells:=aq M A) (heap_alloc_new V _) al al (qQ M A)) ?_;rw [World.setRow_alloc_new];refine an (R:=[]) trivial {} 1 ?_;generalize V.alloc (.cells (aq M A) 32)=V1 at *;generalize V.heap.size=m at *;refine ah [.code (az 2 (aW Tryz.f54))] [(0,.p g 0,0),(2,.p w.heap.size 0,0),(3,.p m 0,1)] ?_;clear s o d R1 J I U Y;refine aS (R:=[]) trivial {} 40 (bG j 20 bb _ h.cur) ?_;rintro e V2 ⟨c,rfl,d⟩;refine ⟨_,0,rfl,?_⟩;replace h:=h.next d.out;cases c with
 | false =>refine an (R:=[]) trivial {} 3 ?_;exact ah _ _ (wj h)
 | true =>
 refine aS (R:=[]) trivial {} 40 (aB j 7 bb _ h.cur) ?_;rintro e u ⟨x,rfl,hx,d⟩;refine ⟨_,0,rfl,?_⟩;replace h:=h.next d.out;obtain rfl|rfl|rfl|rfl|rfl|rfl|rfl:x=0\/x=1\/x=2\/x=3\/x=4\/x=5\/x=6:=ab
 ·refine aH (Dm w0 g a n cap w w.heap.size m M A) ?_;refine an (R:=[]) trivial {} 60 ?_;refine iH 2 ?_;replace h:=h.below (Below.refl u.heap.size u).drew;refine aN Dm.eng {} 30 h (λW k=>aB j 4 bb W k.cur) ?_;rintro W1 e W2 D ⟨y,rfl,X,d⟩;refine ⟨_,0,rfl,λ_=>D.next d.out,?_⟩;refine ae Dm.eng {} 40 (D.next d.out) λK B=>?_;refine cw (R:=[]) trivial {} 10 (bE (i:=0) (T:=22) (v:=.u (Uz.wrap (M.pc+Uz.wrap y))) B.mp.row ni al rfl) ?_;refine an (R:=[]) trivial {} 2 ?_;exact aH (λ_=>True) (ah _ _ (wj (B.setPc _ (aP _))))
 ·refine aH (Dm w0 g a n cap w w.heap.size m M A) ?_;refine an (R:=[]) trivial {} 60 ?_;refine iH 2 ?_;replace h:=h.below (Below.refl u.heap.size u).drew;obtain ⟨b,_,f,_⟩:=h.atX;refine aN Dm.eng {} 30 h (λW k=>aB j 2 bb W k.cur) ?_;rintro W1 e W2 D ⟨y,rfl,X,d⟩;refine ⟨_,0,rfl,λ_=>D.next d.out,?_⟩;refine ae Dm.eng {ov:=[(26,kN M.x.length A.cx .i64 0 f ⟨bb,by rw [h.fit.x];decide⟩ underlying23 al)]} 40 (D.next d.out) λK B=>?_;obtain ⟨Q,L⟩:=B.putX b f 0 bb (v:=Uz.wrap y) (aP _);refine cw (R:=[]) trivial {} 10 Q ?_;refine an (R:=[]) trivial {} 2 ?_;exact aH (λ_=>True) (ah _ _ (wj L))
 ·obtain ⟨b,f,l⟩:∃ b,A.ax=some ⟨b,0,none⟩/\M.x.length<=A.cx:=by
   rcases (h.mp.xrow).2 with ⟨_,e⟩|⟨b,_,_,e,_,_,t,_⟩;·have:=h.fit.pos;omega
   ·simp only [Value.slice.injEq,true_and] at e;exact ⟨b,e.1,by rw [e.2];exact t⟩
  obtain ⟨r,k,F⟩:=Nz h 1 (.slice (some ⟨b,1,none⟩) M.x.tail.length (A.cx-1));refine cw h.rows {ov:=[(31,UW A.ax M.x A.cx f (by have:=h.fit.pos;omega) l underlying23 al)]} 60 (bE (i:=1) (T:=23) (v:=.slice (some ⟨b,1,none⟩) M.x.tail.length (A.cx-1)) h.mp.row ni al rfl) ?_;refine an (R:=[]) trivial {} 2 ?_;have p:=r.msl;have G:=p.x;rw [f] at G;exact ah _ _ (tU (N:=JE M) (C:=UU A b) (rZ h.mp.row 1 _) F (GY h.fit).1 ⟨GX G,p.cs,p.ram,p.xs,p.ys⟩ (λk=>by rw [(GY h.fit).2] at k;cases k) (P1 (qR h.mp.fam) f) k h.gr h.w0w)
 ·refine aH (Dm w0 g a n cap w w.heap.size m M A) ?_;refine an (R:=[]) trivial {} 60 ?_;refine iH 2 ?_;replace h:=h.below (Below.refl u.heap.size u).drew;obtain ⟨b,_,f,_⟩:=h.atC;have c9:∀ W,Dm w0 g a n cap w w.heap.size m M A W->W.cell? ⟨b,0+(9:Int).toNat,none⟩=some (.u (M.cs.getD 9 0)):=λW k=>by obtain ⟨b',_,e,_,_,E⟩:=k.atC;rw [f] at e;cases e;exact (E 9 bb).1
  refine ae Dm.eng {ov:=[(39,kN M.cs.length A.cc .i64 9 f ⟨bb,nn⟩ underlying23 al),(40,iR ⟨b,0+(9:Int).toNat,none⟩ (.u (M.cs.getD 9 0)) underlying22 rfl c9),(42,kN M.cs.length A.cc .i64 9 f ⟨bb,nn⟩ underlying23 al)]} 40 h λK B=>?_;obtain ⟨Q,L⟩:=B.putC b f 9 bb (v:=bits .xor .u64 (M.cs.getD 9 0) 128) (af _ _ _);refine cw (R:=[]) trivial {} 10 Q ?_;refine an (R:=[]) trivial {} 2 ?_;exact aH (λ_=>True) (ah _ _ (wj L))
 ·obtain ⟨r,k,F⟩:=Nz h 2 (.i 2);refine cw h.rows {} 60 (bE (i:=2) (T:=2) (v:=.i 2) h.mp.row ni al rfl) ?_;refine an (R:=[]) trivial {} 2 ?_;exact ah _ _ (tU (N:=wh M) (C:=A) (rZ h.mp.row 2 _) F (CG h.fit).1 ⟨r.msl.x,r.msl.cs,r.msl.ram,r.msl.xs,r.msl.ys⟩ (λk=>by rw [(CG h.fit).2] at k;cases k) (qR h.mp.fam) k h.gr h.w0w)
 ·refine aS (R:=[]) trivial {} 60 (aB j 2 bb _ h.cur) ?_;rintro e K ⟨y,rfl,X,d⟩;refine ⟨_,0,rfl,?_⟩;replace h:=h.next d.out;refine cw h.rows {} 60 (bE (i:=11) (T:=22) (v:=.u (Uz.wrap y)) h.mp.row ni al rfl) ?_;refine an (R:=[]) trivial {} 2 ?_;exact ah _ _ (wj (h.setHd _ (aP _)))
 ·obtain ⟨b,f,l⟩:∃ b,A.ar=some ⟨b,0,none⟩/\M.ram.length<=A.cr:=by
   rcases (h.mp.rrow).2 with ⟨_,e⟩|⟨b,_,_,e,_,_,t,_⟩;·have:=h.fit.pos;omega
   ·simp only [Value.slice.injEq,true_and] at e;exact ⟨b,e.1,by rw [e.2];exact t⟩
  obtain ⟨r,k,F⟩:=Nz h 4 (.slice (some ⟨b,1,none⟩) M.ram.tail.length (A.cr-1));refine cw h.rows {ov:=[(56,UW A.ar M.ram A.cr f (by have:=h.fit.pos;omega) l underlying24 al)]} 60 (bE (i:=4) (T:=24) (v:=.slice (some ⟨b,1,none⟩) M.ram.tail.length (A.cr-1)) h.mp.row ni al rfl) ?_;refine an (R:=[]) trivial {} 2 ?_;have p:=r.msl;have G:=p.ram;rw [f] at G;exact ah _ _ (tU (N:=JF M) (C:=UV A b) (rZ h.mp.row 4 _) F (GZ h.fit).1 ⟨p.x,p.cs,GX G,p.xs,p.ys⟩ (λk=>by rw [(GZ h.fit).2] at k;cases k) (P3 (qR h.mp.fam) f) k h.gr h.w0w)
end
theorem mn (a b:Option Addr) (n m ca H:Nat) (xs ys:List Int) (w:World) (hx:xs.length=n) (hy:ys.length=m) (hn:n<=1048576) (hm:m<=1048576) (hs:Sl .u64 w a xs) (J:Sl .u64 w b ys):CB 28 #[.slice a n ca,.slice b m H] w (.bool (decide (xs=ys))):=by
 by_cases q:n=m
 ·subst q;have r:Hid (xs.length=n):=hx;have s:Hid (ys.length=n):=hy;have I:((n:Int) != (n:Int))=false:=cp;clear hx hy;go_enter func28,ntmps28;go_wp2;go_loopw [5] (λi wr=>∃ k:Nat,k<=n/\i=.i k/\Hid (xs.take k=ys.take k)/\Bw w wr)
   (λi _=>n-(intOf i).toNat)
  case atStart=>exact ⟨0,Nat.zero_le _,rfl,(rfl:xs.take 0=ys.take 0),Below.refl _ _⟩
  case round =>
   obtain ⟨k,P,rfl,o,c⟩:=hrel;by_cases A:k<n
   ·obtain ⟨E,K,rfl,t,j⟩:=hs k (by have:=r.out;omega);obtain ⟨G,L,rfl,u,l⟩:=J k (by have:=s.out;omega);obtain ⟨x,f⟩:∃ x,x=xs.getD k 0:=⟨_,rfl⟩;obtain ⟨y,g⟩:∃ y,y=ys.getD k 0:=⟨_,rfl⟩;have N:wr.cell? ⟨E,K+k,none⟩=some (.u x):=(by rw [f];exact (c.cell (by exact t)).trans j);have O:wr.cell? ⟨G,L+k,none⟩=some (.u y):=(by rw [g];exact (c.cell (by exact u)).trans l);have B:Hid (x=xs.getD k 0):=f;have C:Hid (y=ys.getD k 0):=g;clear j l f g;by_cases d:x=y
    ·subst d;have R:=Hc xs ys k n r.out s.out A o.out (B.out.symm.trans C.out);have D:Hid (xs.take (k+1)=ys.take (k+1)):=R;clear R;have p:(x != x)=false:=cp;go_wp2;go_region;all_goals go_wp2
     all_goals go_roundw
     case rel=>exact ⟨k+1,ab,by go_num,D,c.drew⟩
     case measure=>simp [intOf];omega
    ·have F:Hid (decide (xs=ys)=false):=(by show decide (xs=ys)=false;rw [decide_eq_false_iff_not];intro h;apply d;rw [B.out,C.out,h]);have p:(x != y)=true:=ki;clear d;go_wp2;go_region;all_goals go_wp2
     all_goals go_ret
     all_goals exact ⟨bc,c.drew⟩
   ·have z:k=n:=ab;subst z;have F:Hid (decide (xs=ys)=true):=(by show decide (xs=ys)=true;rw [decide_eq_true_eq];have h:=o.out;rw [List.take_of_length_le (by have:=r.out;omega),List.take_of_length_le (by have:=s.out;omega)] at h;exact h);go_wp2;go_ret;exact ⟨bc,c⟩
 ·have F:Hid (decide (xs=ys)=false):=(by show decide (xs=ys)=false;rw [decide_eq_false_iff_not];intro h;apply q;rw [<- hx,<- hy,h]);have p:((n:Int) != (m:Int))=true:=bh;clear hx hy;go_enter func28,ntmps28;go_wp2;go_ret;exact ⟨bc,Below.refl _ _⟩
end Go.Proofs.YtjifdmoehfbihaaGreatDoor
