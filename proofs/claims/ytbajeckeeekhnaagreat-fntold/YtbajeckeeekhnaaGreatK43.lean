/- Own lemmas. -/
import Derived.Test.YtbajeckeeekhnaaGreatK03
import Derived.Test.YtbajeckeeekhnaaGreatK12
import Derived.Test.YtbajeckeeekhnaaGreatK14
import Derived.Test.YtbajeckeeekhnaaGreatK16
import Derived.Test.YtbajeckeeekhnaaGreatK17
import Derived.Test.YtbajeckeeekhnaaGreatK18
import Derived.Test.YtbajeckeeekhnaaGreatK19
import Derived.Test.YtbajeckeeekhnaaGreatK29
import Derived.Test.YtbajeckeeekhnaaGreatK42
import Derived.Deep.RegionWith
import Derived.Deep.Cut
import Derived.Laws.Tables
namespace Go.Proofs.YtbajeckeeekhnaaGreat
open Go.RowKit
set_option linter.unusedVariables false

structure Mf (M:MV):Prop where
 x:M.x.length=32
 ux:∀ j,U (M.x.getD j 0)
 cs:M.cs.length=22
 ucs:∀ j,U (M.cs.getD j 0)
 ram:M.ram.length=4096∨M.ram.length=8192
 bram:∀ y ∈ M.ram,(Lit.int .u8 y).wf=true
 d:Fits M.d 16 4096
 pc:U M.pc
 hd:U M.hd
 pr:M.pr=0∨M.pr=1∨M.pr=3

theorem Mf.len {M:MV} (h:Mf M):MLen M:=⟨by rw [h.x];omega,by rw [h.cs];omega,by rcases h.ram with e | e<;>rw [e]<;>omega,by have:=h.d.l1;omega,by have:=h.d.l2;omega⟩

structure Dm (w0:World) (g:Nat) (a:Option Addr) (n cap:Nat) (w:World) (r m:Nat) (M:MV) (A:MA) (wr:World):Prop where
 cu:Cs w0 g a n cap w wr
 res:wr.heap[r]?=some (.cells (mvc zeroM zeroA) 29 (0,0))
 mp:Mp (r+1) m M A wr
 fit:Mf M
 gr:g < r
 wr_:w.heap.size≤r
 w0w:w0.heap.size≤w.heap.size

theorem Dm.cur {w0:World} {g:Nat} {a:Option Addr} {n cap:Nat} {w:World} {r m:Nat} {M:MV} {A:MA} {wr:World} (h:Dm w0 g a n cap w r m M A wr):Cur w0 wr g a n cap:=h.cu.1

theorem Dm.next {w0:World} {g:Nat} {a:Option Addr} {n cap:Nat} {w:World} {r m:Nat} {M:MV} {A:MA} {wr wx:World} (h:Dm w0 g a n cap w r m M A wr) (k:Cs w0 g a n cap wr wx):Dm w0 g a n cap w r m M A wx:=by
 have hg:=h.gr
 have hm:=h.mp.lo
 exact ⟨h.cu.trans k,k.keep h.res (by omega),⟨k.keep h.mp.row (by omega),(h.mp.fam.mono fun j h1 h2 h3=>k.2.block j h3 (by simp;omega)).low (Nat.le_refl _) k.2.size,h.mp.ne,h.mp.lo⟩,h.fit,h.gr,h.wr_,h.w0w⟩

theorem Dm.below {w0:World} {g:Nat} {a:Option Addr} {n cap:Nat} {w:World} {r m:Nat} {M:MV} {A:MA} {wr wx:World} (h:Dm w0 g a n cap w r m M A wr) (k:Below wr.heap.size wr wx):Dm w0 g a n cap w r m M A wx:=h.next (Cs.of_below h.cu.1 k)

theorem Dm.step {w0:World} {g:Nat} {a:Option Addr} {n cap:Nat} {w:World} {r m:Nat} {M:MV} {A:MA} {wr wx:World} (h:Dm w0 g a n cap w r m M A wr) {M':MV} {A':MA} (hb:Below (r+1) wr wx) (hp:Mp (r+1) m M' A' wx) (hf:Mf M'):Dm w0 g a n cap w r m M' A' wx:=by
 have hg:=h.gr
 have hw:=h.wr_
 have h0:=h.w0w
 have hr:=(Array.getElem?_eq_some_iff.1 h.res).1
 obtain ⟨i,hh,hi,hrow⟩:=h.cu.1.row
 refine ⟨⟨⟨h.cu.1.new,?_,i,hh,hi,(hb.block g (by omega)).trans hrow⟩,⟨hb.os.trans h.cu.2.os,hb.tape.trans h.cu.2.tape,hb.output.trans h.cu.2.output,Nat.le_trans h.cu.2.size hb.size,fun k hk hne=>(hb.block k (by omega)).trans (h.cu.2.block k hk hne)⟩⟩,(hb.block r (by omega)).trans h.res,hp,hf,h.gr,h.wr_,h.w0w⟩
 exact ⟨hb.os.trans h.cu.1.below.os,hb.tape.trans h.cu.1.below.tape,hb.output.trans h.cu.1.below.output,Nat.le_trans h.cu.1.below.size hb.size,fun k hk=>(hb.block k (by omega)).trans (h.cu.1.below.block k hk)⟩

theorem Dm.setX {w0:World} {g:Nat} {a:Option Addr} {n cap:Nat} {w:World} {r m:Nat} {M:MV} {A:MA} {wr:World} (h:Dm w0 g a n cap w r m M A wr) (b:Nat) (hb:A.ax=some ⟨b,0,none⟩) (i:Nat) {v:Int} (hv:U v):Dm w0 g a n cap w r m (xM M (M.x.set i v)) A (wr.setCell ⟨b,i,none⟩ (.int .u64 v)) :=
 h.step (h.mp.setX b hb i v).2 (h.mp.setX b hb i v).1 ⟨by simp [xM,h.fit.x],set_U h.fit.ux i hv,h.fit.cs,h.fit.ucs,h.fit.ram,h.fit.bram,h.fit.d,h.fit.pc,h.fit.hd,h.fit.pr⟩

theorem Dm.setC {w0:World} {g:Nat} {a:Option Addr} {n cap:Nat} {w:World} {r m:Nat} {M:MV} {A:MA} {wr:World} (h:Dm w0 g a n cap w r m M A wr) (b:Nat) (hb:A.ac=some ⟨b,0,none⟩) (i:Nat) {v:Int} (hv:U v):Dm w0 g a n cap w r m (cM M (M.cs.set i v)) A (wr.setCell ⟨b,i,none⟩ (.int .u64 v)) :=
 h.step (h.mp.setC b hb i v).2 (h.mp.setC b hb i v).1 ⟨h.fit.x,h.fit.ux,by simp [cM,h.fit.cs],set_U h.fit.ucs i hv,h.fit.ram,h.fit.bram,h.fit.d,h.fit.pc,h.fit.hd,h.fit.pr⟩

theorem Dm.atX {w0:World} {g:Nat} {a:Option Addr} {n cap:Nat} {w:World} {r m:Nat} {M:MV} {A:MA} {wr:World} (h:Dm w0 g a n cap w r m M A wr):∃ b c,A.ax=some ⟨b,0,none⟩∧A.cx=c∧wr.cell? ⟨m,1,none⟩=some (.slice (some ⟨b,0,none⟩) 32 c)∧(∀ j,j < 32→wr.cell? ⟨b,j,none⟩=some (.int .u64 (M.x.getD j 0))∧wr.frozen? ⟨b,j,none⟩=false):=by
 have hx:=h.mp.xrow
 rw [h.fit.x] at hx
 obtain ⟨b,c,e,hb⟩:=own_shape hx (by omega)
 simp only [Value.slice.injEq,true_and] at e
 obtain ⟨e1,e2⟩:=e
 have hr:=h.mp.row
 refine ⟨b,c,e1,e2,?_,fun j hj=>?_⟩
 ·simp [World.cell?,hr,mvc,e1,e2,h.fit.x]
 ·rw [e1] at hx
  refine ⟨?_,hx.frozenAt j⟩
  rw [hx.cellAt j (by omega)]
  have hl:=h.fit.x
  rw [List.getElem?_map,List.getElem?_eq_getElem (show j < M.x.length by omega),List.getD_eq_getElem?_getD,List.getElem?_eq_getElem (show j < M.x.length by omega)]
  rfl

theorem Dm.atC {w0:World} {g:Nat} {a:Option Addr} {n cap:Nat} {w:World} {r m:Nat} {M:MV} {A:MA} {wr:World} (h:Dm w0 g a n cap w r m M A wr):∃ b c,A.ac=some ⟨b,0,none⟩∧A.cc=c∧wr.cell? ⟨m,3,none⟩=some (.slice (some ⟨b,0,none⟩) 22 c)∧(∀ j,j < 22→wr.cell? ⟨b,j,none⟩=some (.int .u64 (M.cs.getD j 0))∧wr.frozen? ⟨b,j,none⟩=false):=by
 have hx:=h.mp.crow
 rw [h.fit.cs] at hx
 obtain ⟨b,c,e,hb⟩:=own_shape hx (by omega)
 simp only [Value.slice.injEq,true_and] at e
 obtain ⟨e1,e2⟩:=e
 have hr:=h.mp.row
 refine ⟨b,c,e1,e2,?_,fun j hj=>?_⟩
 ·simp [World.cell?,hr,mvc,e1,e2,h.fit.cs]
 ·rw [e1] at hx
  refine ⟨?_,hx.frozenAt j⟩
  rw [hx.cellAt j (by omega)]
  have hl:=h.fit.cs
  rw [List.getElem?_map,List.getElem?_eq_getElem (show j < M.cs.length by omega),List.getD_eq_getElem?_getD,List.getElem?_eq_getElem (show j < M.cs.length by omega)]
  rfl

theorem Dm.setF {w0:World} {g:Nat} {a:Option Addr} {n cap:Nat} {w:World} {r m:Nat} {M M':MV} {A:MA} {wr:World} (h:Dm w0 g a n cap w r m M A wr) (i:Nat) (v:Value) (hc:mvc M' A=(mvc M A).setIfInBounds i v) (hf:mvF M' A=mvF M A) (fit:Mf M'):Dm w0 g a n cap w r m M' A (wr.setCell ⟨m,i,none⟩ v) :=
 h.step (h.mp.setF i v hc hf).2 (h.mp.setF i v hc hf).1 fit

theorem Dm.dev {w0:World} {g:Nat} {a:Option Addr} {n cap:Nat} {w:World} {r m:Nat} {M:MV} {A:MA} {wr wx:World} (h:Dm w0 g a n cap w r m M A wr) (k:Cs w0 g a n cap wr wx) (D:DV) (a1:Option Addr) (c1:Nat) (a2:Option Addr) (c2:Nat) (hf:Fits D 16 4096) (hd:Fam wr.heap.size wx.heap.size wx (dvF D a1 c1 a2 c2)) :
 Dm w0 g a n cap w r m (devM M D) (devA A a1 c1 a2 c2) (wx.setRow m (mvc (devM M D) (devA A a1 c1 a2 c2))):=by
 have hx:=h.next k
 have hlo:=h.mp.lo
 have hml:=h.mp.lt
 have hne:∀ q ∈ mvF (devM M D) (devA A a1 c1 a2 c2),q.v.ownBlock≠some m:=by
  intro q hq e
  simp only [mvF,List.mem_cons,List.not_mem_nil,or_false] at hq
  have hdv:∀ q ∈ dvF D a1 c1 a2 c2,q.v.ownBlock≠some m:=fun q hq e=>by have:=(hd.own q hq).lt _ e;omega
  rcases hq with rfl | rfl | rfl | rfl | rfl
  ·exact h.mp.ne (wRow A.ax M.x.length A.cx M.x) (by simp [mvF]) e
  ·exact h.mp.ne (wRow A.ac M.cs.length A.cc M.cs) (by simp [mvF]) e
  ·exact h.mp.ne (bRow A.ar M.ram.length A.cr M.ram) (by simp [mvF]) e
  ·exact hdv (bRow a1 D.xs.length c1 D.xs) (by simp [dvF,devF]) e
  ·exact hdv (bRow a2 D.ys.length c2 D.ys) (by simp [dvF,devF]) e
 have hsub:Fam (r+1) wr.heap.size wx [wRow A.ax M.x.length A.cx M.x,wRow A.ac M.cs.length A.cc M.cs,bRow A.ar M.ram.length A.cr M.ram]:=by
  have hg:=h.gr
  have:=(h.mp.fam.mono (w':=wx) fun j h1 h2 h3=>k.2.block j h3 (by simp;omega))
  exact this.sub (by simp [mvF,List.Sublist.refl])
 have happ:=hsub.app hd (by omega) k.2.size
 have hfam:Fam (r+1) wx.heap.size wx (mvF (devM M D) (devA A a1 c1 a2 c2)):=happ
 have hbel:Below (r+1) wx (wx.setRow m (mvc (devM M D) (devA A a1 c1 a2 c2))):=row_below (Below.refl _ _) (by omega) _
 refine hx.step hbel ⟨setRow_heap wx m _ _ _ _ hx.mp.row,?_,hne,h.mp.lo⟩ ⟨h.fit.x,h.fit.ux,h.fit.cs,h.fit.ucs,h.fit.ram,h.fit.bram,hf,h.fit.pc,h.fit.hd,h.fit.pr⟩
 rw [setRow_size]
 exact ⟨fun q hq=>fown_of (hfam.own q hq) (fun j e=>setRow_other wx m j _ (fun e2=>hne q hq (by rw [e,e2]))),hfam.hi,hfam.ne⟩

def cA (A:MA) (b c:Nat):MA:={ A with ac:=some ⟨b,0,none⟩,cc:=c }

theorem Dm.csrs {w0:World} {g:Nat} {a:Option Addr} {n cap:Nat} {w:World} {r m:Nat} {M:MV} {A:MA} {wr wx:World} (h:Dm w0 g a n cap w r m M A wr) (k:Cs w0 g a n cap wr wx) (zs:List Int) (hu:∀ j,U (zs.getD j 0)) (ho:wx.ownsRow wr.heap.size 24 1 (.slice (some ⟨wr.heap.size,0,none⟩) 22 22) 22 (zs.map (Value.int .u64))) :
 Dm w0 g a n cap w r m (cM M zs) (cA A wr.heap.size 22) (wx.setCell ⟨m,3,none⟩ (.slice (some ⟨wr.heap.size,0,none⟩) 22 22)):=by
 have hzl:zs.length=22:=by have:=ho.1;simpa using this
 have hx:=h.next k
 have hlo:=h.mp.lo
 have hml:=h.mp.lt
 have hg:=h.gr
 have hsub:Fam (r+1) wr.heap.size wx ([wRow A.ax M.x.length A.cx M.x] ++ [bRow A.ar M.ram.length A.cr M.ram,bRow A.ai M.d.xs.length A.ci M.d.xs,bRow A.ao M.d.ys.length A.co M.d.ys]):=by
  have:=(h.mp.fam.mono (w':=wx) fun j h1 h2 h3=>k.2.block j h3 (by simp;omega))
  exact this.sub (by simp [mvF])
 have hins:=hsub.ins (q:=wRow (some ⟨wr.heap.size,0,none⟩) zs.length 22 zs) (E':=wx.heap.size) (by simp only [wRow];rw [hzl];exact ho) (by omega) (Nat.le_refl _) k.2.size
 have hfam:Fam (r+1) wx.heap.size wx (mvF (cM M zs) (cA A wr.heap.size 22)):=hins
 have hne:∀ q ∈ mvF (cM M zs) (cA A wr.heap.size 22),q.v.ownBlock≠some m:=by
  intro q hq e
  simp only [mvF,List.mem_cons,List.not_mem_nil,or_false] at hq
  rcases hq with rfl | rfl | rfl | rfl | rfl
  ·exact h.mp.ne (wRow A.ax M.x.length A.cx M.x) (by simp [mvF]) e
  ·simp only [wRow,cA,Value.ownBlock,Option.some.injEq] at e;omega
  ·exact h.mp.ne (bRow A.ar M.ram.length A.cr M.ram) (by simp [mvF]) e
  ·exact h.mp.ne (bRow A.ai M.d.xs.length A.ci M.d.xs) (by simp [mvF]) e
  ·exact h.mp.ne (bRow A.ao M.d.ys.length A.co M.d.ys) (by simp [mvF]) e
 refine hx.step ⟨rfl,rfl,rfl,by rw [size_set];exact Nat.le_refl _,fun j hj=>Below.heap_setCell _ _ _ j (by dsimp only;omega)⟩ ⟨?_,Mp.fam_set hfam hne 3 _,hne,h.mp.lo⟩ ⟨h.fit.x,h.fit.ux,hzl,hu,h.fit.ram,h.fit.bram,h.fit.d,h.fit.pc,h.fit.hd,h.fit.pr⟩
 have:=row_set hx.mp.row 3 (.slice (some ⟨wr.heap.size,0,none⟩) 22 22)
 rw [this]
 simp [mvc,cM,cA,hzl]

def rawM (ram:List Int):MV:=⟨2147483648,List.replicate 32 0,3,List.replicate 22 0,ram,zeroD,0,false,false⟩

def newM (ram:List Int):MV:=if ramOkB ram.length=true then lineM (rawM ram) else zeroM

theorem zeros64 {w w':World} {m:Nat} (hown:w'.ownsRow w.heap.size 24 1 (.slice (some ⟨w.heap.size,0,none⟩) m m) m (madeCells (Value.int .u64 0).cells (m*1)).toList):w'.ownsRow w.heap.size 24 1 (.slice (some ⟨w.heap.size,0,none⟩) m m) m ((List.replicate m (0:Int)).map (Value.int .u64)):=by
 rw [List.map_replicate,← toList_madeCells_one];simpa [Value.cells] using hown

theorem wpH_make {K:Act→World→Prop} {Q:Exit→Act→World→Prop} {o:Oper} {a:Act} {W:World} {ys:Nat→Option Bool} (hw:Region.wanted o ys=true) (m:Nat) (l c:Operand) (hop:o.op=Op.makeSlice 25 l c) (hl:a.eval l=.int .i64 m) (hc:a.eval c=.int .i64 m) (hm:m≤1048576)
 (h:∀ W',W'.ownsRow W.heap.size 24 1 (.slice (some ⟨W.heap.size,0,none⟩) m m) m ((List.replicate m (0:Int)).map (Value.int .u64))→Below W.heap.size W W'→K (a.put o.dst (.slice (some ⟨W.heap.size,0,none⟩) m m)) W') :
 if Region.wanted o ys=true then Oper.wp Tryz.prog o a W K Q else K (a.put o.dst undef) W:=by
 obtain ⟨i0,hi,hz0,hz1,hz2⟩:=info_parts infoW
 obtain ⟨w',hrun,r1,r2⟩:=run_make_full (P:=Tryz.prog) W W.heap.size 25 24 i0 (.int .u64 0) 1 Tryz.underlying25 hi hz0 hz1 .i64 .i64 m (by rw [hz2];omega) (by unfold maxLen;omega) (Nat.le_refl _)
 rw [if_pos hw]
 unfold Oper.wp
 simp [execOp,hop,hl,hc,hrun,Result.andThen]
 exact h _ (zeros64 r1) ((Below.refl _ _).grown r2 (Nat.le_refl _) (by intro k h;cases h))

theorem app8_new (ty:TypeId) {W:World} (g:Nat) (hown:W.ownsRow 0 5 1 (.slice (some ⟨g,0,none⟩) 0 0) 0 []) (ad:Addr) (m c:Nat) (zs:List Int) (hz:zs.length=m) (h0:0 < m) (hm:m≤1048576) (hsl:Sl .u8 W (some ad) zs) :
 ∃ (k:Nat) (W':World),(Builtin.append_ #[22,22] ty #[.slice (some ⟨g,0,none⟩) 0 0,.slice (some ad) m c]).run Tryz.prog W=.ok (.slice (some ⟨W.heap.size,0,none⟩) m k) W'∧W'.ownsRow W.heap.size 5 1 (.slice (some ⟨W.heap.size,0,none⟩) m k) m (zs.map (Value.int .u8))∧Below W.heap.size W W':=by
 obtain ⟨i0,hi,hz0,hz1,hz2⟩:=info_parts Tryz.info5
 have hnews:∀ j u,(zs.map (Value.int .u8))[j]?=some u→W.cell? (ad.add j)=some u:=by
  intro j u hu
  have hj:j < zs.length:=by
   rcases Nat.lt_or_ge j zs.length with h | h
   ·exact h
   ·rw [List.getElem?_eq_none (by simpa using h)] at hu;cases hu
  obtain ⟨b,off,e,_,hc⟩:=hsl j hj
  cases e
  rw [adds,hc]
  rw [List.getElem?_map,List.getElem?_eq_getElem hj] at hu
  rw [List.getD_eq_getElem?_getD,List.getElem?_eq_getElem hj]
  exact hu
 have hl:(zs.map (Value.int .u8)).length=m*i0.size:=by rw [List.length_map,hz,hz1];omega
 obtain ⟨v',w',hr,h2,h3,h4⟩:=run_append_own (P:=Tryz.prog) W 0 22 ty 5 i0 (.int .u8 0) 1 1 Tryz.underlying22 hi hz0 hz1 hz2 rfl (by decide) _ 0 [] hown ad m c (zs.map (Value.int .u8)) (by rw [List.length_map,hz];omega) hnews (ints_oneCell _ _) (by unfold maxLen;omega) (by omega) (Nat.zero_le _)
 have hg:=run_append_grow (P:=Tryz.prog) W 22 ty 5 i0 (.int .u8 0) Tryz.underlying22 hi hz0 ⟨g,0,none⟩ 0 0 [] (by simp) (fun j v h=>by simp at h) ad m c (zs.map (Value.int .u8)) hl hnews (by omega) (by omega) (growslice_fits (by omega) (by rw [hz2];omega))
 rw [hg] at hr
 simp only [Nat.zero_add,List.nil_append] at h2 hr hg
 injection hr with e1 e2
 subst e1
 subst e2
 refine ⟨_,_,hg,?_,(Below.refl _ _).drew.alloc (by exact Nat.le_refl _) _⟩
 refine ⟨h2.1,?_⟩
 rcases h2.2 with ⟨e,e0⟩ | ⟨g',cap,cur,e,hg',r⟩
 ·cases e
 ·refine .inr ⟨g',cap,cur,e,?_,r⟩
  simp only [Value.slice.injEq,Option.some.injEq,Addr.mk.injEq] at e
  omega

theorem wpH_app8 {K:Act→World→Prop} {Q:Exit→Act→World→Prop} {o:Oper} {a:Act} {W:World} {ys:Nat→Option Bool} (hw:Region.wanted o ys=true) (s x:Operand) (hop:o.op=.call { callee:=.builtin .append,args:=#[s,x],argTypes:=#[22,22] }) (g:Nat) (hs:a.eval s=.slice (some ⟨g,0,none⟩) 0 0) (ad:Addr) (m c:Nat) (zs:List Int) (hx:a.eval x=.slice (some ad) m c)
 (hown:W.ownsRow 0 5 1 (.slice (some ⟨g,0,none⟩) 0 0) 0 []) (hz:zs.length=m) (h0:0 < m) (hm:m≤1048576) (hsl:Sl .u8 W (some ad) zs)
 (h:∀ k W',W'.ownsRow W.heap.size 5 1 (.slice (some ⟨W.heap.size,0,none⟩) m k) m (zs.map (Value.int .u8))→Below W.heap.size W W'→K (a.put o.dst (.slice (some ⟨W.heap.size,0,none⟩) m k)) W') :
 if Region.wanted o ys=true then Oper.wp Tryz.prog o a W K Q else K (a.put o.dst undef) W:=by
 obtain ⟨k,W',hr,h1,h2⟩:=app8_new o.type g hown ad m c zs hz h0 hm hsl
 rw [if_pos hw]
 unfold Oper.wp execOp
 simp only [hop,resolve,invoke,builtin,Sem.run_bind,Sem.run_pure,Result.andThen_ok,List.map_toArray,List.map_cons,List.map_nil,hs,hx,hr]
 exact h _ _ h1 h2

theorem raw_len (ram:List Int) (h:ram.length≤1048576):MLen (rawM ram):=⟨by simp [rawM],by simp [rawM],h,by simp [rawM,zeroD],by simp [rawM,zeroD]⟩

theorem ramOk_pos {n:Nat} (h:ramOkB n=true):0 < n:=by
 rcases Nat.eq_zero_or_pos n with h0 | h0
 ·subst h0;revert h;decide
 ·exact h0

theorem fam_setRow {B E:Nat} {w:World} {L:List FRow} (h:Fam B E w L) (g:Nat) (hg:∀ q ∈ L,q.v.ownBlock≠some g) (cs:Array Value):Fam B E (w.setRow g cs) L :=
 ⟨fun r hr=>fown_of (h.own r hr) (fun k e=>setRow_other w g k cs (fun e2=>hg r hr (by rw [← e2];exact e))),h.hi,h.ne⟩

theorem below_row9 {B:Nat} {v w:World} (h:Below B v w) {g:Nat} (hg:B≤g) (cs:Array Value):Below B v (w.setRow g cs) :=
 ⟨h.os,h.tape,h.output,by rw [setRow_size];exact h.size,fun k hk=>(setRow_other w g k cs (by omega)).trans (h.block k hk)⟩

theorem yields_build {P:Program} {o:Oper} {a:Act} {w:World} (t:TypeId) (parts:Array (Nat × Operand)) (ho:o.op=.build t parts) (vs:List (Nat × Value)) (hv:parts.toList.map (fun p=>(p.1,a.eval p.2))=vs) (cells:Array Value) (h:P.built t vs=some cells):(execOp a.eval o).run P w=.ok (.value (.agg cells)) w:=by
 have hv2:(parts.map fun (i,x)=>(i,a.eval x)).toList=vs:=by rw [Array.toList_map];exact hv
 subst hv2
 clear hv
 unfold execOp
 simp only [ho,Sem.run_bind,run_build w t _ cells h,Result.andThen_ok]
 rfl

def rawC (vx vc vr:Value):Array Value:=#[.int .u64 2147483648,vx,.int .i64 3,vc,vr,.int .u64 0,.int .u64 0,.bool false,.slice none 0 0,.slice none 0 0,.int .i64 0,.int .u64 0,.bool false,.bool false]

def Zs (B:Nat) (W:World) (m:Nat) (v:Value):Prop:=∃ a,v=.slice a m m∧W.ownsRow B 24 1 (.slice a m m) m ((List.replicate m (0:Int)).map (Value.int .u64))

structure Nm3 (B n:Nat) (ram:List Int) (W:World) (vx vc vr:Value):Prop where
 x:Zs B W 32 vx
 c:Zs B W 22 vc
 r:W.ownsRow B 5 1 vr n (ram.map (Value.int .u8))

def nmV (B n cap:Nat) (ad:Addr) (ram:List Int) (W:World):Nat→List Value→Prop
 | 0,[v]=>Zs B W 32 v
 | 1,[v]=>Zs B W 22 v
 | 2,[v]=>∃ g,v=.slice (some ⟨g,0,none⟩) 0 0∧W.ownsRow 0 5 1 (.slice (some ⟨g,0,none⟩) 0 0) 0 []
 | 3,[v]=>v=.slice (some ad) n cap
 | 4,[v]=>W.ownsRow B 5 1 v n (ram.map (Value.int .u8))
 | 5,[v]=>∃ vx vc vr,v=.agg (rawC vx vc vr)∧Nm3 B n ram W vx vc vr
 | 6,[v]=>∃ r cs,v=.pointer (some ⟨r,0,none⟩)∧B≤r∧W.heap[r]?=some (.cells cs 29 (0,0))∧cs.size=14
 | 7,[p]=>∃ r vx vc vr,p=.pointer (some ⟨r,0,none⟩)∧B≤r∧W.heap[r]?=some (.cells (rawC vx vc vr) 29 (0,0))∧Nm3 B n ram W vx vc vr
 | _,_=>True

def nmD:Nat→List Nat
 | 7=>[6]
 | i=>[i]

theorem raw_built3 (ax ac ar:Option Addr) (n cr:Nat):Tryz.prog.built 29 [(0,.int .u64 2147483648),(1,.slice ax 32 32),(2,.int .i64 3),(3,.slice ac 22 22),(4,.slice ar n cr)]=some (rawC (.slice ax 32 32) (.slice ac 22 22) (.slice ar n cr)):=by kernel_rfl

theorem wp_of_wanted {P:Program} {o:Oper} {a:Act} {W:World} {K:Act→World→Prop} {Q:Exit→Act→World→Prop} (ys:Nat→Option Bool) (hw:Region.wanted o ys=true) (h:if Region.wanted o ys=true then Oper.wp P o a W K Q else K (a.put o.dst undef) W):o.wp P a W K Q:=by
 rwa [if_pos hw] at h

theorem own_kept {W W':World} {B n:Nat} {t:TypeId} {v:Value} {xs:List Value} (h:W.ownsRow B t 1 v n xs) (hk:∀ (g:Nat) (cs:Array Value),W.heap[g]?=some (.cells cs t (0,0))→W'.heap[g]?=some (.cells cs t (0,0))):W'.ownsRow B t 1 v n xs:=by
 refine ⟨h.1,?_⟩
 rcases h.2 with h1 | ⟨g,cap,cur,e1,e2,e3,e4⟩
 ·exact .inl h1
 ·exact .inr ⟨g,cap,cur,e1,e2,hk g cur e3,e4⟩

theorem Zs.kept {B m:Nat} {W W':World} {v:Value} (h:Zs B W m v) (hk:∀ (g:Nat) (cs:Array Value),W.heap[g]?=some (.cells cs 24 (0,0))→W'.heap[g]?=some (.cells cs 24 (0,0))):Zs B W' m v:=by
 obtain ⟨a,e,h⟩:=h
 exact ⟨a,e,own_kept h hk⟩

theorem Nm3.kept {B n:Nat} {ram:List Int} {W W':World} {vx vc vr:Value} (h:Nm3 B n ram W vx vc vr) (hk:∀ (g:Nat) (cs:Array Value) (t:TypeId),t≠29→W.heap[g]?=some (.cells cs t (0,0))→W'.heap[g]?=some (.cells cs t (0,0))):Nm3 B n ram W' vx vc vr :=
 ⟨h.x.kept (fun g cs=>hk g cs _ (by decide)),h.c.kept (fun g cs=>hk g cs _ (by decide)),own_kept h.r (fun g cs=>hk g cs _ (by decide))⟩

theorem nmV_kept {B n cap:Nat} {ad:Addr} {ram:List Int} {W W':World} (hk:∀ (g:Nat) (cs:Array Value) (t:TypeId),t≠29→W.heap[g]?=some (.cells cs t (0,0))→W'.heap[g]?=some (.cells cs t (0,0))) (hm:∀ (g:Nat) (cs:Array Value),W.heap[g]?=some (.cells cs 29 (0,0))→∃ ds:Array Value,W'.heap[g]?=some (.cells ds 29 (0,0))∧ds.size=cs.size∧(ds=cs∨∃ vx vc vr,ds=rawC vx vc vr∧Nm3 B n ram W' vx vc vr)) :
 ∀ j l,nmV B n cap ad ram W j l→nmV B n cap ad ram W' j l:=by
 intro j l h
 unfold nmV at h ⊢
 split
 ·exact h.kept (fun g cs=>hk g cs _ (by decide))
 ·exact h.kept (fun g cs=>hk g cs _ (by decide))
 ·obtain ⟨g,e,h⟩:=h
  exact ⟨g,e,own_kept h (fun g cs=>hk g cs _ (by decide))⟩
 ·exact h
 ·exact own_kept h (fun g cs=>hk g cs _ (by decide))
 ·obtain ⟨vx,vc,vr,e,h⟩:=h
  exact ⟨vx,vc,vr,e,h.kept hk⟩
 ·obtain ⟨r,cs,e,hB,hr,hs⟩:=h
  obtain ⟨ds,h1,h2,_⟩:=hm r cs hr
  exact ⟨r,ds,e,hB,h1,by omega⟩
 ·obtain ⟨r,vx,vc,vr,e,hB,hr,hs⟩:=h
  obtain ⟨ds,h1,h2,h3⟩:=hm r _ hr
  rcases h3 with rfl | ⟨vx2,vc2,vr2,rfl,h4⟩
  ·exact ⟨r,vx,vc,vr,e,hB,h1,hs.kept hk⟩
  ·exact ⟨r,vx2,vc2,vr2,e,hB,h1,h4⟩
 ·trivial

theorem nmV_below {B n cap:Nat} {ad:Addr} {ram:List Int} {W W':World} (hb:Below W.heap.size W W'):∀ j l,nmV B n cap ad ram W j l→nmV B n cap ad ram W' j l:=by
 have h:∀ (g:Nat) (o:Obj),W.heap[g]?=some o→W'.heap[g]?=some o:=fun g o e=>by rw [hb.block g (Array.getElem?_eq_some_iff.1 e).1];exact e
 exact nmV_kept (fun g cs t _ e=>h g _ e) (fun g cs e=>⟨cs,h g _ e,rfl,.inl rfl⟩)

theorem nmV_set {B n cap:Nat} {ad:Addr} {ram:List Int} {W:World} {r:Nat} {cs:Array Value} {vx vc vr:Value} (hr:W.heap[r]?=some (.cells cs 29 (0,0))) (hs:cs.size=14) (h3:Nm3 B n ram W vx vc vr) :
 Nm3 B n ram (W.setRow r (rawC vx vc vr)) vx vc vr∧∀ j l,nmV B n cap ad ram W j l→nmV B n cap ad ram (W.setRow r (rawC vx vc vr)) j l:=by
 have hk:∀ (g:Nat) (ds:Array Value) (t:TypeId),t≠29→W.heap[g]?=some (.cells ds t (0,0))→(W.setRow r (rawC vx vc vr)).heap[g]?=some (.cells ds t (0,0)):=by
  intro g ds t ht e
  rw [setRow_other W r g _ (fun e2=>?_)]
  ·exact e
  ·subst e2
   rw [hr] at e
   simp only [Option.some.injEq,Obj.cells.injEq] at e
   exact ht e.2.1.symm
 have h4:=h3.kept hk
 refine ⟨h4,nmV_kept hk (fun g ds e=>?_)⟩
 by_cases hg:g=r
 ·subst hg
  rw [hr] at e
  simp only [Option.some.injEq,Obj.cells.injEq,and_true] at e
  subst e
  exact ⟨_,setRow_heap _ _ _ _ _ _ hr,by rw [hs];rfl,.inr ⟨vx,vc,vr,rfl,h4⟩⟩
 ·exact ⟨ds,by rw [setRow_other W r g _ hg];exact e,rfl,.inl rfl⟩

theorem own_shape3 {B n:Nat} {t:TypeId} {W:World} {v:Value} {xs:List Value} (h:W.ownsRow B t 1 v n xs):∃ a c,v=.slice a n c:=by
 rcases h.2 with ⟨e1,e0⟩ | ⟨g,cap,cur,e1,_⟩
 ·exact ⟨none,0,by rw [e1,e0]⟩
 ·exact ⟨_,_,e1⟩

theorem Nm3.one {B n:Nat} {ram:List Int} {W:World} {vx vc vr:Value} (h:Nm3 B n ram W vx vc vr):(rawC vx vc vr).all (·.oneCell')=true:=by
 obtain ⟨ax,rfl,_⟩:=h.x
 obtain ⟨ac,rfl,_⟩:=h.c
 obtain ⟨ar,cr,rfl⟩:=own_shape3 h.r
 kernel_rfl

theorem own_at {B n c k:Nat} {t:TypeId} {W:World} {a:Option Addr} {xs:List Value} (h:W.ownsRow B t 1 (.slice a n c) n xs) (hk:(Value.slice a n c).ownBlock=some k):∃ cs,W.heap[k]?=some (.cells cs t (0,0))∧cs.size=c:=by
 rcases h.2 with ⟨e1,_⟩ | ⟨g,cap,cur,e1,_,hh,_,_,hs,_⟩
 ·rw [e1] at hk;cases hk
 ·cases e1
  cases hk
  exact ⟨cur,hh,by omega⟩

theorem Nm3.fam {B n:Nat} {ram:List Int} {W:World} {vx vc vr:Value} {r:Nat} {cs:Array Value} (h:Nm3 B n ram W vx vc vr) (hr:W.heap[r]?=some (.cells cs 29 (0,0))) :
 ∃ C:MA,vx=.slice C.ax 32 C.cx∧vc=.slice C.ac 22 C.cc∧vr=.slice C.ar n C.cr∧C.ai=none∧C.ci=0∧C.ao=none∧C.co=0∧Fam B W.heap.size W [wRow C.ax 32 C.cx (List.replicate 32 0),wRow C.ac 22 C.cc (List.replicate 22 0),bRow C.ar n C.cr ram,bRow none 0 0 [],bRow none 0 0 []]∧(∀ q ∈ [wRow C.ax 32 C.cx (List.replicate 32 0),wRow C.ac 22 C.cc (List.replicate 22 0),bRow C.ar n C.cr ram,bRow none 0 0 [],bRow none 0 0 []],q.v.ownBlock≠some r):=by
 obtain ⟨ax,rfl,hx⟩:=h.x
 obtain ⟨ac,rfl,hc⟩:=h.c
 obtain ⟨ar,cr,e⟩:=own_shape3 h.r
 have hb:=h.r
 rw [e] at hb
 have ht:∀ (k:Nat) (cs ds:Array Value) (t u:TypeId),W.heap[k]?=some (.cells cs t (0,0))→W.heap[k]?=some (.cells ds u (0,0))→t=u∧cs=ds:=by
  intro k cs ds t u h1 h2
  rw [h1] at h2
  simp only [Option.some.injEq,Obj.cells.injEq] at h2
  exact ⟨h2.2.1,h2.1⟩
 have kx:=fun k=>own_at (k:=k) hx
 have kc:=fun k=>own_at (k:=k) hc
 have kb:=fun k=>own_at (k:=k) hb
 have lt:∀ (k:Nat) (cs:Array Value) (t:TypeId),W.heap[k]?=some (.cells cs t (0,0))→k < W.heap.size:=fun k cs t h=>(Array.getElem?_eq_some_iff.1 h).1
 refine ⟨⟨ax,32,ac,22,ar,cr,none,0,none,0⟩,rfl,rfl,e,rfl,rfl,rfl,rfl,⟨fun q hq=>?_,fun q hq k ek=>?_,?_⟩,fun q hq er=>?_⟩
 ·simp only [List.mem_cons,List.not_mem_nil,or_false] at hq
  rcases hq with rfl | rfl | rfl | rfl | rfl
  ·exact hx
  ·exact hc
  ·exact hb
  ·exact ⟨rfl,.inl ⟨rfl,rfl⟩⟩
  ·exact ⟨rfl,.inl ⟨rfl,rfl⟩⟩
 ·simp only [List.mem_cons,List.not_mem_nil,or_false] at hq
  rcases hq with rfl | rfl | rfl | rfl | rfl
  ·obtain ⟨_,h1,_⟩:=kx k ek;exact lt _ _ _ h1
  ·obtain ⟨_,h1,_⟩:=kc k ek;exact lt _ _ _ h1
  ·obtain ⟨_,h1,_⟩:=kb k ek;exact lt _ _ _ h1
  ·cases ek
  ·cases ek
 ·simp only [List.pairwise_cons,List.mem_cons,List.not_mem_nil,or_false]
  refine ⟨fun s hs k e1 e2=>?_,fun s hs k e1 e2=>?_,fun s hs k e1 e2=>?_,fun s hs k e1=>(by cases e1),fun s hs=>hs.elim,List.Pairwise.nil⟩
  ·obtain ⟨_,h1,h2⟩:=kx k e1
   rcases hs with rfl | rfl | rfl | rfl
   ·obtain ⟨_,h3,h4⟩:=kc k e2
    rw [(ht _ _ _ _ _ h1 h3).2] at h2
    omega
   ·obtain ⟨_,h3,h4⟩:=kb k e2
    exact absurd (ht _ _ _ _ _ h1 h3).1 (by decide)
   ·cases e2
   ·cases e2
  ·obtain ⟨_,h1,h2⟩:=kc k e1
   rcases hs with rfl | rfl | rfl
   ·obtain ⟨_,h3,h4⟩:=kb k e2
    exact absurd (ht _ _ _ _ _ h1 h3).1 (by decide)
   ·cases e2
   ·cases e2
  ·rcases hs with rfl | rfl
   ·cases e2
   ·cases e2
 ·simp only [List.mem_cons,List.not_mem_nil,or_false] at hq
  rcases hq with rfl | rfl | rfl | rfl | rfl
  ·obtain ⟨_,h1,_⟩:=kx r er;exact absurd (ht _ _ _ _ _ h1 hr).1 (by decide)
  ·obtain ⟨_,h1,_⟩:=kc r er;exact absurd (ht _ _ _ _ _ h1 hr).1 (by decide)
  ·obtain ⟨_,h1,_⟩:=kb r er;exact absurd (ht _ _ _ _ _ h1 hr).1 (by decide)
  ·cases er
  ·cases er

set_option maxRecDepth 100000 in
set_option maxHeartbeats 12800000 in
theorem specNewMachine_any (ad:Option Addr) (n cap:Nat) (ram:List Int) (w:World) (hz:ram.length=n) (hn:n≤1048576) (hs:Sl .u8 w ad ram) :
 Calls Tryz.prog 37 #[.slice ad n cap] w fun e w'=>∃ C:MA,e=.returned (.tuple #[.agg (mvc (newM ram) C),.bool (ramOkB n)])∧Fam w.heap.size w'.heap.size w' (mvF (newM ram) C)∧Below w.heap.size w w':=by
 have B0:Below w.heap.size w (w.alloc (.cells #[.int .u64 0,.slice none 0 0,.int .i64 0,.slice none 0 0,.slice none 0 0,.int .u64 0,.int .u64 0,.bool false,.slice none 0 0,.slice none 0 0,.int .i64 0,.int .u64 0,.bool false,.bool false] 29)):=(Below.refl _ _).alloc (Nat.le_refl _) _
 have rb:(w.alloc (.cells #[.int .u64 0,.slice none 0 0,.int .i64 0,.slice none 0 0,.slice none 0 0,.int .u64 0,.int .u64 0,.bool false,.slice none 0 0,.slice none 0 0,.int .i64 0,.int .u64 0,.bool false,.bool false] 29)).heap[w.heap.size]?=some (.cells #[.int .u64 0,.slice none 0 0,.int .i64 0,.slice none 0 0,.slice none 0 0,.int .u64 0,.int .u64 0,.bool false,.slice none 0 0,.slice none 0 0,.int .i64 0,.int .u64 0,.bool false,.bool false] 29):=heap_alloc_new _ _
 obtain ⟨Q,hQ⟩:∃ Q:World→Prop,Q=fun W=>Below (w.heap.size+1) (w.alloc (.cells #[.int .u64 0,.slice none 0 0,.int .i64 0,.slice none 0 0,.slice none 0 0,.int .u64 0,.int .u64 0,.bool false,.slice none 0 0,.slice none 0 0,.int .i64 0,.int .u64 0,.bool false,.bool false] 29)) W:=⟨_,rfl⟩
 have PB:Hid (∀ W W',Q W→Below W.heap.size W W'→Q W'):=by rw [hQ];exact fun W W' h hb=>h.trans (hb.mono (by have:=h.size;simp only [World.size_alloc] at this;omega))
 have PU:Hid (∀ W g,Q W→w.heap.size+1≤g→∀ cs,Q (W.setRow g cs)):=by rw [hQ];exact fun W g h hg=>below_row9 h hg
 have PE:Hid (∀ W,Q W→Below w.heap.size w W):=by rw [hQ];exact fun W h=>B0.trans (h.mono (by omega))
 have PZ:Hid (∀ W,Q W→w.heap.size+1≤W.heap.size):=by rw [hQ];exact fun W h=>by have:=h.size;simp only [World.size_alloc] at this;omega
 have PR:Hid (∀ W,Q W→W.heap[w.heap.size]?=some (.cells #[.int .u64 0,.slice none 0 0,.int .i64 0,.slice none 0 0,.slice none 0 0,.int .u64 0,.int .u64 0,.bool false,.slice none 0 0,.slice none 0 0,.int .i64 0,.int .u64 0,.bool false,.bool false] 29)):=by rw [hQ];exact fun W h=>(h.block _ (by omega)).trans rb
 have PK:Hid (∀ W W' L B E,Q W→KeepL L W W'→Fam B E W L→w.heap.size+1≤B→Q W'):=by rw [hQ];exact fun W W' L B E h k f hB=>h.trans ((k.keep f).below hB (by have:=h.size;simp only [World.size_alloc] at this;omega))
 have q0:Q (w.alloc (.cells #[.int .u64 0,.slice none 0 0,.int .i64 0,.slice none 0 0,.slice none 0 0,.int .u64 0,.int .u64 0,.bool false,.slice none 0 0,.slice none 0 0,.int .i64 0,.int .u64 0,.bool false,.bool false] 29)):=by rw [hQ];exact Below.refl _ _
 have KS:Hid (∀ w',Q w'→Q w'):=fun w' h=>h
 have HOK:Hid (∀ w,Calls Tryz.prog 24 #[.slice ad n cap] w fun e w'=>e=.returned (.bool (ramOkB n))∧w'=w):=fun w=>specRamOk_any _ _ _ w hn
 have HNC:Hid (∀ w,Calls Tryz.prog 54 #[] w fun e w'=>e=.returned (.slice (some ⟨w.heap.size,0,none⟩) 22 22)∧w'.ownsRow w.heap.size 24 1 (.slice (some ⟨w.heap.size,0,none⟩) 22 22) 22 ((List.replicate 22 (0:Int)).map (Value.int .u64))∧Below w.heap.size w w'):=specNewCsrs_any
 have HLN:Hid (∀ (C:MA) (b B E:Nat) (w':World),w'.heap[b]?=some (.cells #[.int .u64 2147483648,.slice C.ax 32 C.cx,.int .i64 3,.slice C.ac 22 C.cc,.slice C.ar n C.cr,.int .u64 0,.int .u64 0,.bool false,.slice C.ai 0 C.ci,.slice C.ao 0 C.co,.int .i64 0,.int .u64 0,.bool false,.bool false] 29 (0,0))→Fam B E w' (mvF (rawM ram) C)→(∀ q ∈ mvF (rawM ram) C,q.v.ownBlock≠some b)→Calls Tryz.prog 41 #[.pointer (some ⟨b,0,none⟩)] w' fun e w''=>e=.returned (.tuple #[])∧w''.heap[b]?=some (.cells #[.int .u64 2147483648,.slice C.ax 32 C.cx,.int .i64 3,.slice C.ac 22 C.cc,.slice C.ar n C.cr,.int .u64 0,.int .u64 0,.bool false,.slice C.ai 0 C.ci,.slice C.ao 0 C.co,.int .i64 0,.int .u64 0,.bool false,.bool false] 29 (0,0))∧Fam B E w'' (mvF (lineM (rawM ram)) C)∧KeepL (mvF (rawM ram) C) w' w''):=fun C b B E w' hr hf hb=>by
  subst hz
  have h2:=l9Line_any (rawM ram) C b B E w' rfl (raw_len ram hn) hr hf hb
  rw [mvc_line] at h2
  exact h2
 have HMV:Hid (∀ C:MA,mvc (lineM (rawM ram)) C=#[.int .u64 2147483648,.slice C.ax 32 C.cx,.int .i64 3,.slice C.ac 22 C.cc,.slice C.ar n C.cr,.int .u64 0,.int .u64 0,.bool false,.slice C.ai 0 C.ci,.slice C.ao 0 C.co,.int .i64 0,.int .u64 0,.bool false,.bool false]):=fun C=>by subst hz;exact (mvc_line (rawM ram) C).trans rfl
 obtain ⟨V,hV⟩:∃ V,V=newM ram:=⟨_,rfl⟩
 rw [← hV]
 clear hQ rb
 cases hok:ramOkB n with
 | false =>
   have F:Hid (V=zeroM):=by show _=_;rw [hV];unfold newM;rw [hz,hok];rfl
   rw [hok] at HOK
   clear HNC HLN hV HMV hs hz hn hok
   go_enter Tryz.func37,Tryz.ntmps37
   go_wp2_with fail
   refine (HOK.out _).mono ?_
   rintro e w1 ⟨rfl,hw1⟩
   subst hw1
   go_wp2_with fail
   exact bodyPost_ret (results_ct8 Tryz.results37 _ _ _ _ _ _ _ rfl (PR.out _ q0) Tryz.underlying29 rfl mac_size) rfl ⟨zeroA,by rw [F.out];rfl,by rw [F.out];exact fam_zeroM _ _ _,PE.out _ q0⟩
 | true =>
   have F:Hid (V=lineM (rawM ram)):=by show _=_;rw [hV];unfold newM;rw [hz,hok];rfl
   have hpos:=ramOk_pos hok
   rw [hok] at HOK
   have HN:Hid (ram.length=n∧0 < n∧n≤1048576):=⟨hz,hpos,hn⟩
   obtain ⟨ad0,rfl⟩:∃ x,ad=some x:=by
    obtain ⟨b,off,e,_⟩:=hs 0 (by omega)
    exact ⟨_,e⟩
   have HSL:Hid (∀ W,Below w.heap.size w W→Sl .u8 W (some ad0) ram):=fun W hb=>hs.below hb
   clear hs hz hn hok hpos hV
   go_enter Tryz.func37,Tryz.ntmps37
   go_wp2_with fail
   refine (HOK.out _).mono ?_
   rintro e w1 ⟨rfl,hw1⟩
   subst hw1
   go_wp2_with fail
   go_cut [4] from 5 (fun y wc=>∃ (r:Nat) (C:MA),y=.pointer (some ⟨r,0,none⟩)∧Hid (wc.heap[r]?=some (.cells #[.int .u64 2147483648,.slice C.ax 32 C.cx,.int .i64 3,.slice C.ac 22 C.cc,.slice C.ar n C.cr,.int .u64 0,.int .u64 0,.bool false,.slice none 0 0,.slice none 0 0,.int .i64 0,.int .u64 0,.bool false,.bool false] 29 (0,0))∧Fam (w.heap.size+1) wc.heap.size wc ([wRow C.ax 32 C.cx (List.replicate 32 0),wRow C.ac 22 C.cc (List.replicate 22 0),bRow C.ar n C.cr ram,bRow none 0 0 [],bRow none 0 0 []])∧(∀ q ∈ [wRow C.ax 32 C.cx (List.replicate 32 0),wRow C.ac 22 C.cc (List.replicate 22 0),bRow C.ar n C.cr ram,bRow none 0 0 [],bRow none 0 0 []],q.v.ownBlock≠some r)∧w.heap.size+1≤r∧Q wc)∧C.ai=none∧C.ci=0∧C.ao=none∧C.co=0)
   case first =>
    have p0:=PB.out _ _ q0 (Below.refl _ _).drew
    refine wp_region_lin (by kernel_rfl) nmD (fun j l W=>nmV (w.heap.size+1) n cap ad0 ram W j l) Q (by kernel_rfl) p0 ?_ ?_
    ·intro i o ho a W hq hoff hsz hd
     rcases i with _ | _ | _ | _ | _ | _ | _ | _ | i
     ·obtain rfl:=Option.some.inj ho
      refine wp_of_wanted (fun _=>none) (by rfl) (wpH_make (by rfl) 32 (.const (.int .i64 32)) (.const (.int .i64 32)) rfl rfl rfl (by omega) ?_)
      intro W' ow hb
      exact ⟨_,rfl,⟨_,rfl,own_low ow (PZ.out _ hq)⟩,PB.out _ _ hq hb,nmV_below hb⟩
     ·obtain rfl:=Option.some.inj ho
      go_simp
      refine (HNC.out _).mono ?_
      rintro e W' ⟨rfl,ow,hb⟩
      exact ⟨_,rfl,⟨_,rfl,own_low ow (PZ.out _ hq)⟩,PB.out _ _ hq hb,nmV_below hb⟩
     ·obtain rfl:=Option.some.inj ho
      have hb:Below W.heap.size W (W.alloc (.cells #[] 5 (0,0))):=(Below.refl _ _).alloc (Nat.le_refl _) _
      go_simp
      exact ⟨_,rfl,⟨_,rfl,own_low (own_empty8 W _ (Nat.le_refl _) _ rfl) (Nat.zero_le _)⟩,PB.out _ _ hq hb,nmV_below hb⟩
     ·obtain rfl:=Option.some.inj ho
      have e0:a.tmps[0]?=some (.slice (some ad0) n cap):=hoff 0 (by kernel_rfl)
      refine wp_val (v:=.slice (some ad0) n cap) ?_ ⟨_,rfl,rfl,hq,fun _ _ h=>h⟩
      simp [execOp,Act.eval,Array.getD_eq_getD_getElem?,e0]
     ·obtain rfl:=Option.some.inj ho
      obtain ⟨g,e2,ol⟩:=hd 2 (by decide) (by kernel_rfl)
      have e3:=hd 3 (by decide) (by kernel_rfl)
      refine wp_of_wanted (fun _=>none) (by rfl) (wpH_app8 (by rfl) (.tmp 11) (.tmp 12) rfl g e2 ad0 n cap ram e3 ol HN.out.1 HN.out.2.1 HN.out.2.2 (HSL.out _ (PE.out _ hq)) ?_)
      intro k W' ow hb
      exact ⟨_,rfl,own_low ow (PZ.out _ hq),PB.out _ _ hq hb,nmV_below hb⟩
     ·obtain rfl:=Option.some.inj ho
      have h0:=hd 0 (by decide) (by kernel_rfl)
      have h1:=hd 1 (by decide) (by kernel_rfl)
      have h4:=hd 4 (by decide) (by kernel_rfl)
      obtain ⟨ax,ex,hx⟩:=h0
      obtain ⟨ac,ec,hc⟩:=h1
      obtain ⟨ar,cr,er⟩:=own_shape3 h4
      refine wp_val (v:=.agg (rawC (.slice ax 32 32) (.slice ac 22 22) (.slice ar n cr))) (yields_build _ _ rfl [(0,.int .u64 2147483648),(1,.slice ax 32 32),(2,.int .i64 3),(3,.slice ac 22 22),(4,.slice ar n cr)] ?_ _ (raw_built3 _ _ _ _ _)) ⟨_,rfl,⟨_,_,_,rfl,⟨?_,?_,?_⟩⟩,hq,fun _ _ h=>h⟩
      ·rw [← ex,← ec,← er]
       rfl
      ·exact ⟨_,rfl,hx⟩
      ·exact ⟨_,rfl,hc⟩
      ·rw [← er];exact h4
     ·obtain rfl:=Option.some.inj ho
      go_simp
      exact ⟨_,rfl,⟨W.heap.size,_,rfl,PZ.out _ hq,heap_alloc_new _ _,rfl⟩,PB.out _ _ hq ((Below.refl _ _).alloc (Nat.le_refl _) _),nmV_below ((Below.refl _ _).alloc (Nat.le_refl _) _)⟩
     ·obtain rfl:=Option.some.inj ho
      obtain ⟨vx,vc,vr,e5,h3⟩:=hd 5 (by decide) (by kernel_rfl)
      obtain ⟨r,cs,e6,hB,hr,hs⟩:=hd 6 (by decide) (by kernel_rfl)
      obtain ⟨h4,h5⟩:=nmV_set (cap:=cap) (ad:=ad0) hr hs h3
      refine wp_store_row 29 (.tmp 4) (.tmp 14) rfl r (rawC vx vc vr) e6 e5 _ cs hr mac_size hs h3.one ?_
      exact ⟨_,rfl,⟨r,vx,vc,vr,e6,hB,setRow_heap _ _ _ _ _ _ hr,h4⟩,PU.out _ r hq hB _,h5⟩
     ·cases ho
    ·intro a W hq hoff hsz hdf hv
     obtain ⟨u4,g4⟩:=slot_some hsz 4 (by rfl)
     obtain ⟨u9,g9⟩:=slot_some hsz 9 (by rfl)
     obtain ⟨u10,g10⟩:=slot_some hsz 10 (by rfl)
     obtain ⟨u11,g11⟩:=slot_some hsz 11 (by rfl)
     obtain ⟨u12,g12⟩:=slot_some hsz 12 (by rfl)
     obtain ⟨u13,g13⟩:=slot_some hsz 13 (by rfl)
     obtain ⟨u14,g14⟩:=slot_some hsz 14 (by rfl)
     obtain ⟨r,vx,vc,vr,e6,hB,hr,h3⟩:=hv 7 (by decide)
     have e6':u4=.pointer (some ⟨r,0,none⟩):=by
      rw [← e6]
      show u4=a.tmps.getD 4 undef
      rw [Array.getD_eq_getD_getElem?,g4]
      rfl
     subst e6'
     obtain ⟨C,rfl,rfl,rfl,ai,ci,ao,co,hf,hn⟩:=h3.fam hr
     have ha:=act_lit (a:=a) (l:=[.slice (some ad0) n cap,undef,.pointer (some ⟨w.heap.size,0,none⟩),.bool false,.pointer (some ⟨r,0,none⟩),.slice (some ad0) n cap,.bool true,.bool false,undef,u9,u10,u11,u12,u13,u14,undef,undef]) hsz (fun i hi=>?_) hdf
     ·subst ha
      clear hv hoff hsz hdf g4 g9 g10 g11 g12 g13 g14 e6
      go_wp2_with fail
      go_meet
      exact ⟨r,C,rfl,⟨hr,hf,hn,hB,hq⟩,ai,ci,ao,co⟩
     ·rcases i with _ | _ | _ | _ | _ | _ | _ | _ | _ | _ | _ | _ | _ | _ | _ | _ | _ | i
      all_goals first | assumption | exact hoff _ (by kernel_rfl) | (simp at hi;omega)
   case rest =>
    obtain ⟨r,C,rfl,LI,cai,cci,cao,cco⟩:=hcut
    have LJ:Hid (wc.heap[r]?=some (.cells #[.int .u64 2147483648,.slice C.ax 32 C.cx,.int .i64 3,.slice C.ac 22 C.cc,.slice C.ar n C.cr,.int .u64 0,.int .u64 0,.bool false,.slice C.ai 0 C.ci,.slice C.ao 0 C.co,.int .i64 0,.int .u64 0,.bool false,.bool false] 29 (0,0))∧Fam (w.heap.size+1) wc.heap.size wc (mvF (rawM ram) C)∧(∀ q ∈ mvF (rawM ram) C,q.v.ownBlock≠some r)∧w.heap.size+1≤r∧Q wc):=by
     have h:=LI.out
     obtain ⟨ax,cx,ac,cc,ar,cr,ai,ci,ao,co⟩:=C
     dsimp only at cai cci cao cco h
     subst cai
     subst cci
     subst cao
     subst cco
     have hn2:=HN.out.1
     subst hn2
     exact h
    obtain ⟨row,fam,ne,hr,qc⟩:=LJ.out
    clear LI LJ cai cci cao cco
    go_wp2_with fail
    refine (HLN.out C r _ _ _ row fam ne).mono ?_
    rintro e w3 ⟨rfl,row3,fm3,kp3⟩
    have q3:Q w3:=PK.out _ _ _ _ _ qc kp3 fam (Nat.le_refl _)
    have Z3:=dhid kp3.size
    have nd1:¬ r=w.heap.size:=by omega
    have nd2:¬ w.heap.size=r:=by omega
    clear kp3 row fam ne
    obtain ⟨a0,a1,a2,a3,a4,a5,a6,a7,a8,a9,a10,a11,a12,a13⟩:=cells14 row3
    obtain ⟨s0,s1,s2,s3,s4,s5,s6,s7,s8,s9,s10,s11,s12,s13⟩:=cells14 (PR.out _ q3)
    obtain ⟨y0,y1,y2,y3,y4,y5,y6,y7,y8,y9,y10,y11,y12,y13⟩:=froz14 (PR.out _ q3)
    go_wp2_with fail
    exact bodyPost_ret (results_ct8 Tryz.results37 _ _ _ _ _ _ _ rfl (row_put14 (PR.out _ q3) (.int .u64 2147483648) (.slice C.ax 32 C.cx) (.int .i64 3) (.slice C.ac 22 C.cc) (.slice C.ar n C.cr) (.int .u64 0) (.int .u64 0) (.bool false) (.slice C.ai 0 C.ci) (.slice C.ao 0 C.co) (.int .i64 0) (.int .u64 0) (.bool false) (.bool false)) Tryz.underlying29 rfl mac_size) rfl ⟨C,by rw [F.out,HMV.out];rfl,by rw [F.out];exact (fm3.put14 w.heap.size (.inl (by omega)) (.int .u64 2147483648) (.slice C.ax 32 C.cx) (.int .i64 3) (.slice C.ac 22 C.cc) (.slice C.ar n C.cr) (.int .u64 0) (.int .u64 0) (.bool false) (.slice C.ai 0 C.ci) (.slice C.ao 0 C.co) (.int .i64 0) (.int .u64 0) (.bool false) (.bool false)).low (by omega) (by have:=Z3.out;simp only [size_set];omega),below_put14 (PE.out _ q3) (Nat.le_refl _) (.int .u64 2147483648) (.slice C.ax 32 C.cx) (.int .i64 3) (.slice C.ac 22 C.cc) (.slice C.ar n C.cr) (.int .u64 0) (.int .u64 0) (.bool false) (.slice C.ai 0 C.ci) (.slice C.ao 0 C.co) (.int .i64 0) (.int .u64 0) (.bool false) (.bool false)⟩

end Go.Proofs.YtbajeckeeekhnaaGreat
