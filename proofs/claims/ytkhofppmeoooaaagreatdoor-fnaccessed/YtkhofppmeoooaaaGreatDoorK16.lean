/- Own lemmas. -/
import Derived.Test.YtkhofppmeoooaaaGreatDoorK04
import Derived.Test.YtkhofppmeoooaaaGreatDoorK08
import Derived.Test.YtkhofppmeoooaaaGreatDoorK15
import Derived.Deep.Cut
namespace Go.Proofs.YtkhofppmeoooaaaGreatDoor
open Go.RowKit
set_option linter.unusedVariables false

theorem put_wfD (zs:List Int) (h:∀ y ∈ zs,(Lit.int .u8 y).wf=true) (f:Nat) (x:Int) (k:Nat):∀ y ∈ put zs f x k,(Lit.int .u8 y).wf=true:=fun y hy=>by
 have hb:=put_bd zs (fun z hz=>by have:=h z hz;simpa [Lit.wf,IntKind.min,IntKind.max,IntKind.signed,IntKind.bits] using this) f x k y hy
 exact wf8 hb.1 hb.2

theorem row_cell {W:World} {g:Nat} {cs:Array Value} {t:TypeId} (h:W.heap[g]?=some (.cells cs t (0,0))) (i:Nat):W.cell? ⟨g,i,none⟩=cs[i]?:=by simp [World.cell?,h]

def prM (M:MV) (v:Int):MV:={ M with pr:=v }

def pcM (M:MV) (v:Int):MV:={ M with pc:=v }

def hdM (M:MV) (v:Int):MV:={ M with hd:=v }

def hlM (M:MV) (v:Bool):MV:={ M with hl:=v }

def wtM (M:MV) (v:Bool):MV:={ M with wt:=v }

theorem Dm.setPr {w0:World} {g:Nat} {a:Option Addr} {n cap:Nat} {w:World} {r m:Nat} {M:MV} {A:MA} {wr:World} (h:Dm w0 g a n cap w r m M A wr) (v:Int) (hv:v=0∨v=1∨v=3):Dm w0 g a n cap w r m (prM M v) A (wr.setCell ⟨m,2,none⟩ (.int .i64 v)) :=
 h.setF 2 (.int .i64 v) (M':=prM M v) rfl rfl ⟨h.fit.x,h.fit.ux,h.fit.cs,h.fit.ucs,h.fit.ram,h.fit.bram,h.fit.d,h.fit.pc,h.fit.hd,hv⟩

theorem Dm.setPc {w0:World} {g:Nat} {a:Option Addr} {n cap:Nat} {w:World} {r m:Nat} {M:MV} {A:MA} {wr:World} (h:Dm w0 g a n cap w r m M A wr) (v:Int) (hv:U v):Dm w0 g a n cap w r m (pcM M v) A (wr.setCell ⟨m,0,none⟩ (.int .u64 v)) :=
 h.setF 0 (.int .u64 v) (M':=pcM M v) rfl rfl ⟨h.fit.x,h.fit.ux,h.fit.cs,h.fit.ucs,h.fit.ram,h.fit.bram,h.fit.d,hv,h.fit.hd,h.fit.pr⟩

theorem Dm.setHd {w0:World} {g:Nat} {a:Option Addr} {n cap:Nat} {w:World} {r m:Nat} {M:MV} {A:MA} {wr:World} (h:Dm w0 g a n cap w r m M A wr) (v:Int) (hv:U v):Dm w0 g a n cap w r m (hdM M v) A (wr.setCell ⟨m,11,none⟩ (.int .u64 v)) :=
 h.setF 11 (.int .u64 v) (M':=hdM M v) rfl rfl ⟨h.fit.x,h.fit.ux,h.fit.cs,h.fit.ucs,h.fit.ram,h.fit.bram,h.fit.d,h.fit.pc,hv,h.fit.pr⟩

theorem Dm.setHl {w0:World} {g:Nat} {a:Option Addr} {n cap:Nat} {w:World} {r m:Nat} {M:MV} {A:MA} {wr:World} (h:Dm w0 g a n cap w r m M A wr) (v:Bool):Dm w0 g a n cap w r m (hlM M v) A (wr.setCell ⟨m,12,none⟩ (.bool v)) :=
 h.setF 12 (.bool v) (M':=hlM M v) rfl rfl ⟨h.fit.x,h.fit.ux,h.fit.cs,h.fit.ucs,h.fit.ram,h.fit.bram,h.fit.d,h.fit.pc,h.fit.hd,h.fit.pr⟩

theorem Dm.setWt {w0:World} {g:Nat} {a:Option Addr} {n cap:Nat} {w:World} {r m:Nat} {M:MV} {A:MA} {wr:World} (h:Dm w0 g a n cap w r m M A wr) (v:Bool):Dm w0 g a n cap w r m (wtM M v) A (wr.setCell ⟨m,13,none⟩ (.bool v)) :=
 h.setF 13 (.bool v) (M':=wtM M v) rfl rfl ⟨h.fit.x,h.fit.ux,h.fit.cs,h.fit.ucs,h.fit.ram,h.fit.bram,h.fit.d,h.fit.pc,h.fit.hd,h.fit.pr⟩

theorem line_fit {M:MV} (h:Mf M):Mf (lineM M):=⟨h.x,h.ux,by simp [lineM,h.cs],set_U h.ucs 9 (U_wrap _),h.ram,h.bram,h.d,h.pc,h.hd,h.pr⟩

theorem mvc_oneM (M:MV) (A:MA):(mvc M A).all (·.oneCell')=true:=by simp [mvc,Value.oneCell']

theorem Dm.outM {w0:World} {g:Nat} {a:Option Addr} {n cap:Nat} {w:World} {m:Nat} {M:MV} {A:MA} {wr:World} (h:Dm w0 g a n cap w w.heap.size m M A wr) (cs:Array Value):Fam w.heap.size (wr.setRow w.heap.size cs).heap.size (wr.setRow w.heap.size cs) (mvF M A)∧Cs w0 g a n cap w (wr.setRow w.heap.size cs):=by
 have hb:Below w.heap.size wr (wr.setRow w.heap.size cs):=row_below (Below.refl _ _) (Nat.le_refl _) cs
 have hg:=h.gr
 have h0:=h.w0w
 obtain ⟨i,hh,hi,hrow⟩:=h.cu.1.row
 refine ⟨?_,⟨⟨h.cu.1.new,?_,i,hh,hi,(hb.block g hg).trans hrow⟩,⟨hb.os.trans h.cu.2.os,hb.tape.trans h.cu.2.tape,hb.output.trans h.cu.2.output,Nat.le_trans h.cu.2.size hb.size,fun k hk hne=>(hb.block k hk).trans (h.cu.2.block k hk hne)⟩⟩⟩
 ·exact (fam_setRow h.mp.fam w.heap.size (fun q hq e=>by have:=(h.mp.fam.own q hq).lt _ e;omega) cs).low (by omega) hb.size
 ·exact ⟨hb.os.trans h.cu.1.below.os,hb.tape.trans h.cu.1.below.tape,hb.output.trans h.cu.1.below.output,Nat.le_trans h.cu.1.below.size hb.size,fun k hk=>(hb.block k (by omega)).trans (h.cu.1.below.block k hk)⟩

theorem l1Put_dm {w0:World} {g:Nat} {a:Option Addr} {n cap:Nat} {w:World} {r m:Nat} {M:MV} {A:MA} {wr:World} (h:Dm w0 g a n cap w r m M A wr) (L:Nat) (hL:M.ram.length=L) (f:Nat) (x:Int) (hx:U x) (hf:f+8≤L) :
 Calls Tryz.prog 62 #[.slice A.ar L A.cr,.int .u64 (2147483648+(f:Int)),.int .i64 8,.int .u64 x] wr fun e w'=>e=.returned (.tuple #[])∧∃ M':MV,Hid (Dm w0 g a n cap w r m M' A w')∧Hid (M'.ram.length=L):=by
 subst hL
 have hr:=h.fit.ram
 have hok:okB M.ram.length (2147483648+(f:Int)) 8=true:=by
  have h1:ramOkB M.ram.length=true:=by rcases hr with e | e<;>rw [e]<;>decide
  have h2:sizeB 8=true:=by decide
  simp only [okB,h1,h2,Bool.true_and,decide_eq_true_eq]
  omega
 refine (l1Put_mp M A _ m _ 8 x wr (by rcases hr with e | e<;>rw [e]<;>omega) hok hx.1 (by have:=hx.2;omega) h.mp).mono fun e w' ⟨h1,h2,h3⟩=>⟨h1,_,dhid (h.step (h.mp.under h3) h2 ?_),dhid (put_len _ _ _ _)⟩
 exact ⟨h.fit.x,h.fit.ux,h.fit.cs,h.fit.ucs,(by show (put M.ram _ x _).length=4096∨(put M.ram _ x _).length=8192;rw [put_len];exact hr),put_wfD _ h.fit.bram _ _ _,h.fit.d,h.fit.pc,h.fit.hd,h.fit.pr⟩

set_option maxRecDepth 100000 in
set_option maxHeartbeats 6400000 in
theorem l7DrawPaged_4096 {zs:List Int} {w0:World} {g:Nat} {a:Option Addr} {n cap:Nat} {w:World} {r m:Nat} {M:MV} {A:MA} {wr:World} (hcd:Code w0 a n zs) (h:Dm w0 g a n cap w r m M A wr) (hL:M.ram.length=4096) :
 Calls Tryz.prog 74 #[.pointer (some ⟨g,0,none⟩),.pointer (some ⟨m,0,none⟩)] wr fun e w'=>e=.returned (.tuple #[])∧∃ M':MV,Hid (Dm w0 g a n cap w r m M' A w'):=by
 have HD:Hid (Code w0 a n zs):=hcd
 have HL:=dhid hL
 obtain ⟨bc,cc,ea,ec,cm,cells⟩:=h.atC
 obtain ⟨q15,r15⟩:=cells 15 (by omega)
 have c4:wr.cell? ⟨m,4,none⟩=some (.slice A.ar 4096 A.cr):=by rw [row_cell h.mp.row 4,← hL];rfl
 have c2:wr.cell? ⟨m,2,none⟩=some (.int .i64 M.pr):=row_cell h.mp.row 2
 have mbc:¬ m=bc:=fun e=>h.mp.ne (wRow A.ac M.cs.length A.cc M.cs) (by simp [mvF]) (by simp only [wRow];rw [ea,e];rfl)
 have mbd:¬ bc=m:=fun e=>mbc e.symm
 have SET:=dhid (fun v (hv:U v)=>h.setC bc ea 15 hv)
 clear hcd hL h cells ec
 go_enter Tryz.func74,Tryz.ntmps74
 go_upto_if 30 with fail
 generalize hv:IntKind.u64.wrap (bits BinOp.or IntKind.u64 9223372036854775808 524289 - 1)=v15
 have D1:Hid (∃ M:MV,Dm w0 g a n cap w r m M A (wr.setCell ⟨bc,15,none⟩ (.int .u64 v15))∧M.ram.length=4096):=⟨_,SET.out v15 (by rw [← hv];exact U_wrap _),HL.out⟩
 generalize wr.setCell ⟨bc,15,none⟩ (.int .u64 v15)=w1 at D1 ⊢
 generalize (M.pr==0)=p0
 clear hv SET mbc mbd c2 c4 q15 r15 cm ea
 go_cut [6] from 7 (fun v wc=>∃ b:Int,v=.int .i64 b∧∃ (M:MV),Hid (Dm w0 g a n cap w r m M A wc)∧Hid (M.ram.length=4096))
 case first =>
  obtain ⟨M1,d1,l1⟩:=D1.out
  cases p0
  ·go_wp2_with fail
   go_meet
   exact ⟨207,rfl,M1,d1,l1⟩
  ·go_wp2_with fail
   go_meet
   exact ⟨223,rfl,M1,d1,l1⟩
 case rest =>
  clear D1 HL
  obtain ⟨b1,rfl,M,DN,HL⟩:=hcut
  go_wp2_with fail
  refine (l1Once_c HD.out 2 (by omega) _ DN.out.cur).mono ?_
  rintro e w2 ⟨c2,rfl,hs2⟩
  have D2:=dhid (DN.out.next hs2.out)
  clear hs2 DN
  go_upto_if 32 with fail
  go_cut [6] from 7 (fun v wc=>∃ b:Int,v=.int .i64 b∧∃ (M:MV),Hid (Dm w0 g a n cap w r m M A wc)∧Hid (M.ram.length=4096))
  case first =>
   cases c2
   ·go_wp2_with fail
    go_meet
    exact ⟨b1,rfl,M,D2,HL⟩
   ·go_wp2_with fail
    go_meet
    exact ⟨_,rfl,M,D2,HL⟩
  case rest =>
   clear D2 HL
   obtain ⟨b2,rfl,M,DN,HL⟩:=hcut
   obtain ⟨z1,hz1⟩:∃ z,z=entryV 524288 b2:=⟨_,rfl⟩
   have HE:Hid (∀ w',Calls Tryz.prog 110 #[.int .u64 524288,.int .i64 b2] w' fun e w''=>e=.returned (.int .u64 z1)∧w''=w'):=fun w'=>by rw [hz1];exact specEntry_any _ _ w'
   have UZ:Hid (U z1):=by rw [hz1];exact U_entry _ _
   have c4:wc.cell? ⟨m,4,none⟩=some (.slice A.ar 4096 A.cr):=by rw [row_cell DN.out.mp.row 4,← HL.out];rfl
   have HP:=dhid (l1Put_dm (DN.out.below (Below.refl _ _).drew) 4096 HL.out 16 z1 UZ.out (by omega))
   clear hz1
   go_wp2_with fail
   go_cut [] from 7 (fun wc=>∃ (M:MV),Hid (Dm w0 g a n cap w r m M A wc)∧Hid (M.ram.length=4096))
   case first =>
    go_region_with (first | (go_at_call 110;with_reducible refine (HE.out _).mono ?_;rintro e wy ⟨rfl,rfl⟩) | (go_at_call 62;refine HP.out.mono ?_;rintro e wz ⟨rfl,M',DZ,HZ⟩))
    all_goals go_wp2_with fail
    all_goals go_meet
    all_goals exact ⟨M',DZ,HZ⟩
   case rest =>
    clear HL DN HE UZ c4 HP
    obtain ⟨M,DN,HL⟩:=hcut
    go_wp2_with fail
    refine (l1Once_c HD.out 2 (by omega) _ DN.out.cur).mono ?_
    rintro e w3 ⟨c3,rfl,hs3⟩
    have D3:=dhid (DN.out.next hs3.out)
    clear hs3 DN
    go_upto_if 45 with fail
    go_cut [] from 7 (fun wc=>∃ (M:MV),Hid (Dm w0 g a n cap w r m M A wc)∧Hid (M.ram.length=4096))
    case first =>
     cases c3
     ·go_wp2_with fail
      go_meet
      exact ⟨M,D3,HL⟩
     ·obtain ⟨z2,hz2⟩:∃ z,z=entryV 524288 223:=⟨_,rfl⟩
      have HE:Hid (∀ w',Calls Tryz.prog 110 #[.int .u64 524288,.int .i64 223] w' fun e w''=>e=.returned (.int .u64 z2)∧w''=w'):=fun w'=>by rw [hz2];exact specEntry_any _ _ w'
      have UZ:Hid (U z2):=by rw [hz2];exact U_entry _ _
      have c4:w3.cell? ⟨m,4,none⟩=some (.slice A.ar 4096 A.cr):=by rw [row_cell D3.out.mp.row 4,← HL.out];rfl
      have HP:=dhid (l1Put_dm (D3.out.below (Below.refl _ _).drew) 4096 HL.out 8 z2 UZ.out (by omega))
      clear hz2
      go_wp2_with fail
      go_region_with (first | (go_at_call 110;with_reducible refine (HE.out _).mono ?_;rintro e wy ⟨rfl,rfl⟩) | (go_at_call 62;refine HP.out.mono ?_;rintro e wz ⟨rfl,M',DZ,HZ⟩))
      all_goals go_wp2_with fail
      all_goals go_meet
      all_goals exact ⟨M',DZ,HZ⟩
    case rest =>
     clear D3 HL
     obtain ⟨M,DN,HL⟩:=hcut
     go_wp2_with fail
     refine (l1Once_c HD.out 3 (by omega) _ DN.out.cur).mono ?_
     rintro e w4 ⟨c4,rfl,hs4⟩
     have D4:=dhid (DN.out.next hs4.out)
     clear hs4 DN
     cases c4
     ·go_wp2_with fail
      refine bodyPost_end (results_none rfl _ _ _) rfl ?_
      exact ⟨rfl,M,D4⟩
     ·obtain ⟨z3,hz3⟩:∃ z,z=entryV 0 207:=⟨_,rfl⟩
      have HE:Hid (∀ w',Calls Tryz.prog 110 #[.int .u64 0,.int .i64 207] w' fun e w''=>e=.returned (.int .u64 z3)∧w''=w'):=fun w'=>by rw [hz3];exact specEntry_any _ _ w'
      have UZ:Hid (U z3):=by rw [hz3];exact U_entry _ _
      have c4:w4.cell? ⟨m,4,none⟩=some (.slice A.ar 4096 A.cr):=by rw [row_cell D4.out.mp.row 4,← HL.out];rfl
      have HP:=dhid (l1Put_dm (D4.out.below (Below.refl _ _).drew) 4096 HL.out 0 z3 UZ.out (by omega))
      clear hz3
      go_wp2_with fail
      go_region_with (first | (go_at_call 110;with_reducible refine (HE.out _).mono ?_;rintro e wy ⟨rfl,rfl⟩) | (go_at_call 62;refine HP.out.mono ?_;rintro e wz ⟨rfl,M',DZ,HZ⟩))
      all_goals go_wp2_with fail
      all_goals refine bodyPost_end (results_none rfl _ _ _) rfl ?_
      all_goals exact ⟨rfl,M',DZ⟩

set_option maxRecDepth 100000 in
set_option maxHeartbeats 6400000 in
theorem l7DrawPaged_8192 {zs:List Int} {w0:World} {g:Nat} {a:Option Addr} {n cap:Nat} {w:World} {r m:Nat} {M:MV} {A:MA} {wr:World} (hcd:Code w0 a n zs) (h:Dm w0 g a n cap w r m M A wr) (hL:M.ram.length=8192) :
 Calls Tryz.prog 74 #[.pointer (some ⟨g,0,none⟩),.pointer (some ⟨m,0,none⟩)] wr fun e w'=>e=.returned (.tuple #[])∧∃ M':MV,Hid (Dm w0 g a n cap w r m M' A w'):=by
 have HD:Hid (Code w0 a n zs):=hcd
 have HL:=dhid hL
 obtain ⟨bc,cc,ea,ec,cm,cells⟩:=h.atC
 obtain ⟨q15,r15⟩:=cells 15 (by omega)
 have c4:wr.cell? ⟨m,4,none⟩=some (.slice A.ar 8192 A.cr):=by rw [row_cell h.mp.row 4,← hL];rfl
 have c2:wr.cell? ⟨m,2,none⟩=some (.int .i64 M.pr):=row_cell h.mp.row 2
 have mbc:¬ m=bc:=fun e=>h.mp.ne (wRow A.ac M.cs.length A.cc M.cs) (by simp [mvF]) (by simp only [wRow];rw [ea,e];rfl)
 have mbd:¬ bc=m:=fun e=>mbc e.symm
 have SET:=dhid (fun v (hv:U v)=>h.setC bc ea 15 hv)
 clear hcd hL h cells ec
 go_enter Tryz.func74,Tryz.ntmps74
 go_upto_if 30 with fail
 generalize hv:IntKind.u64.wrap (bits BinOp.or IntKind.u64 9223372036854775808 524290 - 1)=v15
 have D1:Hid (∃ M:MV,Dm w0 g a n cap w r m M A (wr.setCell ⟨bc,15,none⟩ (.int .u64 v15))∧M.ram.length=8192):=⟨_,SET.out v15 (by rw [← hv];exact U_wrap _),HL.out⟩
 generalize wr.setCell ⟨bc,15,none⟩ (.int .u64 v15)=w1 at D1 ⊢
 generalize (M.pr==0)=p0
 clear hv SET mbc mbd c2 c4 q15 r15 cm ea
 go_cut [6] from 7 (fun v wc=>∃ b:Int,v=.int .i64 b∧∃ (M:MV),Hid (Dm w0 g a n cap w r m M A wc)∧Hid (M.ram.length=8192))
 case first =>
  obtain ⟨M1,d1,l1⟩:=D1.out
  cases p0
  ·go_wp2_with fail
   go_meet
   exact ⟨207,rfl,M1,d1,l1⟩
  ·go_wp2_with fail
   go_meet
   exact ⟨223,rfl,M1,d1,l1⟩
 case rest =>
  clear D1 HL
  obtain ⟨b1,rfl,M,DN,HL⟩:=hcut
  go_wp2_with fail
  refine (l1Once_c HD.out 2 (by omega) _ DN.out.cur).mono ?_
  rintro e w2 ⟨c2,rfl,hs2⟩
  have D2:=dhid (DN.out.next hs2.out)
  clear hs2 DN
  go_upto_if 32 with fail
  go_cut [6] from 7 (fun v wc=>∃ b:Int,v=.int .i64 b∧∃ (M:MV),Hid (Dm w0 g a n cap w r m M A wc)∧Hid (M.ram.length=8192))
  case first =>
   cases c2
   ·go_wp2_with fail
    go_meet
    exact ⟨b1,rfl,M,D2,HL⟩
   ·go_wp2_with fail
    go_meet
    exact ⟨_,rfl,M,D2,HL⟩
  case rest =>
   clear D2 HL
   obtain ⟨b2,rfl,M,DN,HL⟩:=hcut
   obtain ⟨z1,hz1⟩:∃ z,z=entryV 524288 b2:=⟨_,rfl⟩
   have HE:Hid (∀ w',Calls Tryz.prog 110 #[.int .u64 524288,.int .i64 b2] w' fun e w''=>e=.returned (.int .u64 z1)∧w''=w'):=fun w'=>by rw [hz1];exact specEntry_any _ _ w'
   have UZ:Hid (U z1):=by rw [hz1];exact U_entry _ _
   have c4:wc.cell? ⟨m,4,none⟩=some (.slice A.ar 8192 A.cr):=by rw [row_cell DN.out.mp.row 4,← HL.out];rfl
   have HP:=dhid (l1Put_dm (DN.out.below (Below.refl _ _).drew) 8192 HL.out 4112 z1 UZ.out (by omega))
   clear hz1
   go_wp2_with fail
   go_cut [] from 7 (fun wc=>∃ (M:MV),Hid (Dm w0 g a n cap w r m M A wc)∧Hid (M.ram.length=8192))
   case first =>
    go_region_with (first | (go_at_call 110;with_reducible refine (HE.out _).mono ?_;rintro e wy ⟨rfl,rfl⟩) | (go_at_call 62;refine HP.out.mono ?_;rintro e wz ⟨rfl,M',DZ,HZ⟩))
    all_goals go_wp2_with fail
    all_goals go_meet
    all_goals exact ⟨M',DZ,HZ⟩
   case rest =>
    clear HL DN HE UZ c4 HP
    obtain ⟨M,DN,HL⟩:=hcut
    go_wp2_with fail
    refine (l1Once_c HD.out 2 (by omega) _ DN.out.cur).mono ?_
    rintro e w3 ⟨c3,rfl,hs3⟩
    have D3:=dhid (DN.out.next hs3.out)
    clear hs3 DN
    go_upto_if 45 with fail
    go_cut [] from 7 (fun wc=>∃ (M:MV),Hid (Dm w0 g a n cap w r m M A wc)∧Hid (M.ram.length=8192))
    case first =>
     cases c3
     ·go_wp2_with fail
      go_meet
      exact ⟨M,D3,HL⟩
     ·obtain ⟨z2,hz2⟩:∃ z,z=entryV 524288 223:=⟨_,rfl⟩
      have HE:Hid (∀ w',Calls Tryz.prog 110 #[.int .u64 524288,.int .i64 223] w' fun e w''=>e=.returned (.int .u64 z2)∧w''=w'):=fun w'=>by rw [hz2];exact specEntry_any _ _ w'
      have UZ:Hid (U z2):=by rw [hz2];exact U_entry _ _
      have c4:w3.cell? ⟨m,4,none⟩=some (.slice A.ar 8192 A.cr):=by rw [row_cell D3.out.mp.row 4,← HL.out];rfl
      have HP:=dhid (l1Put_dm (D3.out.below (Below.refl _ _).drew) 8192 HL.out 4104 z2 UZ.out (by omega))
      clear hz2
      go_wp2_with fail
      go_region_with (first | (go_at_call 110;with_reducible refine (HE.out _).mono ?_;rintro e wy ⟨rfl,rfl⟩) | (go_at_call 62;refine HP.out.mono ?_;rintro e wz ⟨rfl,M',DZ,HZ⟩))
      all_goals go_wp2_with fail
      all_goals go_meet
      all_goals exact ⟨M',DZ,HZ⟩
    case rest =>
     clear D3 HL
     obtain ⟨M,DN,HL⟩:=hcut
     go_wp2_with fail
     refine (l1Once_c HD.out 3 (by omega) _ DN.out.cur).mono ?_
     rintro e w4 ⟨c4,rfl,hs4⟩
     have D4:=dhid (DN.out.next hs4.out)
     clear hs4 DN
     cases c4
     ·go_wp2_with fail
      refine bodyPost_end (results_none rfl _ _ _) rfl ?_
      exact ⟨rfl,M,D4⟩
     ·obtain ⟨z3,hz3⟩:∃ z,z=entryV 0 207:=⟨_,rfl⟩
      have HE:Hid (∀ w',Calls Tryz.prog 110 #[.int .u64 0,.int .i64 207] w' fun e w''=>e=.returned (.int .u64 z3)∧w''=w'):=fun w'=>by rw [hz3];exact specEntry_any _ _ w'
      have UZ:Hid (U z3):=by rw [hz3];exact U_entry _ _
      have c4:w4.cell? ⟨m,4,none⟩=some (.slice A.ar 8192 A.cr):=by rw [row_cell D4.out.mp.row 4,← HL.out];rfl
      have HP:=dhid (l1Put_dm (D4.out.below (Below.refl _ _).drew) 8192 HL.out 4096 z3 UZ.out (by omega))
      clear hz3
      go_wp2_with fail
      go_region_with (first | (go_at_call 110;with_reducible refine (HE.out _).mono ?_;rintro e wy ⟨rfl,rfl⟩) | (go_at_call 62;refine HP.out.mono ?_;rintro e wz ⟨rfl,M',DZ,HZ⟩))
      all_goals go_wp2_with fail
      all_goals refine bodyPost_end (results_none rfl _ _ _) rfl ?_
      all_goals exact ⟨rfl,M',DZ⟩

theorem l7DrawPaged_c {zs:List Int} {w0:World} {g:Nat} {a:Option Addr} {n cap:Nat} {w:World} {r m:Nat} {M:MV} {A:MA} {wr:World} (hcd:Code w0 a n zs) (h:Dm w0 g a n cap w r m M A wr) :
 Calls Tryz.prog 74 #[.pointer (some ⟨g,0,none⟩),.pointer (some ⟨m,0,none⟩)] wr fun e w'=>e=.returned (.tuple #[])∧∃ M':MV,Hid (Dm w0 g a n cap w r m M' A w'):=by
 rcases h.fit.ram with e | e
 ·exact l7DrawPaged_4096 hcd h e
 ·exact l7DrawPaged_8192 hcd h e

end Go.Proofs.YtkhofppmeoooaaaGreatDoor
