/- Own lemmas. -/
import Derived.Test.YtjifdmoehfbihaaGreatDoorAut
import Derived.Test.YtjifdmoehfbihaaGreatDoorK44
set_option maxRecDepth 100000
set_option maxHeartbeats 40000000
namespace Go.Proofs.YtjifdmoehfbihaaGreatDoor
open Go.RowKit Tryz
set_option linter.unusedVariables false
theorem GW (zs:List Int) (h:∀ y ∈ zs,(Lit.int .u8 y).wf=true) (f:Nat) (x:Int) (k:Nat):∀ y ∈ jZ zs f x k,(Lit.int .u8 y).wf=true:=λy b=>by have a:=JK zs (λz c=>by have:=h z c;simpa [Lit.wf,IntKind.min,IntKind.max,IntKind.signed,IntKind.bits] using this) f x k y b;exact TW a.1 a.2
theorem iL {W:World} {g:Nat} {cs:Array Value} {t:TypeId} (h:W.heap[g]?=some (.cells cs t (0,0))) (i:Nat):W.cell? ⟨g,i,none⟩=cs[i]?:=by simp [World.cell?,h]
def UG (M:MV) (v:Int):MV:={M with pr:=v}
def UO (M:MV) (v:Int):MV:={M with pc:=v}
def UP (M:MV) (v:Int):MV:={M with hd:=v}
def UQ (M:MV) (v:Bool):MV:={M with hl:=v}
def UR (M:MV) (v:Bool):MV:={M with wt:=v}
theorem Dm.setPr {w0:World} {g:Nat} {a:Option Addr} {n cap:Nat} {w:World} {r m:Nat} {M:MV} {A:MA} {wr:World} (h:Dm w0 g a n cap w r m M A wr) (v:Int) (hv:v=0\/v=1\/v=3):Dm w0 g a n cap w r m (UG M v) A (wr.setCell ⟨m,2,none⟩ (.i v)):=
 h.setF 2 (.i v) (M':=UG M v) rfl rfl ⟨h.fit.x,h.fit.ux,h.fit.cs,h.fit.ucs,h.fit.ram,h.fit.bram,h.fit.d,h.fit.pc,h.fit.hd,hv⟩
theorem Dm.setPc {w0:World} {g:Nat} {a:Option Addr} {n cap:Nat} {w:World} {r m:Nat} {M:MV} {A:MA} {wr:World} (h:Dm w0 g a n cap w r m M A wr) (v:Int) (hv:U v):Dm w0 g a n cap w r m (UO M v) A (wr.setCell ⟨m,0,none⟩ (.u v)):=
 h.setF 0 (.u v) (M':=UO M v) rfl rfl ⟨h.fit.x,h.fit.ux,h.fit.cs,h.fit.ucs,h.fit.ram,h.fit.bram,h.fit.d,hv,h.fit.hd,h.fit.pr⟩
theorem Dm.setHd {w0:World} {g:Nat} {a:Option Addr} {n cap:Nat} {w:World} {r m:Nat} {M:MV} {A:MA} {wr:World} (h:Dm w0 g a n cap w r m M A wr) (v:Int) (hv:U v):Dm w0 g a n cap w r m (UP M v) A (wr.setCell ⟨m,11,none⟩ (.u v)):=
 h.setF 11 (.u v) (M':=UP M v) rfl rfl ⟨h.fit.x,h.fit.ux,h.fit.cs,h.fit.ucs,h.fit.ram,h.fit.bram,h.fit.d,h.fit.pc,hv,h.fit.pr⟩
theorem Dm.setHl {w0:World} {g:Nat} {a:Option Addr} {n cap:Nat} {w:World} {r m:Nat} {M:MV} {A:MA} {wr:World} (h:Dm w0 g a n cap w r m M A wr) (v:Bool):Dm w0 g a n cap w r m (UQ M v) A (wr.setCell ⟨m,12,none⟩ (.bool v)):=
 h.setF 12 (.bool v) (M':=UQ M v) rfl rfl ⟨h.fit.x,h.fit.ux,h.fit.cs,h.fit.ucs,h.fit.ram,h.fit.bram,h.fit.d,h.fit.pc,h.fit.hd,h.fit.pr⟩
theorem Dm.setWt {w0:World} {g:Nat} {a:Option Addr} {n cap:Nat} {w:World} {r m:Nat} {M:MV} {A:MA} {wr:World} (h:Dm w0 g a n cap w r m M A wr) (v:Bool):Dm w0 g a n cap w r m (UR M v) A (wr.setCell ⟨m,13,none⟩ (.bool v)):=
 h.setF 13 (.bool v) (M':=UR M v) rfl rfl ⟨h.fit.x,h.fit.ux,h.fit.cs,h.fit.ucs,h.fit.ram,h.fit.bram,h.fit.d,h.fit.pc,h.fit.hd,h.fit.pr⟩
theorem Nt {M:MV} (h:Mf M):Mf (cC M):=⟨h.x,h.ux,by simp [cC,h.cs],FG h.ucs 9 (aP _),h.ram,h.bram,h.d,h.pc,h.hd,h.pr⟩
theorem qQ (M:MV) (A:MA):(aq M A).all (·.oneCell')=true:=by simp [aq,Value.oneCell']
theorem Dm.outM {w0:World} {g:Nat} {a:Option Addr} {n cap:Nat} {w:World} {m:Nat} {M:MV} {A:MA} {wr:World} (h:Dm w0 g a n cap w w.heap.size m M A wr) (cs:Array Value):bx w.heap.size (wr.setRow w.heap.size cs).heap.size (wr.setRow w.heap.size cs) (aI M A)/\Cs w0 g a n cap w (wr.setRow w.heap.size cs):=by
 have b:Below w.heap.size wr (wr.setRow w.heap.size cs):=bm (Below.refl _ _) (Nat.le_refl _) cs;have j:=h.gr;have r:=h.w0w;obtain ⟨i,l,o,c⟩:=h.cu.1.row;refine ⟨?_,⟨⟨h.cu.1.new,?_,i,l,o,(b.block g j).trans c⟩,⟨b.os.trans h.cu.2.os,b.tape.trans h.cu.2.tape,b.output.trans h.cu.2.output,Nat.le_trans h.cu.2.size b.size,λk d f=>(b.block k d).trans (h.cu.2.block k d f)⟩⟩⟩;·exact (E6 h.mp.fam w.heap.size (λq p e=>by have:=(h.mp.fam.own q p).lt _ e;omega) cs).low ab b.size
 ·exact ⟨b.os.trans h.cu.1.below.os,b.tape.trans h.cu.1.below.tape,b.output.trans h.cu.1.below.output,Nat.le_trans h.cu.1.below.size b.size,λk d=>(b.block k ab).trans (h.cu.1.below.block k d)⟩
theorem mL {w0:World} {g:Nat} {a:Option Addr} {n cap:Nat} {w:World} {r m:Nat} {M:MV} {A:MA} {wr:World} (h:Dm w0 g a n cap w r m M A wr) (L:Nat) (o:M.ram.length=L) (f:Nat) (x:Int) (hx:U x) (p:f+8<=L):Calls prog 119 #[.slice A.ar L A.cr,.u (2147483648+(f:Int)),.i 8,.u x] wr λe k=>e=.returned (.tuple #[])/\∃ j:MV,Hid (Dm w0 g a n cap w r m j A k)/\Hid (j.ram.length=L):=by
 subst o;have i:=h.fit.ram;have d:gn M.ram.length (2147483648+(f:Int)) 8=true:=by have b:aU M.ram.length=true:=(by rcases i with e|e<;>rw [e]<;>decide);have c:iW 8=true:=bb;simp only [gn,b,c,Bool.true_and,decide_eq_true_eq];omega
 refine (uU M A _ m _ 8 x wr (by rcases i with e | e<;>rw [e]<;>omega) d hx.1 (by have:=hx.2;omega) h.mp).mono λe k ⟨b,c,l⟩=>⟨b,_,aD (h.step (h.mp.under l) c ?_),aD (jd _ _ _ _)⟩;exact ⟨h.fit.x,h.fit.ux,h.fit.cs,h.fit.ucs,(by show (jZ M.ram _ x _).length=4096\/(jZ M.ram _ x _).length=8192;rw [jd];exact i),GW _ h.fit.bram _ _ _,h.fit.d,h.fit.pc,h.fit.hd,h.fit.pr⟩
theorem rX {zs:List Int} {w0:World} {g:Nat} {a:Option Addr} {n cap:Nat} {w:World} {r m:Nat} {M:MV} {A:MA} {wr:World} (F:Code w0 a n zs) (h:Dm w0 g a n cap w r m M A wr) (V:M.ram.length=4096):Calls prog 171 #[.p g 0,.p m 0] wr λe d=>e=.returned (.tuple #[])/\∃ l:MV,Hid (Dm w0 g a n cap w r m l A d):=by
 have R:Hid (Code w0 a n zs):=F;have c:=aD V;obtain ⟨E,cc,T,ec,cm,cells⟩:=h.atC;obtain ⟨X,Y⟩:=cells 15 ab;have o:wr.cell? ⟨m,4,none⟩=some (.slice A.ar 4096 A.cr):=by rw [iL h.mp.row 4,<- V];rfl
 have S:wr.cell? ⟨m,2,none⟩=some (.i M.pr):=iL h.mp.row 2;have J:¬ m=E:=λe=>h.mp.ne (aJ A.ac M.cs.length A.cc M.cs) dm (by simp only [aJ];rw [T,e];rfl);have W:¬ E=m:=λe=>J e.symm;have D:=aD (λv (N:U v)=>h.setC E T 15 N);clear F V h cells ec;go_enter func171,ntmps171;go_upto_if 30 with fail
 generalize N:IntKind.u64.wrap (bits BinOp.or IntKind.u64 9223372036854775808 524289-1)=t;have O:Hid (∃ M:MV,Dm w0 g a n cap w r m M A (wr.setCell ⟨E,15,none⟩ (.u t))/\M.ram.length=4096):=⟨_,D.out t (by rw [<- N];exact aP _),c.out⟩;generalize wr.setCell ⟨E,15,none⟩ (.u t)=w1 at O ⊢;generalize (M.pr==0)=p0;clear N D J W S o X Y cm T;go_cut [6] from 7 (λv wc=>∃ b:Int,v=.i b/\∃ (M:MV),Hid (Dm w0 g a n cap w r m M A wc)/\Hid (M.ram.length=4096))
 case first =>
  obtain ⟨M1,d1,l1⟩:=O.out;cases p0;·go_wp2_with fail;go_meet;exact ⟨207,rfl,M1,d1,l1⟩
  ·go_wp2_with fail;go_meet;exact ⟨223,rfl,M1,d1,l1⟩
 case rest =>
  clear O c;obtain ⟨b1,rfl,M,f,c⟩:=hcut;go_wp2_with fail;refine (bG R.out 2 ab _ f.out.cur).mono ?_;rintro e w2 ⟨S,rfl,G⟩;have P:=aD (f.out.next G.out);clear G f;go_upto_if 32 with fail
  go_cut [6] from 7 (λv wc=>∃ b:Int,v=.i b/\∃ (M:MV),Hid (Dm w0 g a n cap w r m M A wc)/\Hid (M.ram.length=4096))
  case first =>
   cases S;·go_wp2_with fail;go_meet;exact ⟨b1,rfl,M,P,c⟩
   ·go_wp2_with fail;go_meet;exact ⟨_,rfl,M,P,c⟩
  case rest =>
   clear P c;obtain ⟨b2,rfl,M,f,c⟩:=hcut;obtain ⟨Z,p⟩:∃ z,z=kt 524288 b2:=⟨_,rfl⟩;have u:Hid (∀ d,CE 222 #[.u 524288,.i b2] d (.u Z)):=λd=>by rw [p];exact gI _ _ d
   have B:Hid (U Z):=(by rw [p];exact oY _ _);have o:wc.cell? ⟨m,4,none⟩=some (.slice A.ar 4096 A.cr):=(by rw [iL f.out.mp.row 4,<- c.out];rfl);have y:=aD (mL (f.out.below (Below.refl _ _).drew) 4096 c.out 16 Z B.out ab);clear p;go_wp2_with fail;go_cut [] from 7 (λwc=>∃ (M:MV),Hid (Dm w0 g a n cap w r m M A wc)/\Hid (M.ram.length=4096))
   case first =>
    go_region_with (first | (go_at_call 222;with_reducible refine (u.out _).mono ?_;rintro e wy ⟨rfl,rfl⟩) | (go_at_call 119;refine y.out.mono ?_;rintro e wz ⟨rfl,l,C,L⟩));all_goals go_wp2_with fail
    all_goals go_meet
    all_goals exact ⟨l,C,L⟩
   case rest =>
    clear c f u B o y;obtain ⟨M,f,c⟩:=hcut;go_wp2_with fail;refine (bG R.out 2 ab _ f.out.cur).mono ?_;rintro e w3 ⟨c3,rfl,H⟩;have K:=aD (f.out.next H.out);clear H f;go_upto_if 45 with fail
    go_cut [] from 7 (λwc=>∃ (M:MV),Hid (Dm w0 g a n cap w r m M A wc)/\Hid (M.ram.length=4096))
    case first =>
     cases c3;·go_wp2_with fail;go_meet;exact ⟨M,K,c⟩
     ·obtain ⟨z2,q⟩:∃ z,z=kt 524288 223:=⟨_,rfl⟩;have u:Hid (∀ d,CE 222 #[.u 524288,.i 223] d (.u z2)):=λd=>by rw [q];exact gI _ _ d
      have B:Hid (U z2):=(by rw [q];exact oY _ _);have o:w3.cell? ⟨m,4,none⟩=some (.slice A.ar 4096 A.cr):=(by rw [iL K.out.mp.row 4,<- c.out];rfl);have y:=aD (mL (K.out.below (Below.refl _ _).drew) 4096 c.out 8 z2 B.out ab);clear q;go_wp2_with fail;go_region_with (first | (go_at_call 222;with_reducible refine (u.out _).mono ?_;rintro e wy ⟨rfl,rfl⟩) | (go_at_call 119;refine y.out.mono ?_;rintro e wz ⟨rfl,l,C,L⟩));all_goals go_wp2_with fail
      all_goals go_meet
      all_goals exact ⟨l,C,L⟩
    case rest =>
     clear K c;obtain ⟨M,f,c⟩:=hcut;go_wp2_with fail;refine (bG R.out 3 ab _ f.out.cur).mono ?_;rintro e w4 ⟨o,rfl,I⟩;have Q:=aD (f.out.next I.out);clear I f;cases o;·go_wp2_with fail;refine bodyPost_end (results_none rfl _ _ _) rfl ?_;exact ⟨rfl,M,Q⟩
     ·obtain ⟨z3,s⟩:∃ z,z=kt 0 207:=⟨_,rfl⟩;have u:Hid (∀ d,CE 222 #[.u 0,.i 207] d (.u z3)):=λd=>by rw [s];exact gI _ _ d
      have B:Hid (U z3):=(by rw [s];exact oY _ _);have o:w4.cell? ⟨m,4,none⟩=some (.slice A.ar 4096 A.cr):=(by rw [iL Q.out.mp.row 4,<- c.out];rfl);have y:=aD (mL (Q.out.below (Below.refl _ _).drew) 4096 c.out 0 z3 B.out ab);clear s;go_wp2_with fail;go_region_with (first | (go_at_call 222;with_reducible refine (u.out _).mono ?_;rintro e wy ⟨rfl,rfl⟩) | (go_at_call 119;refine y.out.mono ?_;rintro e wz ⟨rfl,l,C,L⟩));all_goals go_wp2_with fail
      all_goals refine bodyPost_end (results_none rfl _ _ _) rfl ?_
      all_goals exact ⟨rfl,l,C⟩
theorem rY {zs:List Int} {w0:World} {g:Nat} {a:Option Addr} {n cap:Nat} {w:World} {r m:Nat} {M:MV} {A:MA} {wr:World} (F:Code w0 a n zs) (h:Dm w0 g a n cap w r m M A wr) (V:M.ram.length=8192):Calls prog 171 #[.p g 0,.p m 0] wr λe d=>e=.returned (.tuple #[])/\∃ l:MV,Hid (Dm w0 g a n cap w r m l A d):=by
 have R:Hid (Code w0 a n zs):=F;have c:=aD V;obtain ⟨E,cc,T,ec,cm,cells⟩:=h.atC;obtain ⟨X,Y⟩:=cells 15 ab;have o:wr.cell? ⟨m,4,none⟩=some (.slice A.ar 8192 A.cr):=by rw [iL h.mp.row 4,<- V];rfl
 have S:wr.cell? ⟨m,2,none⟩=some (.i M.pr):=iL h.mp.row 2;have J:¬ m=E:=λe=>h.mp.ne (aJ A.ac M.cs.length A.cc M.cs) dm (by simp only [aJ];rw [T,e];rfl);have W:¬ E=m:=λe=>J e.symm;have D:=aD (λv (N:U v)=>h.setC E T 15 N);clear F V h cells ec;go_enter func171,ntmps171;go_upto_if 30 with fail
 generalize N:IntKind.u64.wrap (bits BinOp.or IntKind.u64 9223372036854775808 524290-1)=t;have O:Hid (∃ M:MV,Dm w0 g a n cap w r m M A (wr.setCell ⟨E,15,none⟩ (.u t))/\M.ram.length=8192):=⟨_,D.out t (by rw [<- N];exact aP _),c.out⟩;generalize wr.setCell ⟨E,15,none⟩ (.u t)=w1 at O ⊢;generalize (M.pr==0)=p0;clear N D J W S o X Y cm T;go_cut [6] from 7 (λv wc=>∃ b:Int,v=.i b/\∃ (M:MV),Hid (Dm w0 g a n cap w r m M A wc)/\Hid (M.ram.length=8192))
 case first =>
  obtain ⟨M1,d1,l1⟩:=O.out;cases p0;·go_wp2_with fail;go_meet;exact ⟨207,rfl,M1,d1,l1⟩
  ·go_wp2_with fail;go_meet;exact ⟨223,rfl,M1,d1,l1⟩
 case rest =>
  clear O c;obtain ⟨b1,rfl,M,f,c⟩:=hcut;go_wp2_with fail;refine (bG R.out 2 ab _ f.out.cur).mono ?_;rintro e w2 ⟨S,rfl,G⟩;have P:=aD (f.out.next G.out);clear G f;go_upto_if 32 with fail
  go_cut [6] from 7 (λv wc=>∃ b:Int,v=.i b/\∃ (M:MV),Hid (Dm w0 g a n cap w r m M A wc)/\Hid (M.ram.length=8192))
  case first =>
   cases S;·go_wp2_with fail;go_meet;exact ⟨b1,rfl,M,P,c⟩
   ·go_wp2_with fail;go_meet;exact ⟨_,rfl,M,P,c⟩
  case rest =>
   clear P c;obtain ⟨b2,rfl,M,f,c⟩:=hcut;obtain ⟨Z,p⟩:∃ z,z=kt 524288 b2:=⟨_,rfl⟩;have u:Hid (∀ d,CE 222 #[.u 524288,.i b2] d (.u Z)):=λd=>by rw [p];exact gI _ _ d
   have B:Hid (U Z):=(by rw [p];exact oY _ _);have o:wc.cell? ⟨m,4,none⟩=some (.slice A.ar 8192 A.cr):=(by rw [iL f.out.mp.row 4,<- c.out];rfl);have y:=aD (mL (f.out.below (Below.refl _ _).drew) 8192 c.out 4112 Z B.out ab);clear p;go_wp2_with fail;go_cut [] from 7 (λwc=>∃ (M:MV),Hid (Dm w0 g a n cap w r m M A wc)/\Hid (M.ram.length=8192))
   case first =>
    go_region_with (first | (go_at_call 222;with_reducible refine (u.out _).mono ?_;rintro e wy ⟨rfl,rfl⟩) | (go_at_call 119;refine y.out.mono ?_;rintro e wz ⟨rfl,l,C,L⟩));all_goals go_wp2_with fail
    all_goals go_meet
    all_goals exact ⟨l,C,L⟩
   case rest =>
    clear c f u B o y;obtain ⟨M,f,c⟩:=hcut;go_wp2_with fail;refine (bG R.out 2 ab _ f.out.cur).mono ?_;rintro e w3 ⟨c3,rfl,H⟩;have K:=aD (f.out.next H.out);clear H f;go_upto_if 45 with fail
    go_cut [] from 7 (λwc=>∃ (M:MV),Hid (Dm w0 g a n cap w r m M A wc)/\Hid (M.ram.length=8192))
    case first =>
     cases c3;·go_wp2_with fail;go_meet;exact ⟨M,K,c⟩
     ·obtain ⟨z2,q⟩:∃ z,z=kt 524288 223:=⟨_,rfl⟩;have u:Hid (∀ d,CE 222 #[.u 524288,.i 223] d (.u z2)):=λd=>by rw [q];exact gI _ _ d
      have B:Hid (U z2):=(by rw [q];exact oY _ _);have o:w3.cell? ⟨m,4,none⟩=some (.slice A.ar 8192 A.cr):=(by rw [iL K.out.mp.row 4,<- c.out];rfl);have y:=aD (mL (K.out.below (Below.refl _ _).drew) 8192 c.out 4104 z2 B.out ab);clear q;go_wp2_with fail;go_region_with (first | (go_at_call 222;with_reducible refine (u.out _).mono ?_;rintro e wy ⟨rfl,rfl⟩) | (go_at_call 119;refine y.out.mono ?_;rintro e wz ⟨rfl,l,C,L⟩));all_goals go_wp2_with fail
      all_goals go_meet
      all_goals exact ⟨l,C,L⟩
    case rest =>
     clear K c;obtain ⟨M,f,c⟩:=hcut;go_wp2_with fail;refine (bG R.out 3 ab _ f.out.cur).mono ?_;rintro e w4 ⟨o,rfl,I⟩;have Q:=aD (f.out.next I.out);clear I f;cases o;·go_wp2_with fail;refine bodyPost_end (results_none rfl _ _ _) rfl ?_;exact ⟨rfl,M,Q⟩
     ·obtain ⟨z3,s⟩:∃ z,z=kt 0 207:=⟨_,rfl⟩;have u:Hid (∀ d,CE 222 #[.u 0,.i 207] d (.u z3)):=λd=>by rw [s];exact gI _ _ d
      have B:Hid (U z3):=(by rw [s];exact oY _ _);have o:w4.cell? ⟨m,4,none⟩=some (.slice A.ar 8192 A.cr):=(by rw [iL Q.out.mp.row 4,<- c.out];rfl);have y:=aD (mL (Q.out.below (Below.refl _ _).drew) 8192 c.out 4096 z3 B.out ab);clear s;go_wp2_with fail;go_region_with (first | (go_at_call 222;with_reducible refine (u.out _).mono ?_;rintro e wy ⟨rfl,rfl⟩) | (go_at_call 119;refine y.out.mono ?_;rintro e wz ⟨rfl,l,C,L⟩));all_goals go_wp2_with fail
      all_goals refine bodyPost_end (results_none rfl _ _ _) rfl ?_
      all_goals exact ⟨rfl,l,C⟩
theorem xo {zs:List Int} {w0:World} {g:Nat} {a:Option Addr} {n cap:Nat} {w:World} {r m:Nat} {M:MV} {A:MA} {wr:World} (b:Code w0 a n zs) (h:Dm w0 g a n cap w r m M A wr):Calls prog 171 #[.p g 0,.p m 0] wr λe d=>e=.returned (.tuple #[])/\∃ c:MV,Hid (Dm w0 g a n cap w r m c A d):=by
 rcases h.fit.ram with e|e;·exact rX b h e
 ·exact rY b h e
theorem TX (x:Int):(Lit.int .i64 (wrap64 x)).wf=true:=by unfold wrap64;exact St ab ab
def Ins.wf (i:Ins):Prop:=(Lit.int .i64 i.op).wf=true/\(Lit.int .i64 i.rd).wf=true/\(Lit.int .i64 i.a).wf=true/\(Lit.int .i64 i.b).wf=true/\(Lit.int .i64 i.imm).wf=true
theorem Ins.wf_mk {a v1 v2 b c:Int} (d:(Lit.int .i64 a).wf=true) (e:(Lit.int .i64 v1).wf=true) (f:(Lit.int .i64 v2).wf=true) (g:(Lit.int .i64 b).wf=true) (h4:(Lit.int .i64 c).wf=true):(Ins.mk a v1 v2 b c).wf:=⟨d,e,f,g,h4⟩
def Ins.cells (i:Ins):Array Value:=#[.i i.op,.i i.rd,.i i.a,.i i.b,.i i.imm]
def Qt (w:World) (b:Nat):Prop:=∃ i:Ins,i.wf/\w.heap[b]?=some (.cells i.cells 69 (0,0))
def It (w0:World) (g:Nat) (a:Option Addr) (n cap:Nat) (w:World) (rb ib:Nat) (wr:World):Prop :=
 Cs w0 g a n cap w wr/\Qt wr rb/\Qt wr ib/\w.heap.size<=rb/\w.heap.size<=ib/\rb≠ib/\g<w.heap.size
theorem rZ {w:World} {g:Nat} {cs:Array Value} {t:TypeId} {a:Nat × Nat} (h:w.heap[g]?=some (.cells cs t a)) (i:Nat) (v:Value):(w.setCell ⟨g,i,none⟩ v).heap[g]?=some (.cells (cs.setIfInBounds i v) t a):=by simp [World.setCell,Array.getElem?_modify,h]
def Qu:Option Fm->ByteArray
 | none=>⟨#[]⟩
 | some f=>f.str
theorem PT (op:Int):∃ a:Option Fm,eU op=Qu a:=by
 unfold eU;split;·exact ⟨some _,rfl⟩
 ·exact ⟨none,rfl⟩
theorem Fa:(prog.info? 69).map (·.size)=some 5:=by kernel_rfl
theorem lM {w0:World} {g:Nat} {a:Option Addr} {n cap:Nat} {zs:List Int} (b:Code w0 a n zs) (d c:Int) (r : -4611686018427387904<=d) (s:c<=2305843009213693952) (t:d<=c) (u:c-d<=2305843009213693952) (w:World) (f:lL w0 w g a n cap):Calls prog 219 #[.p g 0,.i d,.i c] w λe o=>∃ x:Int,e=.returned (.i x)/\(d<=x/\x<=c)/\Hid (Cs w0 g a n cap w o):=by
 have l:Hid (Code w0 a n zs):=b;have j:Hid (lL w0 w g a n cap):=f;clear b f;go_enter func219,ntmps219;go_wp2_with fail;refine (aB l.out _ ?_ _ j.out).mono ?_;·first | omega | (unfold wrap64;omega)
 rintro e y ⟨x,rfl,⟨p,q⟩,m⟩;go_wp2_with fail;go_ret;refine ⟨_,rfl,?_,m⟩;first | (constructor<;>omega) | (unfold wrap64 at *;constructor<;>omega)
structure Cw (w0:World) (g:Nat) (a:Option Addr) (n cap:Nat) (w:World) (bs:List Nat) (R:List Rw) (W:World):Prop where
 cs:Cs w0 g a n cap w W
 iv:Iv bs W R W
 bw:∀ b ∈ bs,w.heap.size<=b
 lt:g<w.heap.size
section
variable {w0 : World} {g : Nat} {a : Option Addr} {n cap : Nat} {w W : World} {bs : List Nat} {R R1 : List Rw}
theorem Cw.cs2 (h:Cw w0 g a n cap w bs R W) {V:World} (k:Iv bs W R1 V):Cs w0 g a n cap w V:=by
 obtain ⟨b,l⟩:=h.cs;have o:g ∉ bs:=λe=>by have:=h.bw _ e;have:=h.lt;omega
 obtain ⟨i,x,q,c⟩:=b.row;have p:=(Array.getElem?_eq_some_iff.1 c).1;have f:=l.size;refine ⟨⟨b.new,⟨k.ag.os.trans b.below.os,k.ag.tape.trans b.below.tape,k.ag.output.trans b.below.output,Nat.le_trans b.below.size k.ag.size,λj d=>(k.ag.block j (Nat.lt_of_lt_of_le d b.below.size) λe=>?_).trans (b.below.block j d)⟩,i,x,q,(k.ag.block g p o).trans c⟩,⟨k.ag.os.trans l.os,k.ag.tape.trans l.tape,k.ag.output.trans l.output,Nat.le_trans f k.ag.size,λj d m=>(k.ag.block j (Nat.lt_of_lt_of_le d f) λe=>?_).trans (l.block j d m)⟩⟩;·have:=h.bw _ e;have:=h.lt;have:=b.new;omega
 ·have:=h.bw _ e;omega
theorem Cw.next (h:Cw w0 g a n cap w bs R W) {V V2:World} (k:Iv bs W R1 V) (hs:Cs w0 g a n cap V V2):Cw w0 g a n cap w bs R1 V2:=by have d:=h.cs2 k;refine ⟨d.trans hs,⟨λr c=>?_,Ag.refl _ _,k.sub,k.nd⟩,h.bw,h.lt⟩;obtain ⟨t,b⟩:=k.rows r c;exact ⟨t,hs.keep b (by have:=h.bw _ (k.sub r c);have:=h.lt;omega)⟩
theorem dK {P:Program} {fn:Func} {Rs:Ending->World->Prop} {b:Nat} {k:List KI} {F:Fr} (h:Cw w0 g a n cap w bs R W) (H:Hw P (Ag bs W)) (m:Nat) {f:Nat} {args:Array Value} {α:Type} {v:α->Value} {T:α->Prop}
 (j:∀ V,lL w0 V g a n cap->Calls P f args V (λe c=>∃ x:α,e=.returned (v x)/\T x/\Hid (Cs w0 g a n cap V c)))
 (i:∀ x V,T x->Cw w0 g a n cap w bs R1 V->Wg P (λ_=>True) (bodyPost P fn Rs) b (oI (ch P H b m k F R).1.2.2.1 (ch P H b m k F R).1.2.1) (pP (ch P H b m k F R).1.2.2.1 (ch P H b m k F R).1.2.1 (v x) 0) V)
 (hx:((ch P H b m k F R).1.1,(ch P H b m k F R).1.2.2.2,NB P b (ch P H b m k F R).1.2.2.1 (ch P H b m k F R).1.2.1)=(false,R1,some (f,args)):=by kernel_rfl) (he:(ch P H b m k F R).2.map Prod.fst=(ch P H b m k F R).2.map Prod.snd:=by kernel_rfl):Wg P (λ_=>True) (bodyPost P fn Rs) b k F W :=
 fx h.iv H m (Rc:=λV e c=>∃ x:α,e=.returned (v x)/\T x/\Hid (Cs w0 g a n cap V c)) (λV d=>j V (h.cs2 d).1) (λV e c d ⟨x,hx,o,l⟩=>⟨v x,0,hx,i x c o (h.next d l.out)⟩) hx he
end
theorem CF (x:Int):(Lit.int .i64 (IntKind.i64.wrap x)).wf=true:=by rw [IntKind.wrap_i64];exact St ab ab
abbrev Ri (rb ib:Nat) (i:Ins):List Rw:=[⟨rb,#[.i 0,.i 0,.i 0,.i 0,.i 0],[]⟩,⟨ib,i.cells,[]⟩]
section
variable {w0 : World} {g : Nat} {a : Option Addr} {n cap : Nat} {w W : World} {bs : List Nat} {rb ib : Nat} {i0 : Ins} {k : List KI} {F : Fr}
theorem gS (h:Cw w0 g a n cap w bs (Ri rb ib i0) W) (H:Hw prog (Ag bs W)) (m:Nat) (i:Ins) (d:i.wf:=by refine Ins.wf_mk ?_ ?_ ?_ ?_ ?_<;>first | exact St ab ab | exact CF _ | assumption) (hx:((ch prog H Tryz.f166.ntmps m k F (Ri rb ib i0)).1.1,(ch prog H Tryz.f166.ntmps m k F (Ri rb ib i0)).1.2.2.2,(lk (ch prog H Tryz.f166.ntmps m k F (Ri rb ib i0)).1.2.2.1 2).map Prod.fst)=(true,[⟨rb,i.cells,[]⟩,⟨ib,i.cells,[]⟩],some (.p rb 0)):=by kernel_rfl) (he:(ch prog H Tryz.f166.ntmps m k F (Ri rb ib i0)).2.map Prod.fst=(ch prog H Tryz.f166.ntmps m k F (Ri rb ib i0)).2.map Prod.snd:=by kernel_rfl):Wg prog (λ_=>True) (bodyPost prog Tryz.f166 (λe j=>∃ i:Ins,e=.returned i.val/\i.wf/\Hid (Cs w0 g a n cap w j))) Tryz.f166.ntmps k F W:=by simp only [Prod.mk.injEq] at hx;refine iw h.iv H m (hx:=t5) (he:=he) λV a c f=>?_;obtain ⟨t,b⟩:=c.rows _ (List.mem_cons_self ..);exact ⟨_,results_cell_row results166 _ _ rb _ _ _ _ (f.slot hx.2.2) b underlying69 rfl Fa,i,rfl,d,h.cs2 c⟩
end
theorem Nu {w0:World} {g:Nat} {a:Option Addr} {n cap:Nat} {zs:List Int} (k:Code w0 a n zs) (w:World) (hc:lL w0 w g a n cap):Calls prog 166 #[.p g 0] w λe w'=>∃ i:Ins,e=.returned i.val/\i.wf/\Hid (Cs w0 g a n cap w w'):=by
 have F:=hc.lt
 have A:∀ m:Int,0<m->∀ V,lL w0 V g a n cap->Calls prog 56 #[.p g 0,.i m] V λe B=>∃ x:Bool,e=.returned (.bool x)/\True/\Hid (Cs w0 g a n cap V B):=λm p V h=>(bG k m p V h).mono λe B ⟨x,h1,h3⟩=>⟨x,h1,trivial,h3⟩
 refine bz (S:=λ_=>True) (args:=[.p g 0]) [(#[.i 0,.i 0,.i 0,.i 0,.i 0],69)] func166 ?_
 have R:Cw w0 g a n cap w [w.heap.size] [⟨w.heap.size,#[.i 0,.i 0,.i 0,.i 0,.i 0],[]⟩] (bM w [(#[.i 0,.i 0,.i 0,.i 0,.i 0],69)]):=⟨Cs.alloc hc _,⟨λr v=>by
  obtain rfl:=List.mem_singleton.1 v
  exact ⟨_,heap_alloc_new _ _⟩,Ag.refl _ _,cp,cp⟩,cp,F⟩
 generalize bM w [(#[.i 0,.i 0,.i 0,.i 0,.i 0],69)]=W0 at *
 refine dK R {} 60 (R1:=[⟨w.heap.size,#[.i 0,.i 0,.i 0,.i 0,.i 0],[]⟩]) (aB k 98 ab) λop W1 K H=>?_
 obtain ⟨q,hq⟩:∃ q,IntKind.i64.wrap (1+op)=q:=⟨_,rfl⟩
 have L:(Lit.int .i64 q).wf=true:=by subst hq;exact CF _
 refine SZ H.iv {eq:=[(10,dI .i64 hq)]} 60 2 (R1:=[⟨w.heap.size,#[.i 0,.i 0,.i 0,.i 0,.i 0],[]⟩]) (λV=>V.alloc (.cells #[.i 0,.i 0,.i 0,.i 0,.i 0] 69)) (λV l=>dW (T:=69) (z:=.agg #[.i 0,.i 0,.i 0,.i 0,.i 0]) al V) (λV l=>?_)
 have G:w.heap.size<V.heap.size:=by
  obtain ⟨t,h⟩:=l.rows _ (List.mem_singleton_self _)
  exact (Array.getElem?_eq_some_iff.1 h).1
 have U:Cw w0 g a n cap w [w.heap.size,V.heap.size] (Ri w.heap.size V.heap.size ⟨0,0,0,0,0⟩) (V.alloc (.cells #[.i 0,.i 0,.i 0,.i 0,.i 0] 69)):=⟨(H.cs2 l).trans (Cs.alloc (H.cs2 l).1 _),⟨λr v=>by
  simp only [List.mem_cons,List.not_mem_nil,or_false] at v
  rcases v with rfl|rfl
  ·obtain ⟨t,h⟩:=l.rows _ (List.mem_singleton_self _)
   exact ⟨t,(Below.heap_alloc _ _ _ G).trans h⟩
  ·exact ⟨_,heap_alloc_new _ _⟩,Ag.refl _ _,cp,bh⟩,bh,F⟩
 clear R H l G K
 generalize V.alloc (.cells #[.i 0,.i 0,.i 0,.i 0,.i 0] 69)=W2 at *
 generalize V.heap.size=ib at *
 obtain ⟨Q,D⟩:∃ t,(q==98)=t:=⟨_,rfl⟩
 obtain ⟨O,d1⟩:∃ t,(q==63)=t:=⟨_,rfl⟩
 obtain ⟨P,d2⟩:∃ t,(q==74)=t:=⟨_,rfl⟩
 obtain ⟨fo,E⟩:=PT q
 have HF:=λV=>pS q L V
 rw [E] at HF
 clear E
 refine dK U {} 60 (R1:=Ri w.heap.size ib ⟨q,0,0,0,0⟩) (aB k 8 ab) λd W3 J X=>?_
 refine dK X {} 60 (R1:=Ri w.heap.size ib ⟨q,0,0,0,0⟩) (aB k 8 ab) λx W4 M Y=>?_
 refine dK Y {} 60 (R1:=Ri w.heap.size ib ⟨q,0,0,0,0⟩) (aB k 8 ab) λy W5 N Z=>?_
 refine dK Z {} 60 (R1:=Ri w.heap.size ib ⟨q,0,0,0,0⟩) (A 6 ab) λc W6 _ I=>?_
 have J:0<=d/\d<32:=ab
 have M:0<=x/\x<32:=ab
 have N:0<=y/\y<32:=ab
 clear U X Y Z
 cases c
 case' true =>
  clear J M N
  refine dK I {} 60 (R1:=Ri w.heap.size ib ⟨q,0,0,0,0⟩) (aB k 32 ab) λd W7 J C7=>?_
  refine dK C7 {} 60 (R1:=Ri w.heap.size ib ⟨q,0,0,0,0⟩) (aB k 32 ab) λx W8 M C8=>?_
  refine dK C8 {} 60 (R1:=Ri w.heap.size ib ⟨q,0,0,0,0⟩) (aB k 32 ab) λy W9 N I=>?_
 all_goals
  refine dK I {} 90 (R1:=Ri w.heap.size ib ⟨q,0,0,0,0⟩) (lM k (-40) 40 ab ab ab ab) λz W10 hz o=>?_
  refine fx o.iv {} 90 (R1:=Ri w.heap.size ib ⟨q,0,0,0,0⟩) (Rc:=λV e B=>e=.returned (.string (Qu fo))/\Bw V B) (λV _=>HF V) λV e B l v=>⟨_,0,v.1,?_⟩
  have C:=o.next l (Cs.of_below (o.cs2 l).1 v.2)
  clear l v I o
  cases fo
  case none=>exact gS C {} 160 ⟨q,0,0,0,0⟩
  rename_i f
  cases f
  case x =>
   exact gS C {} 160 ⟨q,0,0,0,0⟩
  case s =>
   exact gS C {} 160 ⟨q,0,x,y,z⟩
  case r =>
   cases Q
   case true=>exact gS C {eq:=[(41,aj D)]} 160 ⟨q,0,x,y,0⟩
   exact gS C {eq:=[(41,aj D)]} 160 ⟨q,d,x,y,0⟩
  case h =>
   exact dK C {} 160 (R1:=Ri w.heap.size ib ⟨q,d,x,0,0⟩) (aB k 64 ab) λm W p C=>gS C {} 160 ⟨q,d,x,0,m⟩
  case w =>
   exact dK C {} 160 (R1:=Ri w.heap.size ib ⟨q,d,x,0,0⟩) (aB k 32 ab) λm W p C=>gS C {} 160 ⟨q,d,x,0,m⟩
  case c =>
   exact dK C {} 160 (R1:=Ri w.heap.size ib ⟨q,d,x,0,0⟩) (vZ k) λm W p C=>gS C {} 160 ⟨q,d,x,0,m⟩
  case i =>
   refine dK C {} 160 (R1:=Ri w.heap.size ib ⟨q,d,x,0,z⟩) (A 6 ab) λc V _ C=>?_
   cases c
   case false=>exact gS C {} 160 ⟨q,d,x,0,z⟩
   exact dK C {} 160 (R1:=Ri w.heap.size ib ⟨q,d,x,0,z⟩) (lM k (-2048) 2047 ab ab ab ab) λi V hi C=>gS C {} 160 ⟨q,d,x,0,i⟩
  case b =>
   refine dK C {} 160 (R1:=Ri w.heap.size ib ⟨q,0,x,y,0⟩) (lM k (-3) 6 ab ab ab ab) λm V p C=>?_
   refine dK C {} 160 (R1:=Ri w.heap.size ib ⟨q,0,x,y,IntKind.i64.wrap (4*m)⟩) (A 6 ab) λc V _ C=>?_
   cases c
   case false=>exact gS C {} 160 ⟨q,0,x,y,IntKind.i64.wrap (4*m)⟩
   exact dK C {} 160 (R1:=Ri w.heap.size ib ⟨q,0,x,y,IntKind.i64.wrap (4*m)⟩) (lM k (-2048) 2047 ab ab ab ab) λi V hi C=>gS C {} 160 ⟨q,0,x,y,IntKind.i64.wrap (2*i)⟩
  case u =>
   refine dK C {} 160 (R1:=Ri w.heap.size ib ⟨q,d,0,0,0⟩) (lM k (-524288) 524287 ab ab ab ab) λm V p C=>?_
   refine dK C {} 160 (R1:=Ri w.heap.size ib ⟨q,d,0,0,IntKind.i64.wrap (4096*m)⟩) (A 2 ab) λc V _ C=>?_
   cases c
   case false=>exact gS C {} 160 ⟨q,d,0,0,IntKind.i64.wrap (4096*m)⟩
   exact gS C {} 160 ⟨q,d,0,0,-2147483648⟩
  case j =>
   refine dK C {} 160 (R1:=Ri w.heap.size ib ⟨q,d,0,0,0⟩) (lM k (-4) 8 ab ab ab ab) λm V p C=>?_
   refine dK C {} 160 (R1:=Ri w.heap.size ib ⟨q,d,0,0,IntKind.i64.wrap (4*m)⟩) (A 6 ab) λc V _ C=>?_
   cases c
   case false=>exact gS C {} 160 ⟨q,d,0,0,IntKind.i64.wrap (4*m)⟩
   exact dK C {} 160 (R1:=Ri w.heap.size ib ⟨q,d,0,0,IntKind.i64.wrap (4*m)⟩) (lM k (-524288) 524287 ab ab ab ab) λi V hi C=>gS C {} 160 ⟨q,d,0,0,IntKind.i64.wrap (2*i)⟩
  case a =>
   cases O<;>cases P
   case false.false=>exact dK C {eq:=[(133,aj d1),(137,aj d2)]} 160 (R1:=Ri w.heap.size ib ⟨q,d,x,y,0⟩) (aB k 4 ab) λm W p C=>gS C {} 160 ⟨q,d,x,y,m⟩
   all_goals exact dK C {eq:=[(133,aj d1),(137,aj d2)]} 160 (R1:=Ri w.heap.size ib ⟨q,d,x,0,0⟩) (aB k 4 ab) λm W p C=>gS C {} 160 ⟨q,d,x,0,m⟩
end Go.Proofs.YtjifdmoehfbihaaGreatDoor
