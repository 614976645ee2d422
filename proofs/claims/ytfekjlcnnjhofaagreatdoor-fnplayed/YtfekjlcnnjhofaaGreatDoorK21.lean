/- Own lemmas. -/
import Derived.Test.YtfekjlcnnjhofaaGreatDoorAut
import Derived.Test.YtfekjlcnnjhofaaGreatDoorK20
set_option maxRecDepth 100000
namespace Go.Proofs.YtfekjlcnnjhofaaGreatDoor
open Go.RowKit Tryz
open IntKind renaming u64->Uz
open Below renaming refl->A9
open Go renaming bodyPost->C5,World->C6,Value->D1,Calls->D2,heap_alloc_new->D3,bits->D4,results_none->D8,Program->F0
open List renaming mem_singleton->A5,length_set->A6,map_eq_nil_iff->A8
open Nat renaming zero_add->F3,le_refl->G1,le_trans->H8
open Prod renaming fst->I1,snd->I2
set_option linter.unusedVariables false
variable {M:MV} {B A w t g:Nat} {l K a:C6} {n:MA} {P:TV} {b:List Int} {c:Option Addr} {f:Int} {k:Func} {p:Ins} {x:F0} {F:Ending->C6->Prop} {Q:Array D1} {dr:Bool} (S:Ins) (W d:Int)
theorem DL (a:jT p) (b:63<=p.op) (c:p.op<=84):(bC p.op=4\/bC p.op=8)/\wN p.op=bC p.op/\wS p.op:=by obtain ⟨wn,d⟩:=(Iy a.op1 a.op98).2.2.2.2 ab;refine ⟨?_,wn,d⟩;unfold bC;split<;>simp
theorem IC (b:U f):f.tmod B=f%(B:Int):=Int.tmod_eq_emod_of_nonneg b.1
theorem TP {g:MA} (q:jT S) (hop:S.op=64\/S.op=75) (h:Tq B A l M g (t0 M S W) K) (J:Gd M): D2 prog 163 #[.p A 0] K (TR B A l (Pf false (je M S (M.x.getD S.a.toNat 0) (M.x.getD S.b.toNat 0)) S)):=by
 obtain ⟨hn,wn,ws⟩:=DL q ab ab;have hf:eM S.op=nu .sc (bC S.op:Nat) true:=by unfold eM;rw [JZ9 ab,JZ9 ab,JZ9 ab,JZ9 ab,JZ9 ab,JZ8 ab,JZ9 ab,JZ8 hop,wn,ws]
 have x:=J.x32;have ua:=J.ux S.a.toNat;have ub:=J.ux S.b.toNat;have k0:(na S.op==0)=false:=by unfold na;split<;>simp<;>omega
 have k1:(na S.op==1):=by unfold na;split<;>simp<;>omega
 have eV:je M S (M.x.getD S.a.toNat 0) (M.x.getD S.b.toNat 0)=if ((M.x.getD S.a.toNat 0).tmod (bC S.op:Nat) != 0)=true then (aR M 6 false (M.x.getD S.a.toNat 0),2) else if ((cq M (M.x.getD S.a.toNat 0) 3).code != 0)=true then (aR (dA M (M.x.getD S.a.toNat 0) 3) (cq M (M.x.getD S.a.toNat 0) 3).code.toNat false (M.x.getD S.a.toNat 0),2) else if ((dA M (M.x.getD S.a.toNat 0) 3).hl&&((dA M (M.x.getD S.a.toNat 0) 3).hd==(cq M (M.x.getD S.a.toNat 0) 3).addr))=true then (if ((aH (dA M (M.x.getD S.a.toNat 0) 3) (M.x.getD S.a.toNat 0) (bC S.op:Nat) 3 (M.x.getD S.b.toNat 0)).2.2 != 0)=true then cH (aH (dA M (M.x.getD S.a.toNat 0) 3) (M.x.getD S.a.toNat 0) (bC S.op:Nat) 3 (M.x.getD S.b.toNat 0)) 0 (M.x.getD S.a.toNat 0) else (aZ (cn (aH (dA M (M.x.getD S.a.toNat 0) 3) (M.x.getD S.a.toNat 0) (bC S.op:Nat) 3 (M.x.getD S.b.toNat 0)).2.1 false 0) S.rd 0 (Uz.wrap (M.pc+4)),1)) else (aZ (cn (dA M (M.x.getD S.a.toNat 0) 3) false 0) S.rd 1 (Uz.wrap (M.pc+4)),1):=by unfold je;rw [k0,k1,JZ9 bc,IC ua,JZ8 rfl];rfl
 rw [eV];clear eV k0 k1 wn ws;have o:=λwd (h:Tq B A l M g (t0 M S W) wd)=>DK h x q.a0 q.a31 .sc _ true hn hf;have j:=λwd (h:Tq B A l M g (t0 M S W) wd)=>IB h J rfl q.a0 q.a31 .sc _ true hn hf;have w:Gd (dA M (M.x.getD S.a.toNat 0) 3):=J.marked _;obtain ⟨T,i,hcc⟩:∃ c:Nat,c<16/\(cq M (M.x.getD S.a.toNat 0) 3).code=c:=l5 M.ram M.ram.length M.cs (gg M.cs M.pr 3) (M.x.getD S.a.toNat 0) 3;rw [show (t0 M S W).ra=S.a from rfl] at o j;have s:(dA M (M.x.getD S.a.toNat 0) 3).x=M.x:=rfl;generalize ea:M.x.getD S.a.toNat 0=a at *;generalize eb:M.x.getD S.b.toNat 0=b at *;generalize bC S.op=n at *;generalize dA M a 3=N at *;generalize cq M a 3=F at *;obtain ⟨p,fc,fm,ft,fe⟩:=F;dsimp only at *;subst hcc;obtain ⟨d,f⟩:∃ d:TV,d=t0 M S W:=⟨_,rfl⟩;have r:d.up=false:=by rw [f];rfl
 have hld:d.ld=.func (.func 122) #[] #[]:=by rw [f];rfl
 have E:d.ra=S.a:=by rw [f];rfl
 have G:d.rb=S.b:=by rw [f];rfl
 have w0:d.rd=S.rd:=by rw [f];rfl
 have m:d.fm=eM S.op:=by rw [f];rfl
 have O:d.nx=Uz.wrap (M.pc+4):=by rw [f];rfl
 rw [<- f] at h o j;clear f;refine fy (args:=[.p A 0]) (Tq B A l M g d) func163 ?_;refine aP 0 1 ?_;cases hz:(a.tmod n != 0) with
 | true =>rw [JZ8 rfl];refine aT (Tq.eng (dr:=true)) {} 60 h (λwd Y=>o wd Y hz) ?_;rintro W1 e W2 h1 ⟨rfl,u⟩;refine ⟨_,0,rfl,gi ba,?_⟩;exact Gk (R:=[]) trivial {} 40 ba ba rfl u ⟨iM (k:=6) rfl rfl,J,w0,m,λ_=>⟨6,bc,rfl⟩⟩
 | false =>
   rw [JZ9 bc];refine aT (Tq.eng (dr:=true)) {} 60 h (λwd Y=>j wd Y hz) ?_;rintro W1 e W2 h1 ⟨C,rfl,u⟩;refine ⟨_,0,rfl,gi ba,?_⟩;unfold zi at u;cases P:(((T:Nat):Int) != 0) with
   | true =>rw [P,JZ8 rfl] at u;rw [JZ8 rfl,Int.toNat_natCast];exact Gk (R:=[]) trivial {} 40 ba ba rfl u ⟨iM (k:=T) rfl rfl,w,w0,m,λ_=>⟨T,i,rfl⟩⟩
   | false =>
     rw [P,JZ9 bc] at u;rw [JZ9 bc];refine aj (R:=[]) trivial {} 14 ?_;refine af [.code (au 2 (aM Tryz.f163))] [(0,.p A 0,1),(2,.u p,0)] ?_;refine aL (λ_=>True) ?_;refine oJ (R1:=[⟨A,bI N C {d with rs:=1},[]⟩]) (Iv.one u.row) {} 7 λW3 h3=>?_;have U:=u.iv h3 rfl;refine af [.code (au 3 (aM Tryz.f163))] [(0,.p A 0,1),(2,.u p,0)] ?_;have no:∀ (H:Hw prog (Ag [A] W3)),(N.hl&&(N.hd==p))=false->((cw prog H Tryz.f163.ntmps 60 [.code (au 3 (aM Tryz.f163))] [(0,.p A 0,1),(2,.u p,0)] [⟨A,bI N C {d with rs:=1},[]⟩]).1.1,(cw prog H Tryz.f163.ntmps 60 [.code (au 3 (aM Tryz.f163))] [(0,.p A 0,1),(2,.u p,0)] [⟨A,bI N C {d with rs:=1},[]⟩]).1.2.2.2)=(false,[⟨A,bI (cn N false 0) C {d with rs:=1},[]⟩]) ->
      (cw prog H Tryz.f163.ntmps 60 [.code (au 3 (aM Tryz.f163))] [(0,.p A 0,1),(2,.u p,0)] [⟨A,bI N C {d with rs:=1},[]⟩]).1.2.1.isEmpty->(cw prog H Tryz.f163.ntmps 60 [.code (au 3 (aM Tryz.f163))] [(0,.p A 0,1),(2,.u p,0)] [⟨A,bI N C {d with rs:=1},[]⟩]).2.map I1=(cw prog H Tryz.f163.ntmps 60 [.code (au 3 (aM Tryz.f163))] [(0,.p A 0,1),(2,.u p,0)] [⟨A,bI N C {d with rs:=1},[]⟩]).2.map I2 ->
      Wg prog (λ_=>True) (C5 prog Tryz.f163 (TR B A l (Pf false (if (N.hl&&(N.hd==p))=true then (if ((aH N a n 3 b).2.2 != 0)=true then cH (aH N a n 3 b) 0 a else (aZ (cn (aH N a n 3 b).2.1 false 0) S.rd 0 (Uz.wrap (M.pc+4)),1)) else (aZ (cn N false 0) S.rd 1 (Uz.wrap (M.pc+4)),1)) S))) Tryz.f163.ntmps [.code (au 3 (aM Tryz.f163))] [(0,.p A 0,1),(2,.u p,0)] W3:=by
      intro H hn0 hx hz1 he
      rw [hn0,JZ9 bc]
      refine gt (Iv.one U.row) H 60 (hx:=hx) (hz:=hz1) (he:=he) λW5 V=>⟨rfl,cn N false 0,C,{d with rs:=1},?_,U.iv V rfl⟩
      refine ⟨?_,w.hold me (Or.inr rfl),w0,m,λe=>by rw [show TV.up {d with rs:=1}=d.up from rfl,r] at e;cases e⟩
      rw [jk (t:={d with rs:=1}) r,<- O,<- w0]
     cases z:N.hl with
     | false =>have:=no {eq:=[(18,an z)]} (by rw [z];rfl) ba ba ba;rw [z] at this;exact this
     | true =>
       cases Q:(N.hd==p) with
       | false =>have:=no {eq:=[(18,an z),(26,an Q)]} (by rw [z,Q];rfl) ba ba ba;rw [z,Q] at this;exact this
       | true =>
         clear no;rw [JZ8 bc];have V:=U;have ga:=w.acc a n 3 b;have Z:=λwd (h:Tq B A l N C {d with rs:=1} wd)=>Wh h (by rw [s];exact x) (show 0<=d.ra by rw [E];exact q.a0) (show d.ra<=31 by rw [E];exact q.a31) (v:=a) (show N.x.getD d.ra.toNat 0=a by rw [s,E];exact ea);have hb2:=λwd (h:Tq B A l N C {d with rs:=1} wd)=>Ww h (by rw [s];exact x) (show 0<=d.rb by rw [G];exact q.b0) (show d.rb<=31 by rw [G];exact q.b31) (v:=b) (show N.x.getD d.rb.toNat 0=b by rw [s,G];exact eb);have hst:=λwd (h:Tq B A l N C {d with rs:=1} wd)=>Bb h w (show d.ld=_ from hld) .sc n true ab (show d.fm=_ by rw [m,hf]) a b ua ub;have hrf:=λX (hX:aH N a n 3 b=X) P=>nj (cf:=false) (i:=S) (t:={d with rs:=1}) hX w P w0 m;generalize aH N a n 3 b=X at *;obtain ⟨y,N2,c2⟩:=X;dsimp only at *;refine aL (Tq B A l N C {d with rs:=1}) ?_;refine aT (Tq.eng (dr:=true)) {eq:=[(18,an z),(26,an Q)],cv:=[(30,ue Z),(32,ue hb2)]} 80 V hst ?_;rintro W6 e W7 h6 ⟨D,rfl,I⟩;refine ⟨_,0,rfl,gi ba,?_⟩;cases L:(c2 != 0) with
         | true =>rw [JZ8 rfl];exact Gk (R:=[]) trivial {} 40 ba ba rfl I (hrf _ rfl L)
         | false =>rw [JZ9 bc];unfold nU at I;dsimp only at I;rw [L,JZ9 bc] at I;refine aL (λ_=>True) ?_;refine gt (R1:=[⟨A,bI (cn N2 false 0) D {d with rs:=0},[]⟩]) (Iv.one I.row) {} 60 λW8 h8=>⟨rfl,cn N2 false 0,D,{d with rs:=0},?_,I.iv h8 rfl⟩;refine ⟨?_,ga.hold me (Or.inr rfl),w0,m,λe=>by rw [show TV.up {d with rs:=0}=d.up from rfl,r] at e;cases e⟩;rw [jk (t:={d with rs:=0}) r,<- O,<- w0]
theorem U8 (q:jT S) (h63:63<=S.op) (h84:S.op<=84) (hop:¬ (S.op=63\/S.op=74)/\¬ (S.op=64\/S.op=75)) (h:Tq B A l M n (t0 M S W) K) (T:Gd M) (hd:Ud M.d): D2 prog 164 #[.p A 0] K (TR B A l (Pf false (je M S (M.x.getD S.a.toNat 0) (M.x.getD S.b.toNat 0)) S)):=by
 obtain ⟨hn,wn,ws⟩:=DL q h63 h84;have hf:eM S.op=nu .am (bC S.op:Nat) true:=by unfold eM;rw [JZ9 ab,JZ9 ab,JZ9 ab,JZ9 ab,JZ9 ab,JZ8 ab,JZ9 hop.1,JZ9 hop.2,wn,ws]
 have u:=T.x32;have ua:=T.ux S.a.toNat;have ub:=T.ux S.b.toNat;have k0:(na S.op==0)=false:=by unfold na;split<;>simp<;>omega
 have k1:(na S.op==1)=false:=by unfold na;split<;>simp<;>omega
 have eV:∀ (a b:Int) (N:MV) (w:Nat),a=M.x.getD S.a.toNat 0->b=M.x.getD S.b.toNat 0->N=dA M a 3->w=bC S.op->je M S a b=if (a.tmod w != 0)=true then (aR M 6 false a,2) else if ((cq M a 3).code != 0)=true then (aR N (cq M a 3).code.toNat false a,2) else if ((aH N a w 2 0).2.2 != 0)=true then cH (aH N a w 2 0) 2 a else if ((aH (aH N a w 2 0).2.1 a w 3 (jd S.op (aH N a w 2 0).1 b)).2.2 != 0)=true then cH (aH (aH N a w 2 0).2.1 a w 3 (jd S.op (aH N a w 2 0).1 b)) 0 a else (aZ (aH (aH N a w 2 0).2.1 a w 3 (jd S.op (aH N a w 2 0).1 b)).2.1 S.rd (ay (8*w) (aH N a w 2 0).1) (Uz.wrap (M.pc+4)),1):=by intro a b N w e1 e2 e3 e4;subst e1 e2 e3 e4;unfold je;rw [k0,k1,JZ9 bc,IC ua,JZ9 (show ¬ (false) by decide)];rfl
 rw [eV _ _ _ _ rfl rfl rfl rfl];clear eV k0 k1 wn ws;have o:=λwd (h:Tq B A l M n (t0 M S W) wd)=>DK h u q.a0 q.a31 .am _ true hn hf;have m:=λwd (h:Tq B A l M n (t0 M S W) wd)=>IB h T rfl q.a0 q.a31 .am _ true hn hf;have gl:Gd (dA M (M.x.getD S.a.toNat 0) 3):=T.marked _;have dl:Ud (dA M (M.x.getD S.a.toNat 0) 3).d:=hd;obtain ⟨cc,c16,hcc⟩:∃ c:Nat,c<16/\(cq M (M.x.getD S.a.toNat 0) 3).code=c:=l5 M.ram M.ram.length M.cs (gg M.cs M.pr 3) (M.x.getD S.a.toNat 0) 3;rw [show (t0 M S W).ra=S.a from rfl] at o m;have O:(dA M (M.x.getD S.a.toNat 0) 3).x=M.x:=rfl;generalize ea:M.x.getD S.a.toNat 0=a at *;generalize eb:M.x.getD S.b.toNat 0=b at *;generalize bC S.op=w at *;generalize dA M a 3=N at *;generalize cq M a 3=F at *;obtain ⟨pa,fc,fm,ft,fe⟩:=F;dsimp only at *;subst hcc;obtain ⟨g,f⟩:∃ g:TV,g=t0 M S W:=⟨_,rfl⟩;have hup:g.up=false:=by rw [f];rfl
 have hld:g.ld=.func (.func 122) #[] #[]:=by rw [f];rfl
 have H:g.ra=S.a:=by rw [f];rfl
 have hrb:g.rb=S.b:=by rw [f];rfl
 have I:g.rd=S.rd:=by rw [f];rfl
 have hto:g.op=S.op:=by rw [f];rfl
 have p:g.fm=eM S.op:=by rw [f];rfl
 have hnx:g.nx=Uz.wrap (M.pc+4):=by rw [f];rfl
 rw [<- f] at h o m;clear f;refine fy (args:=[.p A 0]) (Tq B A l M n g) func164 ?_;refine aP 0 1 ?_;cases hz:(a.tmod w != 0) with
 | true =>rw [JZ8 rfl];refine aT (Tq.eng (dr:=true)) {} 60 h (λwd hW=>o wd hW hz) ?_;rintro W1 e W2 h1 ⟨rfl,w0⟩;refine ⟨_,0,rfl,gi ba,?_⟩;exact Gk (R:=[]) trivial {} 40 ba ba rfl w0 ⟨iM (k:=6) rfl rfl,T,I,p,λ_=>⟨6,bc,rfl⟩⟩
 | false =>
   rw [JZ9 bc];refine aT (Tq.eng (dr:=true)) {} 60 h (λwd hW=>m wd hW hz) ?_;rintro W1 e W2 h1 ⟨C,rfl,w0⟩;refine ⟨_,0,rfl,gi ba,?_⟩;unfold zi at w0;cases hc:(((cc:Nat):Int) != 0) with
   | true =>rw [hc,JZ8 rfl] at w0;rw [JZ8 rfl,Int.toNat_natCast];exact Gk (R:=[]) trivial {} 40 ba ba rfl w0 ⟨iM (k:=cc) rfl rfl,gl,I,p,λ_=>⟨cc,c16,rfl⟩⟩
   | false =>
     rw [hc,JZ9 bc] at w0;rw [JZ9 bc];refine aj (R:=[]) trivial {} 13 ?_;refine af [.code (au 1 (aM Tryz.f164))] [(0,.p A 0,1)] ?_;have ha2:=λwd (h:Tq B A l N C g wd)=>Wh h (by rw [O];exact u) (by rw [H];exact q.a0) (by rw [H];exact q.a31) (v:=a) (by rw [O,H];exact ea);have hl2:=λwd (h:Tq B A l N C g wd)=>Gj h gl hld .am w true ab (by rw [p,hf]) a ua;have ga:=gl.acc a w 2 0;have da:=AM dl a w 2 me;have uy:=tX gl dl a w ab 2 0;have r:=(jc N a w 2 0).2.1;have e18:=λc=>AL (M:=N) (addr:=a) (size:=w) (x:=0) (c:=c);rw [O] at r;generalize aH N a w 2 0=X at *;obtain ⟨y,s,V⟩:=X;dsimp only at *;refine aL (Tq B A l N C g) ?_;refine aT (Tq.eng (dr:=true)) {cv:=[(18,ue ha2)]} 60 w0 hl2 ?_;rintro W3 e W4 h3 ⟨D,rfl,G⟩;refine ⟨_,0,rfl,gi ba,?_⟩;unfold t8 nU at G;dsimp only at G;cases L:(V != 0) with
     | true =>obtain ⟨q1,q2,q3⟩:=e18 V rfl L;rw [L,JZ8 rfl,JZ8 rfl] at G;rw [JZ8 rfl];refine aL (λ_=>True) ?_;rw [q1] at G;refine px (R1:=[⟨A,bI s D {g with up:=true,cz:=(((V-16).toNat+2:Nat):Int),vl:=a},[]⟩]) (Iv.one G.row) {eq:=[(28,cR .i64 q2)]} 60 λW5 h5=>⟨rfl,s,D,{g with up:=true,cz:=(((V-16).toNat+2:Nat):Int),vl:=a},?_,G.iv h5 rfl⟩;exact ⟨iM (k:=(V-16).toNat+2) rfl rfl,ga,I,p,λ_=>⟨_,q3,rfl⟩⟩
     | false =>
       rw [L,JZ9 bc,JZ8 rfl] at G;rw [JZ9 bc];refine aj (R:=[]) trivial {} 14 ?_;refine af [.code (au 3 (aM Tryz.f164))] [(0,.p A 0,1),(4,.u y,0)] ?_;obtain ⟨j,d⟩:∃ j:TV,j={g with rs:=ay (8*w) y}:=⟨_,rfl⟩;have up2:j.up=false:=(by rw [d];exact hup);have ld2:j.ld=.func (.func 122) #[] #[]:=(by rw [d];exact hld);have P:j.ra=S.a:=(by rw [d];exact H);have Q:j.rb=S.b:=(by rw [d];exact hrb);have i:j.rd=S.rd:=(by rw [d];exact I);have to2:j.op=S.op:=(by rw [d];exact hto);have J:j.fm=eM S.op:=(by rw [d];exact p);have nx2:j.nx=Uz.wrap (M.pc+4):=(by rw [d];exact hnx);have rs2:j.rs=ay (8*w) y:=(by rw [d]);rw [<- d] at G;clear d;have uv:U (jd S.op y b):=Im S.op uy ub;have ha3:=λwd (h:Tq B A l s D j wd)=>Wh h (by rw [r];exact u) (by rw [P];exact q.a0) (by rw [P];exact q.a31) (v:=a) (by rw [r,P];exact ea);have hb3:=λwd (h:Tq B A l s D j wd)=>Ww h (by rw [r];exact u) (by rw [Q];exact q.b0) (by rw [Q];exact q.b31) (v:=b) (by rw [r,Q];exact eb);have hm3:=λwd (_:Tq B A l s D j wd)=>Dn S.op y b (tW ab ab) uy.1 uy.2 ub.1 ub.2 wd;have hst:=λwd (h:Tq B A l s D j wd)=>Bb h ga ld2 .am w true ab (by rw [J,hf]) a (jd S.op y b) ua uv;have gb:=ga.acc a w 3 (jd S.op y b);have hrf:=λX (hX:aH s a w 3 (jd S.op y b)=X) hc=>nj (cf:=false) (i:=S) (t:=j) hX ga hc i J;generalize jd S.op y b=z at *;generalize sP S.op=zb at *;generalize aH s a w 3 z=Y at *;obtain ⟨y3,N3,c3⟩:=Y;dsimp only at *;refine aL (Tq B A l s D j) ?_;refine aT (Tq.eng (dr:=true)) {eq:=[(36,cR .i64 to2)],cv:=[(39,ue hb3),(40,O0 hm3),(45,ue ha3)]} 80 G hst ?_;rintro W5 e W6 h5 ⟨E,rfl,h6⟩;refine ⟨_,0,rfl,gi ba,?_⟩;refine iL {} 40 ba ba rfl ⟨rfl,N3,E,_,?_,h6⟩;cases Z:(c3 != 0) with
       | true =>rw [JZ8 rfl];exact hrf _ rfl Z
       | false =>rw [JZ9 bc];unfold nU;dsimp only;rw [Z,JZ9 bc];refine ⟨?_,gb,i,J,λe=>by rw [up2] at e;cases e⟩;rw [jk up2,nx2,i,rs2]
structure Tz (B g:Nat) (w0:C6) (M:MV) (A:MA) (t:TV) (K:Nat) (a':Option Addr) (c':Nat) (l:List Int) (W:C6):Prop where
 q:Tq B g w0 M A t W
 f:bj B K W (aF M A)
 o:W.ownsRow K 24 1 (.slice a' l.length c') l.length (l.map (Value.int .u64))
 bk:B<=K
 kw:K<=W.heap.size
 gk:g<K
def Wi:Go.Code->Go.Code
 | .block _ c=>c
 | c=>c
theorem Tz.below (h:Tz B g l M n P A c w b K) (hb:Bw K a):Tz B g l M n P A c w b a :=
 ⟨h.q.below hb,h.f.below hb,dQ h.o λk e=>hb.block k (h.o.lt k e).2,h.bk,H8 h.kw hb.size,h.gk⟩
theorem Tz.iv {t':TV} (h:Tz B A l M n P w c t b K) (k:Iv [A] K [⟨A,bI M n t',[]⟩] a):Tz B A l M n t' w c t b a:=by have g:=h.gk;exact ⟨h.q.iv k rfl,h.q.other h.f k,dQ h.o λi e=>k.ag.block i (h.o.lt i e).2 (by rw [A5];have:=(h.o.lt i e).1;omega),h.bk,H8 h.kw k.ag.size,h.gk⟩
theorem Tz.eng {K:TV} {P:F0} {fn:Func} {Rs:Ending->C6->Prop}:n6 P (Tz B A l M n K w c t b) (Tz B A l M n K w c t b) [⟨A,bI M n K,[]⟩] dr (C5 P fn Rs):=
 ⟨λ_ h=>h,λW h r a=>by rw [A5] at a;subst a;exact h.q.row.in_,λ_ W h=>h.below (A9 _ _).drew,cD⟩
theorem Tz.eng2 {w0:Nat} {a2:Option Addr} {c2:Nat} {c':List Int}:n6 x (Tz B A l M n P w c t b) (λW=>Tz B A l M n P w c t b W/\Tz B A l M n P w0 a2 c2 c' W) [⟨A,bI M n P,[]⟩] dr (C5 x k F):=
 ⟨λ_ h=>h.1,λW h r a=>by rw [A5] at a;subst a;exact h.q.row.in_,λ_ W h=>⟨h.1.below (A9 _ _).drew,h.2.below (A9 _ _).drew⟩,cD⟩
def WX {B g K:Nat} {w0:C6} {M:MV} {A:MA} {t:TV} {a':Option Addr} {c':Nat} {l:List Int} {P:F0} {f:Nat} {args:Array D1} {v:D1} (h:∀ W,Tz B g w0 M A t K a' c' l W->D2 P f args W λe w'=>e=.returned v/\Iv [g] W [⟨g,bI M A t,[]⟩] w'):Cv P (Tz B g w0 M A t K a' c' l):=⟨f,args,v,0,λW a=>(h W a).mono λe w' k=>⟨k.1,a.iv k.2⟩⟩
theorem Tz.set {A:MA} {c':Nat} {g:List Int} {b:Nat} (h:Tz B w l M A P t (some ⟨b,0,none⟩) c' g K) (i:Nat) (v:Int):Tz B w l M A P t (some ⟨b,0,none⟩) c' (g.set i v) (K.setCell ⟨b,i,none⟩ (.u v)):=by
 have f:=h.o.stored i (.u v);rw [lC] at f;have n:=(h.o.lt b rfl).1;have c:∀ k,k≠b->(K.setCell ⟨b,i,none⟩ (.u v)).heap[k]?=K.heap[k]?:=λk c=>Below.heap_setCell K _ _ k c;have a:(K.setCell ⟨b,i,none⟩ (.u v)).heap.size=K.heap.size:=aO _ _ _;have p:=h.bk;have o:=h.gk;refine ⟨⟨?_,?_,h.q.ne,by rw [a];exact h.q.le,h.q.os,h.q.tape,h.q.output,by rw [a];exact h.q.size,λk j d=>(c k ab).trans (h.q.block k j d),h.q.t0,h.q.tb,h.q.tn⟩,h.f.mono λk _ d _=>c k ab,?_,h.bk,by rw [a];exact h.kw,h.gk⟩;·obtain ⟨T,m⟩:=h.q.row;exact ⟨T,(c w ab).trans m⟩
 ·rw [a];have e:t<=K.heap.size:=(by have:=(h.o.lt b rfl).2;omega);exact (h.f.mono λk _ d _=>c k ab).low (G1 _) e
 ·rw [A6];exact f.1
theorem Tz.csrs {M':MV} {t':TV} (h:Tz B A l M n P w c t b K) (g:M'.x=M.x/\M'.cs=b/\M'.ram=M.ram/\M'.d=M.d) (k:Iv [A] K [⟨A,bI M' {n with ac:=c,cc:=t} t',[]⟩] a):Tq B A l M' {n with ac:=c,cc:=t} t' a:=by
 have w':=h.gk;have o:=dQ (w':=a) h.o λi e=>k.ag.block i (h.o.lt i e).2 (by rw [A5];have:=(h.o.lt i e).1;omega);have a':w<=a.heap.size:=H8 h.kw k.ag.size;have f:=h.q.other h.f k;have d:=AZ (L1:=[aG n.ax M.x.length n.cx M.x]) (L2:=[aE n.ar M.ram.length n.cr M.ram,aE n.ai M.d.xs.length n.ci M.d.xs,aE n.ao M.d.ys.length n.co M.d.ys]) (r:=aG n.ac M.cs.length n.cc M.cs) (q:=aG c b.length t b) h.q.ne λe=>by have:=(o.lt A e).1;omega
 refine h.q.iv1 k ?_ (by unfold aF;rw [g.1,g.2.1,g.2.2.1,g.2.2.2];exact d);unfold aF;rw [g.1,g.2.1,g.2.2.1,g.2.2.2];exact bj.swap (L1:=[aG n.ax M.x.length n.cx M.x]) (r:=aG n.ac M.cs.length n.cc M.cs) (L2:=[aE n.ar M.ram.length n.cr M.ram,aE n.ai M.d.xs.length n.ci M.d.xs,aE n.ao M.d.ys.length n.co M.d.ys]) f (aG c b.length t b) o h.bk a' (G1 _)
theorem Tz.at_ (h:Tz B A l M n P w c t b K) (a:b.length=22):∃ a',c=some ⟨a',0,none⟩/\∀ j,j<22->K.cell? ⟨a',j,none⟩=some (.u (b.getD j 0))/\K.frozen? ⟨a',j,none⟩=false:=by obtain ⟨a',w0,e,d⟩:=pK h.o a ab;exact ⟨a',w0,d⟩
theorem KG (h:Tq B A l M n P K) (c:M.x.length=32) (f:0<=P.ra) (i:P.ra<=31) (g:87<=P.op/\P.op<=92):D2 prog 198 #[.p A 0,.u W] K λe w'=>e=.returned (.u (qd P.op W (if 90<=P.op then Uz.wrap P.ra else M.x.getD P.ra.toNat 0)))/\Iv [A] K [⟨A,bI M n P,[]⟩] w':=by obtain ⟨b,j,d,k⟩:=h.atX c;have:=KD (x:=M.x.getD (0+P.ra.toNat) 0) W h.row ab j ⟨f,ab⟩ d (k (0+P.ra.toNat) ab).1;rw [F3] at this;exact this
theorem QW (c:87<=S.op) (old:S.op<=92):um S W d=qd S.op d (if 90<=S.op then Uz.wrap S.a else W):=by
 obtain ⟨b,h,f,g,e⟩:=S;dsimp only at c old;unfold um qd mc;dsimp only;obtain rfl|rfl|rfl|rfl|rfl|rfl:b=87\/b=88\/b=89\/b=90\/b=91\/b=92:=ab
 all_goals rfl
theorem Va (hi:jT S) (h87:87<=S.op) (h92:S.op<=92) (h:Tq B A K M n (t0 M S W) a) (Z:Gd M): D2 prog 165 #[.p A 0] a (TR B A K (Pf true (nR M S (M.x.getD S.a.toNat 0) W) S)):=by
 obtain ⟨G,hcs,hpr,_,_,_⟩:=aN Z.ok;have h32:=Z.x32;have ua:=Z.ux S.a.toNat;have uc:=Z.mw.cs;obtain ⟨V,hV⟩:∃ V,nR M S (M.x.getD S.a.toNat 0) W=V:=⟨_,rfl⟩;rw [hV];have D:=λwd (h:Tq B A K M n (t0 M S W) wd)=>uk n.ac M.cs.length n.cc M.cs S.imm M.pr wd rfl h.sl.cs uc;rw [Mn _ _ uc,vY _ _ uc] at D;obtain ⟨d,p⟩:∃ d:TV,d=t0 M S W:=⟨_,rfl⟩;have L:d.up=false:=by rw [p];rfl
 have w:d.ra=S.a:=by rw [p];rfl
 have s:d.rd=S.rd:=by rw [p];rfl
 have C:d.fm=eM S.op:=by rw [p];rfl
 have g:d.nx=Uz.wrap (M.pc+4):=by rw [p];rfl
 have hwd:d.wd=W:=by rw [p];rfl
 have m:d.op=S.op:=by rw [p];rfl
 have him:d.im=S.imm:=by rw [p];rfl
 rw [<- p] at h D;clear p;refine fy (args:=[.p A 0]) (Tq B A K M n d) func165 ?_;refine aP 0 1 ?_; -- refused
 have bad:∀ (i:C6->Prop) (w0:TV),w0.wd=W->w0.rd=S.rd->w0.fm=eM S.op->V=(aR M 2 false W,2)->∀ (H:Hn prog (Tq B A K M n w0) (Tq B A K M n w0)) (k:List KI) (F:Fr) (wd:C6),Tq B A K M n w0 wd->iw k->((be prog [⟨A,bI M n w0,[]⟩] H Tryz.f165.ntmps true 60 k F).1.1,Jf prog Tryz.f165.ntmps (be prog [⟨A,bI M n w0,[]⟩] H Tryz.f165.ntmps true 60 k F).1.2.2 (be prog [⟨A,bI M n w0,[]⟩] H Tryz.f165.ntmps true 60 k F).1.2.1)=(false,some (153,#[.p A 0]))->(be prog [⟨A,bI M n w0,[]⟩] H Tryz.f165.ntmps true 60 k F).2.map I1=(be prog [⟨A,bI M n w0,[]⟩] H Tryz.f165.ntmps true 60 k F).2.map I2 ->
  (xr (be prog [⟨A,bI M n w0,[]⟩] H Tryz.f165.ntmps true 60 k F).1.2.2 (be prog [⟨A,bI M n w0,[]⟩] H Tryz.f165.ntmps true 60 k F).1.2.1,iw (n7 (be prog [⟨A,bI M n w0,[]⟩] H Tryz.f165.ntmps true 60 k F).1.2.2 (be prog [⟨A,bI M n w0,[]⟩] H Tryz.f165.ntmps true 60 k F).1.2.1))=(false,true) ->
  (∀ J:C6->Prop,(λ(y:(Bool × List KI × Fr) × List (Oe × Oe))=>(y.1.1,y.2.map I1)) (be prog [] ({}:Hn prog J J) Tryz.f165.ntmps false 20 (n7 (be prog [⟨A,bI M n w0,[]⟩] H Tryz.f165.ntmps true 60 k F).1.2.2 (be prog [⟨A,bI M n w0,[]⟩] H Tryz.f165.ntmps true 60 k F).1.2.1) (pV (be prog [⟨A,bI M n w0,[]⟩] H Tryz.f165.ntmps true 60 k F).1.2.2 (be prog [⟨A,bI M n w0,[]⟩] H Tryz.f165.ntmps true 60 k F).1.2.1 (.tuple #[]) 0))=(true,[])) ->
  Wg prog i (C5 prog Tryz.f165 (TR B A K (Pf true V S))) Tryz.f165.ntmps k F wd:=by
  intro i w0 x1 x2 x3 x4 H k F wd z hn hx he hb hy
  simp only [Prod.mk.injEq] at hb
  refine aL (Tq B A K M n w0) (hn:=hn) ?_
  refine aT (Tq.eng (dr:=true)) H 60 z (λwd z=>pA z.row) (hx:=hx) (he:=he) λW1 e w2 h1 hr=>⟨_,0,hr.1,gi hb.1,?_⟩
  have h2:=h1.iv hr.2 rfl
  have hy2:=hy (λx=>x=w2)
  simp only [Prod.mk.injEq] at hy2
  refine Gk (R:=[]) trivial {} 20 (by rw [hb.2,hy2.1]) ?_ rfl h2 ⟨?_,Z,x2,x3,λ_=>⟨2,bc,rfl⟩⟩
  ·have:(be prog [] ({}:Hn prog (λx=>x=w2) (λx=>x=w2)) Tryz.f165.ntmps false 20 (n7 (be prog [⟨A,bI M n w0,[]⟩] H Tryz.f165.ntmps true 60 k F).1.2.2 (be prog [⟨A,bI M n w0,[]⟩] H Tryz.f165.ntmps true 60 k F).1.2.1) (pV (be prog [⟨A,bI M n w0,[]⟩] H Tryz.f165.ntmps true 60 k F).1.2.2 (be prog [⟨A,bI M n w0,[]⟩] H Tryz.f165.ntmps true 60 k F).1.2.1 (.tuple #[]) 0)).2=[]:=A8.1 hy2.2
   rw [this];rfl
  ·rw [iM (k:=2) rfl rfl,x4]
   show (aR M 2 false w0.wd,2)=_
   rw [x1]
 cases t:jC M.cs.length M.cs S.imm M.pr with
 | false =>rw [t] at D;have x4:V=(aR M 2 false W,2):=(by rw [<- hV];unfold nR;rw [t];rfl);exact bad _ d hwd s C x4 {eq:=[(15,cR .i64 him)],cv:=[(21,O0 D)]} _ _ a h ba ba ba ba (λ_=>ba)
 | true =>
   rw [t,JZ8 rfl] at D;have hold:=N8 uc S.imm;have hkn:dB S.imm:=(by have q:=t;unfold jC at q;simp only [Bool.and_eq_true] at q;exact q.1.1.2);have f:(if (ee S&&((wrap64 (S.imm.tdiv 1024)).tmod 4==3))=true then (aR M 2 false W,2) else (if ee S=true then iV (aZ M S.rd (dF M.cs S.imm) (Uz.wrap (M.pc+4))) (cg (M.cs.set 21 (Uz.wrap (M.cs.getD 21 0+1))) S.imm (um S (M.x.getD S.a.toNat 0) (dF M.cs S.imm))) else aZ M S.rd (dF M.cs S.imm) (Uz.wrap (M.pc+4)),1))=V:=(by rw [<- hV];unfold nR;rw [t];rfl);clear hV;have hX:=QW S (M.x.getD S.a.toNat 0) (dF M.cs S.imm) h87 h92;generalize dF M.cs S.imm=old at *;have fin:∀ (i:C6->Prop) (K2:Nat) (X:Option Addr) (Y:Nat) (l2:List Int) (w0:TV) (wd:C6),Tz B A K M n w0 K2 X Y l2 wd->w0.rd=S.rd->w0.fm=eM S.op->w0.up=false->w0.nx=Uz.wrap (M.pc+4)->Gd (iV M l2)->(iV (aZ M S.rd old (Uz.wrap (M.pc+4))) l2,1)=V->Wg prog i (C5 prog Tryz.f165 (TR B A K (Pf true V S))) Tryz.f165.ntmps [.code (au 5 (aM Tryz.f165))] [(0,.p A 0,1),(2,.u old,0),(3,.bool true,0),(4,.slice X l2.length Y,0)] wd:=(by intro i K2 X Y l2 w0 wd hz x1 x2 x3 x4 x5 x6;refine aL (λ_=>True) ?_;refine gt (R1:=[⟨A,bI (iV M l2) {n with ac:=X,cc:=Y} {w0 with rs:=old},[]⟩]) (Iv.one hz.q.row) {} 60 λW5 h5=>⟨rfl,iV M l2,_,{w0 with rs:=old},⟨?_,x5,x1,x2,λe=>by rw [show TV.up {w0 with rs:=old}=w0.up from rfl,x3] at e;cases e⟩,hz.csrs ⟨rfl,rfl,rfl,rfl⟩ h5⟩;rw [<- x6];unfold ut;rw [show TV.up {w0 with rs:=old}=w0.up from rfl,x3];unfold iV aZ;rw [<- x4,<- x1];rfl);refine aT (Tq.eng (dr:=true)) {eq:=[(15,cR .i64 him)],cv:=[(21,O0 D)]} 100 h (λwd z=>pe n.ac M.cs.length n.cc M.cs wd rfl Z.len.cs z.sl.cs) ?_;rintro W1 e W2 h1 ⟨a',c',rfl,o2,k2⟩;refine ⟨_,0,rfl,gi ba,?_⟩;have hz2:Tz B A K M n d W1.heap.size a' c' M.cs W2:=⟨h1.below k2,h1.fam.below k2,o2,h1.le,k2.size,h1.glt⟩;obtain ⟨b,rfl,_⟩:=hz2.at_ G;have cc:∀ wd,Tz B A K M n d W1.heap.size (some ⟨b,0,none⟩) c' M.cs wd->wd.cell? ⟨b,0+(21:Int).toNat,none⟩=some (.u (M.cs.getD 21 0))/\wd.frozen? ⟨b,0+(21:Int).toNat,none⟩=false:=λwd z=>by obtain ⟨b',hb',P⟩:=z.at_ G;cases hb';exact P 21 ab
   refine aL (Tz B A K M n d W1.heap.size (some ⟨b,0,none⟩) c' M.cs) ?_;refine ae (Tz.eng (dr:=false)) {ov:=[(35,kW (b:=b) (o:=0) M.cs.length c' .i64 21 rfl ⟨ab,ab⟩ underlying25 ba),(36,iP ⟨b,0+(21:Int).toNat,none⟩ (.u (M.cs.getD 21 0)) underlying24 rfl (λwd z=>(cc wd z).1)),(38,kW (b:=b) (o:=0) M.cs.length c' .i64 21 rfl ⟨ab,ab⟩ underlying25 ba)]} 40 hz2 λW3 hz3=>?_;refine bE (jh (T:=24) (v:=.u (Uz.wrap (M.cs.getD 21 0+1))) (cc W3 hz3) ba rfl) ?_;have c:=hz3.set 21 (Uz.wrap (M.cs.getD 21 0+1));have E:(M.cs.set 21 (Uz.wrap (M.cs.getD 21 0+1))).length=22:=(by rw [A6];exact G);have Q:bD 22 (M.cs.set 21 (Uz.wrap (M.cs.getD 21 0+1))):=cJ M.cs G hcs 21 ab _ (beq_self_eq_true _);have lU:∀ j,U ((M.cs.set 21 (Uz.wrap (M.cs.getD 21 0+1))).getD j 0):=jJ _ uc 21 _ (aW _);have l9:(M.cs.set 21 (Uz.wrap (M.cs.getD 21 0+1))).getD 9 0=M.cs.getD 9 0:=j7 _ 21 9 _ ab;have ll:M.cs.length=(M.cs.set 21 (Uz.wrap (M.cs.getD 21 0+1))).length:=(by rw [A6]);have I:aZ M S.rd old (Uz.wrap (M.pc+4))=iV (aZ M S.rd old (Uz.wrap (M.pc+4))) (M.cs.set 21 (Uz.wrap (M.cs.getD 21 0+1))):=rfl;refine aj (R:=[]) trivial {} 1 ?_;refine af [.code (au 4 (aM Tryz.f165))] [(0,.p A 0,1),(2,.u old,0),(3,.bool true,0),(4,.slice (some ⟨b,0,none⟩) M.cs.length c',0)] ?_;rw [ll];rw [I] at f;generalize M.cs.set 21 (Uz.wrap (M.cs.getD 21 0+1))=l at *;clear I ll;have write:∀ (i:C6->Prop),ee S->Wg prog i (C5 prog Tryz.f165 (TR B A K (Pf true V S))) Tryz.f165.ntmps [.code (au 1 (Wi (au 1 (fW (au 4 (aM Tryz.f165)))))),.blk 0,.code (au 5 (aM Tryz.f165))] [(0,.p A 0,1),(2,.u old,0),(3,.bool true,0),(4,.slice (some ⟨b,0,none⟩) l.length c',0)] (W3.setCell ⟨b,21,none⟩ (.u (Uz.wrap (M.cs.getD 21 0+1)))):=by
    intro i u;rw [u,Bool.true_and,JZ8 rfl] at f;obtain ⟨w0,r⟩:∃ w0:TV,w0={d with wr:=true}:=⟨_,rfl⟩;have xup:w0.up=false:=(by rw [r];exact L);have xra:w0.ra=S.a:=(by rw [r];exact w);have xrd:w0.rd=S.rd:=(by rw [r];exact s);have xfm:w0.fm=eM S.op:=(by rw [r];exact C);have xnx:w0.nx=Uz.wrap (M.pc+4):=(by rw [r];exact g);have xwd:w0.wd=W:=(by rw [r];exact hwd);have xop:w0.op=S.op:=(by rw [r];exact m);have xim:w0.im=S.imm:=(by rw [r];exact him);refine aL (λ_=>True) ?_;refine oJ (R1:=[⟨A,bI M n {d with wr:=true},[]⟩]) (Iv.one c.q.row) {} 8 λW5 h5=>?_;rw [<- r] at h5;have hz5:=c.iv h5;clear r;have hwo:=λwd (z:Tz B A K M n w0 W1.heap.size (some ⟨b,0,none⟩) c' l wd)=>KG old z.q h32 (by rw [xra];exact hi.a0) (by rw [xra];exact hi.a31) (by rw [xop];exact ⟨h87,h92⟩);rw [xop,xra,<- hX] at hwo;have ux:U (um S (M.x.getD S.a.toNat 0) old):=by
     have hga:U (mc S (M.x.getD S.a.toNat 0)):=(by unfold mc;split;exact aW _;exact ua);unfold um;split;·exact ah _ _ _
     ·split;·exact ah _ _ _
      ·exact hga
    clear hX;generalize um S (M.x.getD S.a.toNat 0) old=x at *;have N:=λwd (z:Tz B A K M n w0 W1.heap.size (some ⟨b,0,none⟩) c' l wd)=>sn (some ⟨b,0,none⟩) l.length c' l S.imm M.pr x wd rfl (fJ z.o) lU ux.1 ux.2;rw [JR _ _ rfl lU _ _ _ ux,yN _ _ lU] at N;have ewo:D9 l.length l S.imm M.pr=!((wrap64 (S.imm.tdiv 1024)).tmod 4==3):=by
     unfold D9;have:jC l.length l S.imm M.pr:=by unfold jC at t ⊢;rw [G] at t;rw [E,Q];rw [hcs] at t;exact t
     rw [this,Bool.true_and]
    rw [ewo] at N;unfold Ea at N;rw [ewo] at N;refine aL (Tz B A K M n w0 W1.heap.size (some ⟨b,0,none⟩) c' l) ?_;refine aT (Tz.eng (dr:=true)) {eq:=[(64,cR .i64 xim)],cv:=[(72,WX hwo)]} 60 hz5 N ?_;rintro W6 e W7 h6 ⟨X,Y,rfl,o7,k7⟩;refine ⟨_,0,rfl,λ_=>h6.below k7,?_⟩;have h7:=h6.below k7;cases hro:((wrap64 (S.imm.tdiv 1024)).tmod 4==3) with
    | true =>rw [hro,JZ8 rfl] at f;refine ae (Tz.eng (dr:=true)) {} 7 h7 λW8 h8=>?_;refine af [.code (au 5 (aM Tryz.f165))] [(0,.p A 0,1),(3,.bool false,0)] ?_;exact bad _ w0 xwd xrd xfm f.symm {} _ _ W8 h8.q ba ba ba ba (λ_=>ba)
    | false =>rw [hro,JZ9 bc] at f;rw [hro] at o7;have o8:W7.ownsRow W6.heap.size 24 1 (.slice X (cg l S.imm x).length Y) (cg l S.imm x).length ((cg l S.imm x).map (Value.int .u64)):=o7;have gw:Gd (iV M (cg l S.imm x)):=(by have g1:Gd (iV M l):=Z.cs_ E Q lU (by rw [l9]);exact g1.cs_ (M:=iV M l) (by rw [qf];exact E) (tK _ E lU Q _ _ ux hkn) (Hk _ lU _ _ ux) (In _ E _ _));generalize cg l S.imm x=l3 at *;have hz7:Tz B A K M n w0 W6.heap.size X Y l3 W7:=⟨h7.q,h6.q.fam.below k7,o8,h6.q.le,k7.size,h6.q.glt⟩;refine ae (Tz.eng2 (dr:=true)) {} 7 ⟨h7,hz7⟩ λW8 h8=>?_;exact af _ _ (fin _ _ X Y l3 w0 W8 h8.2 xrd xfm xup xnx gw f)
   have g0:Gd (iV M l):=Z.cs_ E Q lU (by rw [l9]);by_cases O:S.a=0
   ·obtain e|e|e|e|e|e:S.op=87\/S.op=90\/S.op=88\/S.op=89\/S.op=91\/S.op=92:=ab;·refine aj (R:=[⟨A,bI M n d,[]⟩]) ⟨c.q.row.in_,trivial⟩ {eq:=[(43,cR .i64 (m.trans e))]} 41 ?_;exact af _ _ (write _ (by unfold ee;rw [e];rfl))
    ·refine aj (R:=[⟨A,bI M n d,[]⟩]) ⟨c.q.row.in_,trivial⟩ {eq:=[(43,cR .i64 (m.trans e))]} 41 ?_;exact af _ _ (write _ (by unfold ee;rw [e];rfl))
    ·refine aj (R:=[⟨A,bI M n d,[]⟩]) ⟨c.q.row.in_,trivial⟩ {eq:=[(43,cR .i64 (m.trans e)),(53,cR .i64 (w.trans O))]} 36 ?_;exact a0x
    ·refine aj (R:=[⟨A,bI M n d,[]⟩]) ⟨c.q.row.in_,trivial⟩ {eq:=[(43,cR .i64 (m.trans e)),(53,cR .i64 (w.trans O))]} 42 ?_;exact a0x
    ·refine aj (R:=[⟨A,bI M n d,[]⟩]) ⟨c.q.row.in_,trivial⟩ {eq:=[(43,cR .i64 (m.trans e)),(53,cR .i64 (w.trans O))]} 48 ?_;exact a0x
    ·refine aj (R:=[⟨A,bI M n d,[]⟩]) ⟨c.q.row.in_,trivial⟩ {eq:=[(43,cR .i64 (m.trans e)),(53,cR .i64 (w.trans O))]} 51 ?_;exact a0x
   ·have nA:(S.a==0)=false:=(by simpa using O);have u:ee S:=(by unfold ee;rw [bne,nA];simp);obtain e|e|e|e|e|e:S.op=87\/S.op=90\/S.op=88\/S.op=89\/S.op=91\/S.op=92:=ab;·refine aj (R:=[⟨A,bI M n d,[]⟩]) ⟨c.q.row.in_,trivial⟩ {eq:=[(43,cR .i64 (m.trans e)),(53,cR .i64 w),(54,an nA)]} 41 ?_;exact af _ _ (write _ u)
    ·refine aj (R:=[⟨A,bI M n d,[]⟩]) ⟨c.q.row.in_,trivial⟩ {eq:=[(43,cR .i64 (m.trans e)),(53,cR .i64 w),(54,an nA)]} 41 ?_;exact af _ _ (write _ u)
    ·refine aj (R:=[⟨A,bI M n d,[]⟩]) ⟨c.q.row.in_,trivial⟩ {eq:=[(43,cR .i64 (m.trans e)),(53,cR .i64 w),(54,an nA)]} 37 ?_;exact af _ _ (write _ u)
    ·refine aj (R:=[⟨A,bI M n d,[]⟩]) ⟨c.q.row.in_,trivial⟩ {eq:=[(43,cR .i64 (m.trans e)),(53,cR .i64 w),(54,an nA)]} 43 ?_;exact af _ _ (write _ u)
    ·refine aj (R:=[⟨A,bI M n d,[]⟩]) ⟨c.q.row.in_,trivial⟩ {eq:=[(43,cR .i64 (m.trans e)),(53,cR .i64 w),(54,an nA)]} 49 ?_;exact af _ _ (write _ u)
    ·refine aj (R:=[⟨A,bI M n d,[]⟩]) ⟨c.q.row.in_,trivial⟩ {eq:=[(43,cR .i64 (m.trans e)),(53,cR .i64 w),(54,an nA)]} 52 ?_;exact af _ _ (write _ u)
theorem Tz.engQ:n6 x (Tq B A l M n P) (Tz B A l M n P w c t b) [⟨A,bI M n P,[]⟩] dr (C5 x k F):=
 ⟨λ_ h=>h.q,λW h r a=>by rw [A5] at a;subst a;exact h.row.in_,λ_ W h=>h.below (A9 _ _).drew,cD⟩
theorem Iv.cell (h:Iv [g] l [⟨g,Q,[]⟩] K) (i:Nat) (v:D1):Iv [g] l [⟨g,Q.setIfInBounds i v,[]⟩] (K.setCell ⟨g,i,none⟩ v):=by obtain ⟨T,b⟩:=h.row1;refine ⟨λr a=>by rw [A5] at a;subst a;exact ⟨T,bH b i v⟩,h.ag.trans (LV di K i v),λr a=>by rw [A5] at a;subst a;simp,di⟩
theorem ID (h:Tq B A l M n P K) (o:Gd M) (k:Nat) (hk:k<16) (i:Bool) (v:Int):D2 prog 134 #[.p A 0,.i k,.bool i,.u v] K λe w'=>e=.returned (.tuple #[])/\∃ A',Tq B A l (aR M k i v) A' P w':=by
 have j:bm M.cs.length M.cs M.pr:=(db o.ok).2.2.1;have f:=λW (y:Tq B A l M n P W)=>xY n.ac M.cs.length n.cc M.cs M.pr M.pc k i v W rfl y.sl.cs o.mw.cs;have d:Ap M.cs.length M.cs M.pr k:=by unfold Ap;rw [j];unfold Vn;simp;omega
 have w:sB M.cs.length M.cs M.pr M.pc k i v=(aR M k i v).cs:=by unfold sB;rw [d];rfl
 have e2:Fw M.cs.length M.cs M.pr k i=(aR M k i v).pr:=by unfold Fw;rw [d];rfl
 have e3:Fx M.cs.length M.cs M.pr k i=(aR M k i v).pc:=by unfold Fx;rw [d];rfl
 rw [w,e2,e3,d] at f;have c:(aR M k i v).x=M.x/\(aR M k i v).cs=(aR M k i v).cs/\(aR M k i v).ram=M.ram/\(aR M k i v).d=M.d/\(aR M k i v).hd=M.hd/\(aR M k i v).hl=M.hl/\(aR M k i v).wt=M.wt:=⟨rfl,rfl,rfl,rfl,rfl,rfl,rfl⟩;generalize aR M k i v=N at *;clear w e2 e3 d j;refine fy (args:=[.p A 0,.i k,.bool i,.u v]) (Tq B A l M n P) func134 ?_;refine aP 0 1 ?_;refine lN 26 ?_;refine aT (Tq.eng (dr:=true)) {} 100 (h.below (A9 _ _).drew) f ?_;rintro s e u b ⟨a',c',rfl,J,g⟩;refine ⟨_,0,rfl,λ_=>b.below g,?_⟩;have m:Tz B A l M n P s.heap.size a' c' N.cs u:=⟨b.below g,b.fam.below g,J,b.le,g.size,b.glt⟩;refine ae (Tz.engQ (dr:=true)) {} 60 m λU a=>?_;obtain ⟨t,w0⟩:=a.q.row;have z:=Iv.one a.q.row;refine bE (bG (i:=3) (T:=25) (v:=.slice a' N.cs.length c') w0 (show 3<28 by decide) ba rfl) ?_;have p:=z.cell 3 (.slice a' N.cs.length c');obtain ⟨Q,L⟩:=p.row1;refine aL (λ_=>True) ?_;refine aj (R:=[]) trivial {} 2 ?_;refine bE (bG (i:=2) (T:=2) (v:=.i N.pr) L (by simp [bI]) ba rfl) ?_;have q:=p.cell 2 (.i N.pr);obtain ⟨S,O⟩:=q.row1;refine aj (R:=[]) trivial {} 2 ?_;refine bE (bG (i:=0) (T:=24) (v:=.u N.pc) O (by simp [bI]) ba rfl) ?_;have C:=q.cell 0 (.u N.pc);refine iL {} 40 ba ba rfl ⟨rfl,{n with ac:=a',cc:=c'},a.csrs ⟨c.1,rfl,c.2.2.1,c.2.2.2.1⟩ (t':=P) ?_⟩;have x:bI N {n with ac:=a',cc:=c'} P=(((bI M n P).setIfInBounds 3 (.slice a' N.cs.length c')).setIfInBounds 2 (.i N.pr)).setIfInBounds 0 (.u N.pc):=by obtain ⟨G,X,H,D,r,V,E,F,I⟩:=N;dsimp only at c ⊢;obtain ⟨rfl,_,rfl,rfl,rfl,rfl,rfl⟩:=c;rfl
 rw [x];exact C
theorem Gl (h:bZ f):IntKind.i64.wrap (8+f)=((pd f:Nat):Int)/\pd f<16:=by
 have:f=0\/f=1\/f=3:=by simpa [bZ,or_assoc] using h
 rcases this with rfl|rfl|rfl<;>exact ⟨by rw [IntKind.wrap_i64];rfl,bc⟩
theorem OB {g:MA} (i:Ins) (wd:Int) (L:jT i) (J:93<=i.op) (h:Tq B A l M g (t0 M i wd) K) (a:Gd M) (x:M.wt=false): D2 prog 166 #[.p A 0] K (TR B A l (Pf false (kS M i wd) i)):=by
 obtain ⟨w0,d,f,_,_,_⟩:=aN a.ok;have u:bm M.cs.length M.cs M.pr:=(db a.ok).2.2.1;have N:=L.op98;by_cases j:i.op=93;·refine (Oq h.row j).mono λe w' ⟨c,k⟩=>⟨c,M,g,_,⟨?_,a,rfl,rfl,λ_=>⟨_,(Gl f).2,(Gl f).1⟩⟩,h.iv k rfl⟩;rw [iM rfl (Gl f).1];unfold kS;rw [JZ8 j]
 by_cases p:i.op=94;·refine (KE h.row p).mono λe w' ⟨c,k⟩=>⟨c,M,g,_,⟨?_,a,rfl,rfl,λ_=>⟨3,bc,rfl⟩⟩,h.iv k rfl⟩;rw [iM (k:=3) rfl rfl];unfold kS;rw [JZ9 j,JZ8 p]
 by_cases r:i.op=95\/i.op=96
 ·have w:=λW (m:Iv [A] K [⟨A,bI M g (t0 M i wd),[]⟩] W)=>QT (jS M.cs.length M.cs M.pr (i.op==96)) (rp M.cs.length M.cs M.pr (i.op==96)) (rq M.cs.length M.cs M.pr (i.op==96)) (lY M.cs.length M.cs M.pr (i.op==96)) (h.iv m rfl).row (λE t=>(xX g.ac M.cs.length g.cc M.cs M.pr (i.op==96) E rfl ((h.iv m rfl).iv t rfl).sl.cs a.mw.cs).mono λe w' ⟨P,Q,R,S,T⟩=>⟨P,Q,R,λ_=>S,T⟩);refine (KF h.row r w (λW e w' m v=>v.1)).mono λe w' ⟨c,W,m,v⟩=>⟨c,?_⟩;have D:=h.iv m rfl;have b:=v.2;have s:kS M i wd=if lY M.cs.length M.cs M.pr (i.op==96)=true then (aZ (gE (iV M (M.cs.set 0 (cP (M.cs.getD 0 0) (i.op==96)))) (dq (M.cs.getD 0 0) (i.op==96))) 0 0 (eE M.cs (i.op==96)),1) else (aR M 2 false wd,2):=by unfold kS lY;rw [JZ9 j,JZ9 p,JZ8 r,u];cases (i.op==96)<;>cases (M.pr != 3)<;>cases (M.pr==0)<;>rfl
  rw [s];cases n:lY M.cs.length M.cs M.pr (i.op==96) with
  | true =>rw [n,JZ8 rfl] at b;obtain ⟨a',c',k,o⟩:=b;have y:jS M.cs.length M.cs M.pr (i.op==96)=M.cs.set 0 (cP (M.cs.getD 0 0) (i.op==96)):=(by unfold jS;rw [n]);have G:rp M.cs.length M.cs M.pr (i.op==96)=dq (M.cs.getD 0 0) (i.op==96):=(by unfold rp;rw [n]);have F:rq M.cs.length M.cs M.pr (i.op==96)=eE M.cs (i.op==96):=(by unfold rq;rw [n]);rw [y,G,F] at k;rw [y] at o;have H:Gd (iV M (M.cs.set 0 (cP (M.cs.getD 0 0) (i.op==96)))):=a.cs_ (by rw [A6];exact w0) (cJ _ w0 d 0 ab _ (CN _ (a.mw.cs 0) _ (eI d 0 ab))) (jJ _ a.mw.cs 0 _ (rr _ _)) (by rw [j7 _ 0 9 _ ab]);have I:=H.priv (xc _ (a.mw.cs 0) (eI d 0 ab) (i.op==96));have O:=D.csrs (M':=gE (iV M (M.cs.set 0 (cP (M.cs.getD 0 0) (i.op==96)))) (dq (M.cs.getD 0 0) (i.op==96))) ⟨rfl,rfl,rfl,rfl⟩ k o;refine ⟨_,_,_,⟨?_,I,rfl,rfl,λe=>yn⟩,O⟩;rw [JZ8 rfl,jk rfl];exact congrArg (λz=>(z,(1:Int))) (lF (M:=gE (iV M (M.cs.set 0 (cP (M.cs.getD 0 0) (i.op==96)))) (dq (M.cs.getD 0 0) (i.op==96))) (rd:=i.rd) (to:=eE M.cs (i.op==96)))
  | false =>rw [n,JZ9 bc] at b;refine ⟨M,g,_,⟨?_,a,rfl,rfl,λ_=>⟨2,bc,rfl⟩⟩,D.iv b rfl⟩;rw [JZ9 bc,iM (k:=2) rfl rfl];rfl
 ·refine (Ot h.row (show i.op=97\/i.op=98 by omega)).mono λe w' ⟨c,k⟩=>⟨c,?_⟩;have s:kS M i wd=if (M.pr==0)=true then (aR M 2 false wd,2) else (aZ {M with wt:=i.op==97} 0 0 (Uz.wrap (M.pc+4)),1):=by
   unfold kS;rw [JZ9 j,JZ9 p,JZ9 r];by_cases q:i.op=97;·rw [JZ8 q,show (i.op==97)=true by simpa using q];rfl
   ·have e:(i.op==97)=false:=(by simpa using q);have e2:({M with wt:=false}:MV)=M:=(by rw [<- x]);rw [JZ9 q,e,e2]
  rw [s];cases C:(M.pr==0) with
  | true =>rw [C,JZ8 rfl] at k;refine ⟨M,g,_,⟨?_,a,rfl,rfl,λ_=>⟨2,bc,rfl⟩⟩,h.iv k rfl⟩;rw [JZ8 rfl,iM (k:=2) rfl rfl];rfl
  | false =>rw [C,JZ9 bc] at k;refine ⟨{M with wt:=i.op==97},g,_,⟨?_,a.wait _,rfl,rfl,λe=>yn⟩,h.iv k rfl⟩;rw [JZ9 bc,jk rfl];exact congrArg (λz=>(z,(1:Int))) (lF (M:={M with wt:=i.op==97}) (rd:=i.rd))
section
variable {B g K : Nat} {w0 w w' W : C6} {M M' : MV} {A A' : MA} {t t' : TV}
inductive Fo:Bool->D1->Prop
 | s (v:D1):Fo false (.iface 206 v)
 | j (v:D1):Fo false (.iface 207 v)
 | l (v:D1):Fo false (.iface 211 v)
 | t (v:D1):Fo false (.iface 213 v)
 | h (v:D1):Fo false (.iface 215 v)
 | c (v:D1):Fo false (.iface 216 v)
 | a (v:D1):Fo false (.iface 217 v)
 | f (v:D1):Fo false (.iface 218 v)
 | y (v:D1):Fo false (.iface 220 v)
 | r:Fo true (.iface 219 (.agg #[]))
theorem DM (op:Int):Fo (decide (87<=op/\op<=92)) (eM op):=by
 by_cases c:87<=op/\op<=92;·rw [decide_eq_true c];unfold eM;rw [JZ9 ab,JZ9 ab,JZ9 ab,JZ9 ab,JZ9 ab,JZ9 ab,JZ9 ab,JZ8 ab];exact .r
 ·rw [decide_eq_false c];unfold eM;split;·exact .s _
  split;·exact .j _
  split;·exact .l _
  split;·exact .t _
  split;·exact .s _
  split
  ·split;·exact .h _
   split;·exact .c _
   ·exact .a _
  split;·exact .f _
  split;·omega
  ·exact .y _
theorem OC {cf:Bool} (s:Fo cf t.fm) (h:Tq B g w0 M A t w) (K:Gd M) (V:0<=t.rd) (O:t.rd<=31) (u:t.up=false):D2 prog 137 #[.p g 0] w λe w'=>e=.returned (.tuple #[])/\Tq B g w0 (ut cf M t).1 A t w':=by
 obtain ⟨n,P,Q,_,_,_⟩:=aN K.ok;have p:=K.x32;have fin:∀ (S:C6->Prop) (N:MV) (W:C6),Tq B g w0 N A t W->N.cs.length=22->(⟨t.nx,N.x,N.pr,if cf=true then N.cs else N.cs.set 21 (Uz.wrap (N.cs.getD 21 0+1)),N.ram,N.d,N.hd,N.hl,N.wt⟩:MV)=(ut cf M t).1->Wg prog S (C5 prog Tryz.f137 λe w'=>e=.returned (.tuple #[])/\Tq B g w0 (ut cf M t).1 A t w') Tryz.f137.ntmps [.code (au 1 (aM Tryz.f137))] [(0,.p g 0,1)] W:=by
  intro S N W F n22 I;rw [<- I];clear I;refine aL (λ_=>True) ?_;refine oJ (R1:=[⟨g,bI ⟨t.nx,N.x,N.pr,N.cs,N.ram,N.d,N.hd,N.hl,N.wt⟩ A t,[]⟩]) (Iv.one F.row) {} 12 λC l=>?_;have f:=F.iv l rfl;refine af [.code (au 2 (aM Tryz.f137))] [(0,.p g 0,1)] ?_;obtain ⟨a,y⟩:∃ a:MV,a=⟨t.nx,N.x,N.pr,N.cs,N.ram,N.d,N.hd,N.hl,N.wt⟩:=⟨_,rfl⟩;rw [<- y] at f;have H:a.cs=N.cs:=(by rw [y]);have J:(⟨t.nx,N.x,N.pr,if cf=true then N.cs else N.cs.set 21 (Uz.wrap (N.cs.getD 21 0+1)),N.ram,N.d,N.hd,N.hl,N.wt⟩:MV)=if cf=true then a else cM a (a.cs.set 21 (Uz.wrap (a.cs.getD 21 0+1))):=by rw [y];cases cf<;>rfl
  rw [J];rw [<- H] at n22;clear y H J l F;obtain ⟨b,j,G,_⟩:=f.atC n22;have x:∀ W,Tq B g w0 a A t W->W.cell? ⟨b,0+(21:Int).toNat,none⟩=some (.u (a.cs.getD 21 0))/\W.frozen? ⟨b,0+(21:Int).toNat,none⟩=false:=λW k=>by obtain ⟨L,d,_,c⟩:=k.atC n22;rw [j] at d;cases d;exact c 21 ab
  have cnt:∀ (S:C6->Prop) (W:C6),Tq B g w0 a A t W->Wg prog S (C5 prog Tryz.f137 λe w'=>e=.returned (.tuple #[])/\Tq B g w0 (cM a (a.cs.set 21 (Uz.wrap (a.cs.getD 21 0+1)))) A t w') Tryz.f137.ntmps [.code (au 3 (aM Tryz.f137))] [(0,.p g 0,1),(3,.bool false,0)] W:=(by intro S W k;refine aL (Tq B g w0 a A t) ?_;refine ae (Tq.eng (dr:=false)) {ov:=[(48,kW a.cs.length A.cc .i64 21 j ⟨ab,ab⟩ underlying25 ba),(49,iP ⟨b,0+(21:Int).toNat,none⟩ (.u (a.cs.getD 21 0)) underlying24 rfl (λW k=>(x W k).1)),(51,kW a.cs.length A.cc .i64 21 j ⟨ab,ab⟩ underlying25 ba)]} 40 k λD f=>?_;refine bE (jh (T:=24) (v:=.u (Uz.wrap (a.cs.getD 21 0+1))) (x D f) ba rfl) ?_;exact iL {} 40 ba ba rfl ⟨rfl,f.setC j 21 (Uz.wrap (a.cs.getD 21 0+1))⟩);refine aL (Tq B g w0 a A t) ?_;generalize m:t.fm=U at s;cases s;case r =>refine ae (Tq.eng (dr:=false)) {eq:=[(37,⟨_,_,0,m⟩)]} 10 f λi o=>?_;refine dt 2 (ct (T:=219) (z:=.agg #[]) ba i) ?_;refine bE (av (g:=i.heap.size) (t:=219) (ty:=219) (old:=#[]) (cells:=#[]) (D3 _ _) ba rfl ba) ?_;have E:=o.below (aI ((A9 i.heap.size i).alloc (G1 _) (.cells (Value.agg #[]).cells 219)) (G1 _) #[]);exact iL {} 40 ba ba rfl ⟨rfl,E⟩
  all_goals
   refine ae (Tq.eng (dr:=false)) {eq:=[(37,⟨_,_,0,m⟩)]} 10 f λi o=>?_
   refine dt 2 (ct (T:=219) (z:=.agg #[]) ba i) ?_
   refine bE (av (g:=i.heap.size) (t:=219) (ty:=219) (old:=#[]) (cells:=#[]) (D3 _ _) ba rfl ba) ?_
   have E:=o.below (aI ((A9 i.heap.size i).alloc (G1 _) (.cells (Value.agg #[]).cells 219)) (G1 _) #[])
   refine aj (R:=[]) trivial {} 2 ?_
   exact af _ _ (cnt _ _ E)
 refine fy (args:=[.p g 0]) (Tq B g w0 M A t) func137 ?_;refine aP 0 1 ?_;by_cases e:t.rd=0;·have q:(t.rd != 0)=false:=(by simpa using e);refine ae (Tq.eng (dr:=false)) {eq:=[(9,an q)]} 12 h λC l=>?_;refine af _ _ (fin _ M C l n ?_);unfold ut;rw [u,JZ8 e];rfl
 ·have q:(t.rd != 0):=(by simpa using e);obtain ⟨b,j,G,_⟩:=h.atX p;have x:∀ W,Tq B g w0 M A t W->W.cell? ⟨b,0+t.rd.toNat,none⟩=some (.u (M.x.getD (0+t.rd.toNat) 0))/\W.frozen? ⟨b,0+t.rd.toNat,none⟩=false:=λW k=>by obtain ⟨L,d,_,c⟩:=k.atX p;rw [j] at d;cases d;exact c (0+t.rd.toNat) ab
  refine ae (Tq.eng (dr:=false)) {eq:=[(9,an q)]} 12 h λC l=>?_;refine zU ?_;refine ae (Tq.eng (dr:=true)) {ov:=[(24,kW M.x.length A.cx .i64 t.rd j ⟨ab,ab⟩ underlying25 ba)]} 40 (l.below (A9 _ _).drew) λD f=>?_;refine bE (jh (T:=24) (v:=.u t.rs) (x D f) ba rfl) ?_;have o:=f.setX j (0+t.rd.toNat) t.rs;refine aj (R:=[]) trivial {} 1 ?_;refine af _ _ (fin _ _ _ o n ?_);unfold ut;rw [u,JZ9 e,F3];rfl
def tS:TV:=⟨.func (.func 122) #[] #[],0,0,0,0,0,0,.nilIface,0,0,false,false,0,0⟩
def TQ (M:MV) (q:Int × MV × Int):TV :=
 if (q.2.2 != 0)=true then nU tS q M.pc else match Cc q.1 with
  | none=>{tS with wd:=q.1,up:=true,cz:=2,vl:=q.1}
  | some i=>t0 q.2.1 i q.1
theorem QX (h:Tq B g w0 M A tS w) (z:Gd M) (hd:Ud M.d):D2 prog 135 #[.p g 0] w λe w'=>e=.returned (.tuple #[])/\∃ C,Tq B g w0 (aH M M.pc 4 1 0).2.1 C (TQ M (aH M M.pc 4 1 0)) w':=by
 have J:=λW (h:Tq B g w0 M A tS W)=>Oz h z rfl M.pc 4 1 0 bc bc bc (λ_=>rfl) z.pc me;have Q:=tX z hd M.pc 4 ab 1 0;have ga:=z.acc M.pc 4 1 0;rw [show ((4:Nat):Int)=4 from rfl] at Q;unfold TQ;generalize aH M M.pc 4 1 0=X at *;obtain ⟨y,N,c⟩:=X;dsimp only at *;refine fy (args:=[.p g 0]) (Tq B g w0 M A tS) func135 ?_;refine aP 0 1 ?_;refine aT (Tq.eng (dr:=true)) {} 60 h J ?_;rintro W1 e W2 h1 ⟨C,rfl,l⟩;refine ⟨_,0,rfl,gi ba,?_⟩;cases hc:(c != 0) with
 | true =>rw [JZ8 rfl];exact ix (R:=[]) trivial {} 40 λa _=>⟨_,D8 rfl _ _ _,rfl,C,l⟩
 | false =>
   rw [JZ9 bc];unfold nU at l;dsimp only at l;rw [hc,JZ9 bc] at l;refine aL (λ_=>True) ?_;have d:=λW=>wJ y Q.1 Q.2 W;unfold mj at d;cases K:Cc y with
   | none =>simp only [K] at d;refine fK (R1:=[⟨g,bI N C {tS with wd:=y},[]⟩]) (Iv.one l.row) {} 60 (λW _=>d W) ?_;rintro W3 e W4 G ⟨rfl,L⟩;refine ⟨_,0,rfl,?_⟩;have s:=(l.iv G rfl).below L;refine fK (R1:=[⟨g,bI N C {tS with wd:=y},[]⟩]) (Iv.one s.row) {} 60 (λW I=>pA I.row1) ?_;rintro W5 e W6 H ⟨rfl,O⟩;refine ⟨_,0,rfl,?_⟩;have x:=(s.iv H rfl).iv O rfl;exact ix (R:=[]) trivial {} 40 λa _=>⟨_,D8 rfl _ _ _,rfl,C,x⟩
   | some i =>
     simp only [K] at d;have p:=Az K;have u:=λW=>Gg i.op p.op1 p.op98 W;obtain ⟨D,E,U⟩:∃ D E,eM i.op=.iface D E:=(by obtain ⟨S,q⟩:∃ S,Fo S (eM i.op):=⟨_,DM i.op⟩;generalize eM i.op=f at q;cases q<;>exact ⟨_,_,rfl⟩);rw [U] at u;refine fK (R1:=[⟨g,bI N C {tS with wd:=y},[]⟩]) (Iv.one l.row) {} 60 (λW _=>d W) ?_;rintro W3 e W4 G ⟨rfl,L⟩;refine ⟨_,0,rfl,?_⟩;have s:=(l.iv G rfl).below L;refine fK (R1:=[⟨g,bI N C {tS with wd:=y,op:=i.op,rd:=i.rd,ra:=i.a,rb:=i.b,im:=i.imm},[]⟩]) (Iv.one s.row) {} 60 (λW _=>u W) ?_;rintro W5 e W6 H ⟨rfl,O⟩;refine ⟨_,0,rfl,?_⟩;have x:=(s.iv H rfl).below O;obtain ⟨o,m⟩:∃ o:TV,o={tS with wd:=y,op:=i.op,rd:=i.rd,ra:=i.a,rb:=i.b,im:=i.imm,fm:=.iface D E}:=⟨_,rfl⟩;have F:o.rd=i.rd:=(by rw [m]);have n32:=ga.x32;refine oJ (R1:=[⟨g,bI N C {tS with wd:=y,op:=i.op,rd:=i.rd,ra:=i.a,rb:=i.b,im:=i.imm,fm:=.iface D E},[]⟩]) (Iv.one x.row) {} 4 λW7 V=>?_;rw [<- m] at V;have Y:=x.iv V rfl;refine af [.code (au 6 (aM Tryz.f135))] [(0,.p g 0,1)] ?_;obtain ⟨b,Z,hne,_⟩:=Y.atX n32;have cc:∀ W,Tq B g w0 N C o W->W.cell? ⟨b,0+i.rd.toNat,none⟩=some (.u (N.x.getD (0+i.rd.toNat) 0)):=λW I=>by obtain ⟨b',t,_,k⟩:=I.atX n32;rw [Z] at t;cases t;have:=p.rd0;have:=p.rd31;exact (k (0+i.rd.toNat) ab).1
     refine aL (Tq B g w0 N C o) ?_;refine ae (Tq.eng (dr:=false)) {} 1 Y λW9 h9=>?_;refine lN 15 ?_;refine ae (Tq.eng (dr:=true)) {eq:=[(51,cR .i64 F)],ov:=[(52,kW N.x.length C.cx .i64 i.rd Z ⟨p.rd0,by have:=p.rd31;omega⟩ underlying25 ba),(53,iP ⟨b,0+i.rd.toNat,none⟩ (.u (N.x.getD (0+i.rd.toNat) 0)) underlying24 rfl cc)]} 40 (h9.below (A9 _ _).drew) λW10 n=>?_;obtain ⟨T10,P⟩:=n.row;refine bE (bG (i:=22) (T:=24) (v:=.u (N.x.getD (0+i.rd.toNat) 0)) P (show 22<28 by decide) ba rfl) ?_;have r:Tq B g w0 N C {o with rs:=N.x.getD (0+i.rd.toNat) 0} _:=n.iv ((Iv.one n.row).cell 22 (.u (N.x.getD (0+i.rd.toNat) 0))) rfl;refine aL (λ_=>True) ?_;refine aj (R:=[]) trivial {} 1 ?_;refine af [.code (au 7 (aM Tryz.f135))] [(0,.p g 0,1)] ?_;refine gt (R1:=[⟨g,bI N C {o with rs:=N.x.getD (0+i.rd.toNat) 0,nx:=Uz.wrap (N.pc+4)},[]⟩]) (Iv.one r.row) {} 60 λW11 j=>⟨rfl,C,?_⟩;have j:=r.iv j rfl;rw [m,F3,<- U] at j;exact j
end
theorem zj {x:Int} (h:U x):(de x 1 1==1)=(D4 .and .u64 x 2 != 0):=by
 rw [P0 x 1 h];cases a:bt x 1 with
 | true =>
   rw [JZ8 rfl];have:D4 .and .u64 x 2≠0:=λe=>by have q:=aA x 2 1;rw [e,a] at q;exact absurd q bc
   simp [this]
 | false =>
   rw [JZ9 bc];have:D4 .and .u64 x 2=0:=by refine bF _ _ (ah _ _ _) me λi b=>?_;rw [aA];have key:∀ j,j<64->∀ c:Bool,(j=1->c=false)->(c&&bt 2 j)=bt 0 j:=cp;exact key i b _ (λe=>by rw [e];exact a)
   simp [this]
theorem Bc {to x:Int} (d:U to) (f:Gd M) (c:P.up=false) (b:P.rd=p.rd) (a:P.fm=eM p.op) {rd:Int} (hx:aZ M P.rd P.rs to=aZ M rd x to):Pf false (if (D4 .and .u64 to 2 != 0)=true then (aR M 0 false to,2) else (aZ M rd x to,1)) p M (rC P to):=by
 unfold rC;rw [zj d];cases g:(D4 .and .u64 to 2 != 0) with
 | true =>rw [JZ8 rfl,JZ8 rfl];exact ⟨iM (k:=0) rfl rfl,f,b,a,λ_=>⟨0,bc,rfl⟩⟩
 | false =>rw [JZ9 bc,JZ9 bc];refine ⟨?_,f,b,a,λe=>by rw [show TV.up {P with nx:=to}=P.up from rfl,c] at e;cases e⟩;rw [jk (t:={P with nx:=to}) c,<- hx]
theorem TS {g:MA} (o:jT S) (D:3<=S.op) (p:S.op<=10) (h:Tq B A l M g (t0 M S W) K) (d:Gd M): D2 prog 156 #[.p A 0] K (TR B A l (Pf false (qb M S (M.x.getD S.a.toNat 0) (M.x.getD S.b.toNat 0) (Uz.wrap S.imm)) S)):=by
 have a:=d.x32;obtain ⟨b,s,w0,t⟩:=h.atX a;have m:=o.a0;have y:=o.a31;have q:=o.b0;have C:=o.b31;have r:=(t (0+S.a.toNat) ab).1;have v:=(t (0+S.b.toNat) ab).1;unfold qb;by_cases u:S.op=3;·refine (Ku h.row u).mono λe w' ⟨f,k⟩=>⟨f,M,g,_,?_,h.iv k rfl⟩;have c:fQ M S (M.x.getD S.a.toNat 0) (M.x.getD S.b.toNat 0) (Uz.wrap S.imm)=Uz.wrap (M.pc+Uz.wrap S.imm):=(by unfold fQ;rw [JZ9 ab,decide_eq_false ab];rfl);rw [c,JZ9 (show ¬ 4<S.op by omega)];exact Bc (aW _) d rfl rfl rfl rfl
 by_cases n:S.op=4;·have:=NT h.row n s ⟨m,show S.a<(M.x.length:Int) by rw [a];omega⟩ w0 r;rw [F3] at this;refine this.mono λe w' ⟨f,k⟩=>⟨f,M,g,_,?_,h.iv k rfl⟩;have c:fQ M S (M.x.getD S.a.toNat 0) (M.x.getD S.b.toNat 0) (Uz.wrap S.imm)=D4 .andNot .u64 (Uz.wrap (M.x.getD S.a.toNat 0+Uz.wrap S.imm)) 1:=(by unfold fQ;rw [JZ8 n]);rw [c,JZ9 (show ¬ 4<S.op by omega)];exact Bc (ah _ _ _) d rfl rfl rfl rfl
 ·have:=Ds h.row (show 5<=S.op by omega) p s ⟨m,show S.a<(M.x.length:Int) by rw [a];omega⟩ ⟨q,show S.b<(M.x.length:Int) by rw [a];omega⟩ w0 r v;rw [F3,F3] at this;refine this.mono λe w' ⟨f,k⟩=>⟨f,M,g,_,?_,h.iv k rfl⟩;rw [JZ8 (show 4<S.op by omega)];show Pf _ _ _ _ (if KO S.op (M.x.getD S.a.toNat 0) (M.x.getD S.b.toNat 0)=true then rC (t0 M S W) (Uz.wrap (M.pc+Uz.wrap S.imm)) else t0 M S W);cases j:KO S.op (M.x.getD S.a.toNat 0) (M.x.getD S.b.toNat 0) with
  | true =>have c:fQ M S (M.x.getD S.a.toNat 0) (M.x.getD S.b.toNat 0) (Uz.wrap S.imm)=Uz.wrap (M.pc+Uz.wrap S.imm):=(by unfold fQ;rw [JZ9 n,decide_eq_true (show 4<S.op by omega),j];rfl);rw [c,JZ8 rfl];exact Bc (x:=Uz.wrap (M.pc+4)) (rd:=0) (aW _) d rfl rfl rfl lF
  | false =>have c:fQ M S (M.x.getD S.a.toNat 0) (M.x.getD S.b.toNat 0) (Uz.wrap S.imm)=Uz.wrap (M.pc+4):=(by unfold fQ;rw [JZ9 n,decide_eq_true (show 4<S.op by omega),j];rfl);have e2:(D4 .and .u64 (Uz.wrap (M.pc+4)) 2 != 0)=false:=(by rw [<- zj (aW _)];have:=d.al4;rw [IntKind.wrap_u64];simp [de];omega);rw [c,e2,JZ9 bc,JZ9 bc];refine ⟨?_,d,rfl,rfl,λe=>yn⟩;rw [jk rfl];exact congrArg (λz=>(z,(1:Int))) (lF (M:=M) (rd:=S.rd) (to:=Uz.wrap (M.pc+4)))
theorem QY (d:Gd M) (n:Nat) (s:Bool) (a:Int) (hn:n=jP S.op) (hs:s=decide (S.op-11<4)):Pf false (m9 M S a) S (aH M a n 2 0).2.1 (t8 (t0 M S W) (aH M a n 2 0) a n s):=by
 have f:m9 M S a=if ((aH M a n 2 0).2.2 != 0)=true then cH (aH M a n 2 0) 0 a else (aZ (aH M a n 2 0).2.1 S.rd (if s=true then ay (8*n) (aH M a n 2 0).1 else (aH M a n 2 0).1) (Uz.wrap ((aH M a n 2 0).2.1.pc+4)),1):=by
  subst hn hs;unfold m9;dsimp only;by_cases q:S.op-11<4;·rw [JZ8 q,decide_eq_true q,JZ8 rfl]
  ·rw [JZ9 q,decide_eq_false q];rfl
 rw [f,(jc M a n 2 0).1];have g:=d.acc a n 2 0;have c:=λb=>nj (cf:=false) (i:=S) (t:=t0 M S W) (M:=M) (a:=a) (n:=n) (kind:=2) (x:=0) rfl d b rfl rfl;unfold t8;generalize aH M a n 2 0=X at *;cases b:(X.2.2 != 0) with
 | true=>rw [JZ8 rfl,JZ8 rfl];exact c b
 | false =>rw [JZ9 (show ¬ (false) by decide),JZ9 (show ¬ (false) by decide)];refine ⟨?_,g,rfl,rfl,λe=>yn⟩;rw [jk rfl];rfl
theorem OD (d:Gd M) (n:Nat) (a x:Int) (hn:n=2^(S.op-18).toNat):Pf false (nQ M S a x) S (aH M a n 3 x).2.1 (nU (t0 M S W) (aH M a n 3 x) a):=by
 have g:nQ M S a x=if ((aH M a n 3 x).2.2 != 0)=true then cH (aH M a n 3 x) 0 a else (aZ (aH M a n 3 x).2.1 0 0 (Uz.wrap ((aH M a n 3 x).2.1.pc+4)),1):=by subst hn;rfl
 obtain ⟨f,e2,_,_⟩:=jc M a n 3 x;rw [g,f];have h:=d.acc a n 3 x;have c:=λb=>nj (cf:=false) (i:=S) (t:=t0 M S W) (M:=M) (a:=a) (n:=n) (kind:=3) (x:=x) rfl d b rfl rfl;generalize aH M a n 3 x=X at *;cases b:(X.2.2 != 0) with
 | true=>rw [JZ8 rfl];exact c b
 | false =>rw [JZ9 bc];unfold nU;rw [b,JZ9 bc];refine ⟨?_,h,rfl,rfl,λe=>yn⟩;rw [jk rfl];have:=lF (M:=X.2.1) (rd:=S.rd) (to:=Uz.wrap (M.pc+4));rw [e2] at this;exact congrArg (λz=>(z,(1:Int))) this
theorem pL {args:MV->TV->Prop} {S:C6->Prop} {fn:List KI} {F:Fr} (h:Tq B A l M n P K) (H:Hn prog (Tq B A l M n P) (Tq B A l M n P)) (c:∀ W,Tq B A l M n P W->D2 prog t Q W (TR B A l args)) (hn:iw fn) (hx:((be prog [⟨A,bI M n P,[]⟩] H w true 90 fn F).1.1,Jf prog w (be prog [⟨A,bI M n P,[]⟩] H w true 90 fn F).1.2.2 (be prog [⟨A,bI M n P,[]⟩] H w true 90 fn F).1.2.1)=(false,some (t,Q))) (he:(be prog [⟨A,bI M n P,[]⟩] H w true 90 fn F).2.map I1=(be prog [⟨A,bI M n P,[]⟩] H w true 90 fn F).2.map I2) (hb:(xr (be prog [⟨A,bI M n P,[]⟩] H w true 90 fn F).1.2.2 (be prog [⟨A,bI M n P,[]⟩] H w true 90 fn F).1.2.1,iw (n7 (be prog [⟨A,bI M n P,[]⟩] H w true 90 fn F).1.2.2 (be prog [⟨A,bI M n P,[]⟩] H w true 90 fn F).1.2.1))=(false,true)) (hy:∀ J:C6->Prop,(λ(y:(Bool × List KI × Fr) × List (Oe × Oe))=>(y.1.1,iw y.1.2.1,y.1.2.1.isEmpty,y.2.map I1)) (be prog [] ({}:Hn prog J J) w false 20 (n7 (be prog [⟨A,bI M n P,[]⟩] H w true 90 fn F).1.2.2 (be prog [⟨A,bI M n P,[]⟩] H w true 90 fn F).1.2.1) (pV (be prog [⟨A,bI M n P,[]⟩] H w true 90 fn F).1.2.2 (be prog [⟨A,bI M n P,[]⟩] H w true 90 fn F).1.2.1 (.tuple #[]) 0))=(false,true,true,[])) (hr:k.results=#[]):Wg prog S (C5 prog k (TR B A l args)) w fn F K:=by simp only [Prod.mk.injEq] at hb;refine aL (Tq B A l M n P) (hn:=hn) ?_;refine aT (Tq.eng (dr:=true)) H 90 h c (hx:=hx) (he:=he) ?_;rintro j e i f ⟨rfl,M',A',t',d,b⟩;refine ⟨_,0,rfl,gi hb.1,?_⟩;have a:=hy (λx=>x=i);simp only [Prod.mk.injEq] at a;refine iL {} 20 (by rw [hb.2,a.1,a.2.1,a.2.2.1]) ?_ hr ⟨rfl,M',A',t',d,b⟩;rw [A8.1 a.2.2.2];rfl
theorem KH {g:MA} (f:jT S) (h:Tq B A l M g (t0 M S W) a) (c:Gd M) (hd:Ud M.d) (H:M.wt=false): D2 prog 136 #[.p A 0] a (TR B A l (Pf (decide (87<=S.op/\S.op<=92)) (dg M S W) S)):=by
 have V:=f.op1;have I:=f.op98;have u:=c.x32;have ua:=c.ux S.a.toNat;have X:=c.ux S.b.toNat;obtain ⟨_,_,Z,J,Y⟩:=Iy V I;have w0:eM S.op=(if S.op<3 then .iface 206 (.agg #[]) else if S.op<11 then .iface 207 (.agg #[]) else if S.op<18 then nu .ld (wN S.op) (wS S.op) else if S.op<22 then nu .st (wN S.op) (wS S.op) else if S.op<63 then .iface 206 (.agg #[]) else if S.op<85 then (if S.op=63\/S.op=74 then nu .hd (wN S.op) (wS S.op) else if S.op=64\/S.op=75 then nu .sc (wN S.op) (wS S.op) else nu .am (wN S.op) (wS S.op)) else if S.op<87 then .iface 218 (.agg #[]) else if S.op<93 then .iface 219 (.agg #[]) else .iface 220 (.agg #[])):=rfl;have O:=λwd (h:Tq B A l M g (t0 M S W) wd)=>TM h u f.a0 f.a31;have i:=λwd (h:Tq B A l M g (t0 M S W) wd)=>We h u f.b0 f.b31;have P:=λwd (h:Tq B A l M g (t0 M S W) wd)=>tE h.row;have w:(t0 M S W).fm=eM S.op:=rfl;refine fy (args:=[.p A 0]) (Tq B A l M g (t0 M S W)) func136 ?_;refine aP 0 1 ?_;have k:eM S.op=.iface 206 (.agg #[])->dg M S W=(aZ M S.rd (xj M S) (Uz.wrap (M.pc+4)),1)->Wg prog (Tq B A l M g (t0 M S W)) (C5 prog Tryz.f136 (TR B A l (Pf false (dg M S W) S))) Tryz.f136.ntmps [.code (aM Tryz.f136)] [(0,.p A 0,1)] a:=by intro b d;have T:=λwd (h:Tq B A l M g (t0 M S W) wd)=>Gh S W f h c;rw [d];generalize xj M S=v at *;refine aT (Tq.eng (dr:=true)) {eq:=[(5,⟨_,_,0,w.trans b⟩)]} 90 h T ?_;rintro y e N t ⟨rfl,p⟩;refine ⟨_,0,rfl,gi ba,?_⟩;refine aL (λ_=>True) ?_;refine aP 9 1 ?_;refine gt (R1:=[⟨A,bI M g {t0 M S W with rs:=v},[]⟩]) (Iv.one p.row) {} 40 λQ D=>⟨rfl,M,g,{t0 M S W with rs:=v},⟨?_,c,rfl,rfl,λe=>yn⟩,p.iv D rfl⟩;rw [jk rfl];rfl
 by_cases R:S.op<3
 ·have b:eM S.op=.iface 206 (.agg #[]):=(by rw [w0,JZ8 R]);rw [decide_eq_false ab];refine k b ?_;unfold dg xj;dsimp only;by_cases q:S.op=1;·rw [JZ8 q,JZ8 q]
  ·rw [JZ9 q,JZ8 ab,JZ9 q,JZ8 ab]
 by_cases c2:S.op<11;·have b:eM S.op=.iface 207 (.agg #[]):=(by rw [w0,JZ9 ab,JZ8 ab]);have d:dg M S W=qb M S (M.x.getD S.a.toNat 0) (M.x.getD S.b.toNat 0) (Uz.wrap S.imm):=ri;rw [decide_eq_false ab,d];exact pL h {eq:=[(5,⟨_,_,0,w.trans b⟩)]} (λwd j=>TS S W f ab ab j c) ba ba ba ba (λ_=>ba) rfl
 by_cases c3:S.op<18;·have b:eM S.op=nu .ld (wN S.op) (wS S.op):=(by rw [w0,JZ9 ab,JZ9 ab,JZ8 ab]);have d:dg M S W=m9 M S (Uz.wrap (M.x.getD S.a.toNat 0+Uz.wrap S.imm)):=lh;rw [decide_eq_false ab,d];obtain ⟨m,e2⟩:=Z ab;have F:wN S.op=1\/wN S.op=2\/wN S.op=4\/wN S.op=8:=(by have q:S.op=11\/S.op=12\/S.op=13\/S.op=14\/S.op=15\/S.op=16\/S.op=17:=ab;rw [m];rcases q with q | q | q | q | q | q | q<;>rw [q]<;>decide);have E:=λwd (h:Tq B A l M g (t0 M S W) wd)=>(Gj h c rfl .ld (wN S.op) (wS S.op) F (w.trans b) (Uz.wrap (M.x.getD S.a.toNat 0+Uz.wrap S.imm)) (aW _)).mono λe w' ⟨C,K,L⟩=>And.intro K (Exists.intro C L);have G:=QY S W c (wN S.op) (wS S.op) (Uz.wrap (M.x.getD S.a.toNat 0+Uz.wrap S.imm)) m e2;generalize wN S.op=n at *;generalize wS S.op=s at *;refine aT (Tq.eng (dr:=true)) {eq:=[(5,⟨_,_,0,w.trans b⟩)],cv:=[(24,ue O),(26,ue P)]} 90 h E ?_;rintro y e N t ⟨rfl,C,p⟩;refine ⟨_,0,rfl,gi ba,?_⟩;exact iL {} 40 ba ba rfl ⟨rfl,_,C,_,G,p⟩
 by_cases c4:S.op<22;·have b:eM S.op=nu .st (wN S.op) (wS S.op):=(by rw [w0,JZ9 ab,JZ9 ab,JZ9 ab,JZ8 ab]);have d:dg M S W=nQ M S (Uz.wrap (M.x.getD S.a.toNat 0+Uz.wrap S.imm)) (M.x.getD S.b.toNat 0):=i6;rw [decide_eq_false ab,d];have m:=J ab;have F:wN S.op=1\/wN S.op=2\/wN S.op=4\/wN S.op=8:=(by have q:S.op=18\/S.op=19\/S.op=20\/S.op=21:=ab;rw [m];rcases q with q | q | q | q<;>rw [q]<;>decide);have E:=λwd (h:Tq B A l M g (t0 M S W) wd)=>(Bb h c rfl .st (wN S.op) (wS S.op) F (w.trans b) (Uz.wrap (M.x.getD S.a.toNat 0+Uz.wrap S.imm)) (M.x.getD S.b.toNat 0) (aW _) X).mono λe w' ⟨C,K,L⟩=>And.intro K (Exists.intro C L);have G:=OD S W c (wN S.op) (Uz.wrap (M.x.getD S.a.toNat 0+Uz.wrap S.imm)) (M.x.getD S.b.toNat 0) m;generalize wN S.op=n at *;generalize wS S.op=s at *;refine aT (Tq.eng (dr:=true)) {eq:=[(5,⟨_,_,0,w.trans b⟩)],cv:=[(34,ue O),(36,ue P),(39,ue i)]} 90 h E ?_;rintro y e N t ⟨rfl,C,p⟩;refine ⟨_,0,rfl,gi ba,?_⟩;exact iL {} 40 ba ba rfl ⟨rfl,_,C,_,G,p⟩
 by_cases c5:S.op<63;·have b:eM S.op=.iface 206 (.agg #[]):=(by rw [w0,JZ9 ab,JZ9 ab,JZ9 ab,JZ9 ab,JZ8 ab]);rw [decide_eq_false ab];refine k b ?_;have m:dg M S W=(aZ M S.rd (nD S.op (M.x.getD S.a.toNat 0) (if (fq S.op).toList=[82] then M.x.getD S.b.toNat 0 else Uz.wrap S.imm)) (Uz.wrap (M.pc+4)),1):=i2;have e2:xj M S=nD S.op (M.x.getD S.a.toNat 0) (if (fq S.op).toList=[82] then M.x.getD S.b.toNat 0 else Uz.wrap S.imm):=(by unfold xj;rw [JZ9 ab,JZ9 ab]);rw [m,e2]
 clear k;by_cases c6:S.op<85
 ·have d:dg M S W=je M S (M.x.getD S.a.toNat 0) (M.x.getD S.b.toNat 0):=g5;rw [decide_eq_false ab,d];have o:eM S.op=(if S.op=63\/S.op=74 then nu .hd (wN S.op) (wS S.op) else if S.op=64\/S.op=75 then nu .sc (wN S.op) (wS S.op) else nu .am (wN S.op) (wS S.op)):=(by rw [w0,JZ9 ab,JZ9 ab,JZ9 ab,JZ9 ab,JZ9 ab,JZ8 ab]);by_cases r:S.op=63\/S.op=74;·have b:=o.trans (JZ8 r);have U:(na S.op==0):=(by rcases r with q | q<;>rw [q]<;>decide);have e2:je M S (M.x.getD S.a.toNat 0) (M.x.getD S.b.toNat 0)=UR M S (M.x.getD S.a.toNat 0):=(by unfold je;rw [U,JZ8 rfl]);rw [e2];exact pL h {eq:=[(5,⟨_,_,0,w.trans b⟩)]} (λwd j=>TO S W f r j c hd) ba ba ba ba (λ_=>ba) rfl
  ·by_cases x:S.op=64\/S.op=75;·have b:=(o.trans (JZ9 r)).trans (JZ8 x);exact pL h {eq:=[(5,⟨_,_,0,w.trans b⟩)]} (λwd j=>TP S W f x j c) ba ba ba ba (λ_=>ba) rfl
   ·have b:=(o.trans (JZ9 r)).trans (JZ9 x);exact pL h {eq:=[(5,⟨_,_,0,w.trans b⟩)]} (λwd j=>U8 S W f ab ab ⟨r,x⟩ j c hd) ba ba ba ba (λ_=>ba) rfl
 by_cases c7:S.op<87;·have b:eM S.op=.iface 218 (.agg #[]):=(by rw [w0,JZ9 ab,JZ9 ab,JZ9 ab,JZ9 ab,JZ9 ab,JZ9 ab,JZ8 ab]);have d:dg M S W=(aZ M 0 0 (Uz.wrap (M.pc+4)),1):=fr;rw [decide_eq_false ab,d];refine ae (Tq.eng (dr:=true)) {eq:=[(5,⟨_,_,0,w.trans b⟩)]} 2 h λy t=>?_;refine aL (λ_=>True) ?_;refine gt (R1:=[⟨A,bI M g (t0 M S W),[]⟩]) (Iv.one t.row) {eq:=[(5,⟨_,_,0,w.trans b⟩)]} 90 λQ D=>⟨rfl,M,g,t0 M S W,⟨?_,c,rfl,rfl,λe=>yn⟩,t.iv D rfl⟩;rw [jk rfl];exact congrArg (λz=>(z,(1:Int))) (lF (M:=M) (rd:=S.rd) (to:=Uz.wrap (M.pc+4)))
 by_cases c8:S.op<93;·have b:eM S.op=.iface 219 (.agg #[]):=(by rw [w0,JZ9 ab,JZ9 ab,JZ9 ab,JZ9 ab,JZ9 ab,JZ9 ab,JZ9 ab,JZ8 ab]);have d:dg M S W=nR M S (M.x.getD S.a.toNat 0) W:=e9;rw [decide_eq_true ab,d];exact pL h {eq:=[(5,⟨_,_,0,w.trans b⟩)]} (λwd j=>Va S W f ab ab j c) ba ba ba ba (λ_=>ba) rfl
 have b:eM S.op=.iface 220 (.agg #[]):=by rw [w0,JZ9 ab,JZ9 ab,JZ9 ab,JZ9 ab,JZ9 ab,JZ9 ab,JZ9 ab,JZ9 ab]
 have d:dg M S W=kS M S W:=by unfold dg;dsimp only;rw [JZ9 ab,JZ9 ab,JZ9 ab,JZ9 ab,JZ9 ab,JZ9 ab,JZ9 ab,JZ9 ab,JZ9 ab]
 rw [decide_eq_false ab,d];exact pL h {eq:=[(5,⟨_,_,0,w.trans b⟩)]} (λwd j=>OB S W f ab j c H) ba ba ba ba (λ_=>ba) rfl
