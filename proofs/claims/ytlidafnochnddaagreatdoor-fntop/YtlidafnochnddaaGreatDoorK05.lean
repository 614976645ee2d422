/- Own lemmas. -/
import Derived.Test.YtlidafnochnddaaGreatDoorAut
import Derived.Test.YtlidafnochnddaaGreatDoorK04
import Derived.OpenShut
set_option maxRecDepth 100000
set_option maxHeartbeats 3200000
namespace Go.Proofs.YtlidafnochnddaaGreatDoor
open Go.RowKit Tryz
open IntKind renaming u64->Uz
open Below renaming refl->L4
open Bool renaming false_eq_true->H5
open Go renaming cell_of_row->A0,heap_alloc_new->A5,World->A6,bits->F0,bodyPost_ret->F3,wpList_store_rowTo->G3,Calls->H1,Operand->H2,setRow_heap->H3
open IntKind renaming wrap_u64->K4
open List renaming foldl_nil->H8,foldl_cons->I4,getD->I5
open Nat renaming le_refl->K1
open RowKit renaming wrap64->K0
set_option linter.unusedVariables false
set_option linter.unusedSimpArgs false
variable {x:Int} {a:Ins} {f:Oper} {k:Act} {c:A6} {w:Exit->Act->A6->Prop} {b:Array Oper} {o:List Oper} (y:Nat) (d:Fm) (e g j Q m:Int)
theorem gT (k n:Nat) (c:Int) (y:c=2^k) (a:0<=e) (f:e<18446744073709551616) (i:0<=g) (d:g<2^n) (b:k+n<=64) (h:e/2^k%2^n=0):F0 .or .u64 e (g*c)=e+g*c:=by subst y;exact pG e g k n a f i d b h
theorem ng (k n:Nat) (c:Int) (f:c=2^k) (j:0<=e) (l:e<18446744073709551616) (y:0<=g) (b:g<2^n) (d:k+n<=64) (h:e/2^k%2^n=0):F0 .or .u64 e (Uz.wrap (g*c))=e+g*c:=by
 have a:Uz.wrap (g*c)=g*c:=by subst f;have p:(0:Int)<2^k:=Int.pow_pos aa;have m:g*2^k<2^n*2^k:=Int.mul_lt_mul_of_pos_right b p;rw [<- Int.pow_add] at m;have q:=xQ (n+k) 64 aa;have i:(2:Int)^64=18446744073709551616:=ba;have o:0<=g*2^k:=Int.mul_nonneg y aa;exact Pe _ o aa
 rw [a];exact gT e g k n c f j l y b d h
theorem Pg (U:0<=e) (V:e<4294967296) (o z m:Int) (k:Int) (n:o=e%128) (p:z=e/4096%8) (q:m=e/33554432):gB .r o z m ⟨k,dP .r e,aV .r e,bV .r e,aR .r e⟩=e:=by
 have l:d7 .r o z m=o+z*4096+m*2^Fm.at .r:=ce .r o z m aa aa aa aa aa cd kx
 simp only [Fm.at] at l
 have t:aG (dG (dP .r e)) 0 5=e/128%32:=by
  have x:dP .r e=e/128%32:=dm
  rw [x,bT _ aa aa];simp [aG]
 have r:aG (dG (aV .r e)) 0 5=e/32768%32:=by
  have x:aV .r e=e/32768%32:=dv
  rw [x,bT _ aa aa];simp [aG]
 have s:aG (dG (bV .r e)) 0 5=e/1048576%32:=by
  have x:bV .r e=e/1048576%32:=g4
  rw [x,bT _ aa aa];simp [aG]
 have S:0<=z/\z<8:=aa
 have R:0<=o/\o<128:=aa
 have Q:0<=m/\m<128:=aa
 have d:Hid (o=e%128):=n
 have f:Hid (z=e/4096%8):=p
 have g:Hid (m=e/33554432):=q
 clear n p q
 obtain ⟨y,c,N,O⟩:∃ v:Int,v=e/128%32/\0<=v/\v<32:=⟨_,rfl,aa,aa⟩
 rw [<- c] at t
 have j:Hid (y=e/128%32):=c
 clear c
 obtain ⟨u,a,H,I⟩:∃ v:Int,v=e/32768%32/\0<=v/\v<32:=⟨_,rfl,aa,aa⟩
 rw [<- a] at r
 have h:Hid (u=e/32768%32):=a
 clear a
 obtain ⟨w,b,K,L⟩:∃ v:Int,v=e/1048576%32/\0<=v/\v<32:=⟨_,rfl,aa,aa⟩
 rw [<- b] at s
 have i:Hid (w=e/1048576%32):=b
 clear b
 simp only [gB,kC,jY,jX,j8,Fm.pcs,Fm.hasRd,Fm.hasA,Fm.hasB,I4,H8,if_true,H5,if_false]
 rw [l,
  t,
  ng _ y 7 5 128 ba aa aa aa aa aa aa,
  r,
  ng _ u 15 5 32768 ba aa aa aa aa aa aa,
  s,
  ng _ w 20 5 1048576 ba aa aa aa aa aa aa]
 have P:=j.out
 have J:=h.out
 have M:=i.out
 have A:=d.out
 have B:=f.out
 have C:=g.out
 clear j h i d f g
 have T:e/1=e/1%128+128*(e/128):=aa
 have D:e/128=e/128%32+32*(e/4096):=aa
 have E:e/4096=e/4096%8+8*(e/32768):=aa
 have F:e/32768=e/32768%32+32*(e/1048576):=aa
 have G:e/1048576=e/1048576%32+32*(e/33554432):=aa
 omega
theorem Ph (V:0<=e) (W:e<4294967296) (o z m:Int) (k:Int) (q:o=e%128) (r:z=e/4096%8) (s:m=e/33554432):ju .r o z m ⟨k,dP .r e,aV .r e,bV .r e,aR .r e⟩=e:=by
 have w:dP .r e=e/128%32:=dm
 have t:aV .r e=e/32768%32:=dv
 have u:bV .r e=e/1048576%32:=g4
 have T : -1<=z/\z<8:=aa
 have A:0<=z:=aa
 have S:0<=o/\o<128:=aa
 have R:0<=m/\m<128:=aa
 have d:Hid (o=e%128):=q
 have x:Hid (z=e/4096%8):=r
 have f:Hid (m=e/33554432):=s
 clear q r s
 simp only [ju]
 obtain ⟨n,c,O,P⟩:∃ v:Int,v=e/128%32/\0<=v/\v<32:=⟨_,rfl,aa,aa⟩
 rw [<- c] at w
 have i:Hid (n=e/128%32):=c
 clear c
 obtain ⟨j,a,I,J⟩:∃ v:Int,v=e/32768%32/\0<=v/\v<32:=⟨_,rfl,aa,aa⟩
 rw [<- a] at t
 have g:Hid (j=e/32768%32):=a
 clear a
 obtain ⟨l,b,L,M⟩:∃ v:Int,v=e/1048576%32/\0<=v/\v<32:=⟨_,rfl,aa,aa⟩
 rw [<- b] at u
 have h:Hid (l=e/1048576%32):=b
 clear b
 have p:fP o ⟨k,dP .r e,aV .r e,bV .r e,aR .r e⟩=o+n*128+j*32768+l*1048576:=by
  simp only [fP,w,t,u]
  rw [gT _ n 7 5 128 ba aa aa aa aa aa aa,gT _ j 15 5 32768 ba aa aa aa aa aa aa,gT _ l 20 5 1048576 ba aa aa aa aa aa aa]
 have y:dS o z ⟨k,dP .r e,aV .r e,bV .r e,aR .r e⟩=o+n*128+j*32768+l*1048576+z*4096:=by
  unfold dS
  split
  ·rw [p,gT _ z 12 3 4096 ba aa aa aa aa aa aa]
  ·rw [p];omega
 rw [y,
  gT _ m 25 7 33554432 ba aa aa aa aa aa aa]
 have Q:=i.out
 have K:=g.out
 have N:=h.out
 have B:=d.out
 have C:=x.out
 have D:=f.out
 clear i g h d x f
 have U:e/1=e/1%128+128*(e/128):=aa
 have E:e/128=e/128%32+32*(e/4096):=aa
 have F:e/4096=e/4096%8+8*(e/32768):=aa
 have G:e/32768=e/32768%32+32*(e/1048576):=aa
 have H:e/1048576=e/1048576%32+32*(e/33554432):=aa
 omega
theorem Pi (Y:0<=e) (Z:e<4294967296) (o z m:Int) (k:Int) (r:o=e%128) (s:z=e/4096%8) (t:m=0):gB .i o z m ⟨k,dP .i e,aV .i e,bV .i e,aR .i e⟩=e:=by
 have p:d7 .i o z m=o+z*4096+m*2^Fm.at .i:=ce .i o z m aa aa aa aa aa cd cd
 simp only [Fm.at] at p
 have A:aG (dG (dP .i e)) 0 5=e/128%32:=by
  have x:dP .i e=e/128%32:=dm
  rw [x,bT _ aa aa];simp [aG]
 have y:aG (dG (aV .i e)) 0 5=e/32768%32:=by
  have x:aV .i e=e/32768%32:=dv
  rw [x,bT _ aa aa];simp [aG]
 have W:0<=z/\z<8:=aa
 obtain ⟨l,c,R,S⟩:∃ v:Int,v=e/1048576%4096/\0<=v/\v<4096:=⟨_,rfl,aa,aa⟩
 have w:e/1048576=l*1:=aa
 obtain ⟨q,J,h⟩:=D9 (e/1048576) aa aa
 have u:dG (aR .i e)=l*1+q*4096:=by rw [<- w];exact h
 clear h
 have n:Hid (l=e/1048576%4096):=c
 clear w c
 have V:0<=o/\o<128:=aa
 have U:0<=m/\m<1:=aa
 have d:Hid (o=e%128):=r
 have f:Hid (z=e/4096%8):=s
 have g:Hid (m=0):=t
 clear r s t
 have K:aG (dG (aR .i e)) 0 12=l:=by rw [u];exact nr
 clear u J
 obtain ⟨C,b,O,P⟩:∃ v:Int,v=e/128%32/\0<=v/\v<32:=⟨_,rfl,aa,aa⟩
 rw [<- b] at A
 have j:Hid (C=e/128%32):=b
 clear b
 obtain ⟨B,a,L,M⟩:∃ v:Int,v=e/32768%32/\0<=v/\v<32:=⟨_,rfl,aa,aa⟩
 rw [<- a] at y
 have i:Hid (B=e/32768%32):=a
 clear a
 simp only [gB,kC,jY,jX,j8,Fm.pcs,Fm.hasRd,Fm.hasA,Fm.hasB,I4,H8,if_true,H5,if_false]
 rw [p,
  A,
  ng _ C 7 5 128 ba aa aa aa aa aa aa,
  y,
  ng _ B 15 5 32768 ba aa aa aa aa aa aa,
  K,
  ng _ l 20 12 (2^20) rfl aa aa aa aa aa aa]
 have Q:=j.out
 have N:=i.out
 have T:=n.out
 have D:=d.out
 have E:=f.out
 have F:=g.out
 clear j i n d f g
 have X:e/1=e/1%128+128*(e/128):=aa
 have G:e/128=e/128%32+32*(e/4096):=aa
 have H:e/4096=e/4096%8+8*(e/32768):=aa
 have I:e/32768=e/32768%32+32*(e/1048576):=aa
 omega
theorem Pj (h0:0<=e) (h1:e<4294967296) (o z m:Int) (k:Int) (s:o=e%128) (t:z=e/4096%8) (u:m=0):ju .i o z m ⟨k,dP .i e,aV .i e,bV .i e,aR .i e⟩=e:=by
 have C:dP .i e=e/128%32:=dm
 have B:aV .i e=e/32768%32:=dv
 have M:bV .i e=0:=lg
 have Y : -1<=z/\z<8:=aa
 have E:0<=z:=aa
 obtain ⟨j,c,T,U⟩:∃ v:Int,v=e/1048576%4096/\0<=v/\v<4096:=⟨_,rfl,aa,aa⟩
 have y:e/1048576=j*1:=aa
 obtain ⟨q,L,g⟩:=D9 (e/1048576) aa aa
 have w:dG (aR .i e)=j*1+q*4096:=by rw [<- y];exact g
 clear g
 have l:Hid (j=e/1048576%4096):=c
 clear y c
 have X:0<=o/\o<128:=aa
 have W:0<=m/\m<1:=aa
 have d:Hid (o=e%128):=s
 have x:Hid (z=e/4096%8):=t
 have f:Hid (m=0):=u
 clear s t u
 have A:dG (aR .i e)%4096=j:=by rw [w];omega
 clear w L
 simp only [ju]
 rw [A]
 clear A
 obtain ⟨p,b,Q,R⟩:∃ v:Int,v=e/128%32/\0<=v/\v<32:=⟨_,rfl,aa,aa⟩
 rw [<- b] at C
 have i:Hid (p=e/128%32):=b
 clear b
 obtain ⟨n,a,N,O⟩:∃ v:Int,v=e/32768%32/\0<=v/\v<32:=⟨_,rfl,aa,aa⟩
 rw [<- a] at B
 have h:Hid (n=e/32768%32):=a
 clear a
 have r:fP o ⟨k,dP .i e,aV .i e,bV .i e,aR .i e⟩=o+p*128+n*32768+0*1048576:=by
  simp only [fP,C,B,M]
  rw [gT _ p 7 5 128 ba aa aa aa aa aa aa,gT _ n 15 5 32768 ba aa aa aa aa aa aa,gT _ 0 20 5 1048576 ba aa aa aa aa aa aa]
 have D:dS o z ⟨k,dP .i e,aV .i e,bV .i e,aR .i e⟩=o+p*128+n*32768+0*1048576+z*4096:=by
  unfold dS
  split
  ·rw [r,gT _ z 12 3 4096 ba aa aa aa aa aa aa]
  ·rw [r];omega
 rw [D,
  gT _ j 20 12 1048576 ba aa aa aa aa aa aa]
 have S:=i.out
 have P:=h.out
 have V:=l.out
 have F:=d.out
 have G:=x.out
 have H:=f.out
 clear i h l d x f
 have Z:e/1=e/1%128+128*(e/128):=aa
 have I:e/128=e/128%32+32*(e/4096):=aa
 have J:e/4096=e/4096%8+8*(e/32768):=aa
 have K:e/32768=e/32768%32+32*(e/1048576):=aa
 omega
theorem Pk (W:0<=e) (X:e<4294967296) (o z m:Int) (k:Int) (p:o=e%128) (q:z=e/4096%8) (r:m=e/67108864):gB .h o z m ⟨k,dP .h e,aV .h e,bV .h e,aR .h e⟩=e:=by
 have n:d7 .h o z m=o+z*4096+m*2^Fm.at .h:=ce .h o z m aa aa aa aa aa cd kx
 simp only [Fm.at] at n
 have w:aG (dG (dP .h e)) 0 5=e/128%32:=by
  have x:dP .h e=e/128%32:=dm
  rw [x,bT _ aa aa];simp [aG]
 have u:aG (dG (aV .h e)) 0 5=e/32768%32:=by
  have x:aV .h e=e/32768%32:=dv
  rw [x,bT _ aa aa];simp [aG]
 have U:0<=z/\z<8:=aa
 obtain ⟨j,c,P,Q⟩:∃ v:Int,v=e/1048576%64/\0<=v/\v<64:=⟨_,rfl,aa,aa⟩
 have t:e/1048576%64=j*1:=aa
 have s:dG (aR .h e)=j*1:=by rw [<- t];exact rL (e/1048576%64) aa aa
 have l:Hid (j=e/1048576%64):=c
 clear t c
 have T:0<=o/\o<128:=aa
 have S:0<=m/\m<64:=aa
 have d:Hid (o=e%128):=p
 have f:Hid (z=e/4096%8):=q
 have g:Hid (m=e/67108864):=r
 clear p q r
 have I:aG (dG (aR .h e)) 0 6=j:=by rw [s];exact nr
 clear s
 obtain ⟨A,b,M,N⟩:∃ v:Int,v=e/128%32/\0<=v/\v<32:=⟨_,rfl,aa,aa⟩
 rw [<- b] at w
 have i:Hid (A=e/128%32):=b
 clear b
 obtain ⟨y,a,J,K⟩:∃ v:Int,v=e/32768%32/\0<=v/\v<32:=⟨_,rfl,aa,aa⟩
 rw [<- a] at u
 have h:Hid (y=e/32768%32):=a
 clear a
 simp only [gB,kC,jY,jX,j8,Fm.pcs,Fm.hasRd,Fm.hasA,Fm.hasB,I4,H8,if_true,H5,if_false]
 rw [n,
  w,
  ng _ A 7 5 128 ba aa aa aa aa aa aa,
  u,
  ng _ y 15 5 32768 ba aa aa aa aa aa aa,
  I,
  ng _ j 20 6 (2^20) rfl aa aa aa aa aa aa]
 have O:=i.out
 have L:=h.out
 have R:=l.out
 have B:=d.out
 have C:=f.out
 have D:=g.out
 clear i h l d f g
 have V:e/1=e/1%128+128*(e/128):=aa
 have E:e/128=e/128%32+32*(e/4096):=aa
 have F:e/4096=e/4096%8+8*(e/32768):=aa
 have G:e/32768=e/32768%32+32*(e/1048576):=aa
 have H:e/1048576=e/1048576%64+64*(e/67108864):=aa
 omega
theorem Pn (Y:0<=e) (Z:e<4294967296) (o z m:Int) (k:Int) (q:o=e%128) (r:z=e/4096%8) (s:m=e/67108864):ju .h o z m ⟨k,dP .h e,aV .h e,bV .h e,aR .h e⟩=e:=by
 have A:dP .h e=e/128%32:=dm
 have y:aV .h e=e/32768%32:=dv
 have K:bV .h e=0:=lg
 have W : -1<=z/\z<8:=aa
 have C:0<=z:=aa
 obtain ⟨i,c,R,S⟩:∃ v:Int,v=e/1048576%64/\0<=v/\v<64:=⟨_,rfl,aa,aa⟩
 have u:e/1048576%64=i*1:=aa
 have t:dG (aR .h e)=i*1:=by rw [<- u];exact rL (e/1048576%64) aa aa
 have j:Hid (i=e/1048576%64):=c
 clear u c
 have V:0<=o/\o<128:=aa
 have U:0<=m/\m<64:=aa
 have d:Hid (o=e%128):=q
 have x:Hid (z=e/4096%8):=r
 have f:Hid (m=e/67108864):=s
 clear q r s
 have w:dG (aR .h e)%64=i:=by rw [t];omega
 clear t
 simp only [ju]
 rw [w]
 clear w
 obtain ⟨n,b,O,P⟩:∃ v:Int,v=e/128%32/\0<=v/\v<32:=⟨_,rfl,aa,aa⟩
 rw [<- b] at A
 have h:Hid (n=e/128%32):=b
 clear b
 obtain ⟨l,a,L,M⟩:∃ v:Int,v=e/32768%32/\0<=v/\v<32:=⟨_,rfl,aa,aa⟩
 rw [<- a] at y
 have g:Hid (l=e/32768%32):=a
 clear a
 have p:fP o ⟨k,dP .h e,aV .h e,bV .h e,aR .h e⟩=o+n*128+l*32768+0*1048576:=by
  simp only [fP,A,y,K]
  rw [gT _ n 7 5 128 ba aa aa aa aa aa aa,gT _ l 15 5 32768 ba aa aa aa aa aa aa,gT _ 0 20 5 1048576 ba aa aa aa aa aa aa]
 have B:dS o z ⟨k,dP .h e,aV .h e,bV .h e,aR .h e⟩=o+n*128+l*32768+0*1048576+z*4096:=by
  unfold dS
  split
  ·rw [p,gT _ z 12 3 4096 ba aa aa aa aa aa aa]
  ·rw [p];omega
 rw [B,
  gT _ i 20 6 1048576 ba aa aa aa aa aa aa,
  gT _ m 26 6 67108864 ba aa aa aa aa aa aa]
 have Q:=h.out
 have N:=g.out
 have T:=j.out
 have D:=d.out
 have E:=x.out
 have F:=f.out
 clear h g j d x f
 have X:e/1=e/1%128+128*(e/128):=aa
 have G:e/128=e/128%32+32*(e/4096):=aa
 have H:e/4096=e/4096%8+8*(e/32768):=aa
 have I:e/32768=e/32768%32+32*(e/1048576):=aa
 have J:e/1048576=e/1048576%64+64*(e/67108864):=aa
 omega
theorem Po (W:0<=e) (X:e<4294967296) (o z m:Int) (k:Int) (p:o=e%128) (q:z=e/4096%8) (r:m=e/33554432):gB .w o z m ⟨k,dP .w e,aV .w e,bV .w e,aR .w e⟩=e:=by
 have n:d7 .w o z m=o+z*4096+m*2^Fm.at .w:=ce .w o z m aa aa aa aa aa cd kx
 simp only [Fm.at] at n
 have w:aG (dG (dP .w e)) 0 5=e/128%32:=by
  have x:dP .w e=e/128%32:=dm
  rw [x,bT _ aa aa];simp [aG]
 have u:aG (dG (aV .w e)) 0 5=e/32768%32:=by
  have x:aV .w e=e/32768%32:=dv
  rw [x,bT _ aa aa];simp [aG]
 have U:0<=z/\z<8:=aa
 obtain ⟨j,c,P,Q⟩:∃ v:Int,v=e/1048576%32/\0<=v/\v<32:=⟨_,rfl,aa,aa⟩
 have t:e/1048576%32=j*1:=aa
 have s:dG (aR .w e)=j*1:=by rw [<- t];exact rL (e/1048576%32) aa aa
 have l:Hid (j=e/1048576%32):=c
 clear t c
 have T:0<=o/\o<128:=aa
 have S:0<=m/\m<128:=aa
 have d:Hid (o=e%128):=p
 have f:Hid (z=e/4096%8):=q
 have g:Hid (m=e/33554432):=r
 clear p q r
 have I:aG (dG (aR .w e)) 0 5=j:=by rw [s];exact nr
 clear s
 obtain ⟨A,b,M,N⟩:∃ v:Int,v=e/128%32/\0<=v/\v<32:=⟨_,rfl,aa,aa⟩
 rw [<- b] at w
 have i:Hid (A=e/128%32):=b
 clear b
 obtain ⟨y,a,J,K⟩:∃ v:Int,v=e/32768%32/\0<=v/\v<32:=⟨_,rfl,aa,aa⟩
 rw [<- a] at u
 have h:Hid (y=e/32768%32):=a
 clear a
 simp only [gB,kC,jY,jX,j8,Fm.pcs,Fm.hasRd,Fm.hasA,Fm.hasB,I4,H8,if_true,H5,if_false]
 rw [n,
  w,
  ng _ A 7 5 128 ba aa aa aa aa aa aa,
  u,
  ng _ y 15 5 32768 ba aa aa aa aa aa aa,
  I,
  ng _ j 20 5 (2^20) rfl aa aa aa aa aa aa]
 have O:=i.out
 have L:=h.out
 have R:=l.out
 have B:=d.out
 have C:=f.out
 have D:=g.out
 clear i h l d f g
 have V:e/1=e/1%128+128*(e/128):=aa
 have E:e/128=e/128%32+32*(e/4096):=aa
 have F:e/4096=e/4096%8+8*(e/32768):=aa
 have G:e/32768=e/32768%32+32*(e/1048576):=aa
 have H:e/1048576=e/1048576%32+32*(e/33554432):=aa
 omega
theorem Pq (Y:0<=e) (Z:e<4294967296) (o z m:Int) (k:Int) (q:o=e%128) (r:z=e/4096%8) (s:m=e/33554432):ju .w o z m ⟨k,dP .w e,aV .w e,bV .w e,aR .w e⟩=e:=by
 have A:dP .w e=e/128%32:=dm
 have y:aV .w e=e/32768%32:=dv
 have K:bV .w e=0:=lg
 have W : -1<=z/\z<8:=aa
 have C:0<=z:=aa
 obtain ⟨i,c,R,S⟩:∃ v:Int,v=e/1048576%32/\0<=v/\v<32:=⟨_,rfl,aa,aa⟩
 have u:e/1048576%32=i*1:=aa
 have t:dG (aR .w e)=i*1:=by rw [<- u];exact rL (e/1048576%32) aa aa
 have j:Hid (i=e/1048576%32):=c
 clear u c
 have V:0<=o/\o<128:=aa
 have U:0<=m/\m<128:=aa
 have d:Hid (o=e%128):=q
 have x:Hid (z=e/4096%8):=r
 have f:Hid (m=e/33554432):=s
 clear q r s
 have w:dG (aR .w e)%32=i:=by rw [t];omega
 clear t
 simp only [ju]
 rw [w]
 clear w
 obtain ⟨n,b,O,P⟩:∃ v:Int,v=e/128%32/\0<=v/\v<32:=⟨_,rfl,aa,aa⟩
 rw [<- b] at A
 have h:Hid (n=e/128%32):=b
 clear b
 obtain ⟨l,a,L,M⟩:∃ v:Int,v=e/32768%32/\0<=v/\v<32:=⟨_,rfl,aa,aa⟩
 rw [<- a] at y
 have g:Hid (l=e/32768%32):=a
 clear a
 have p:fP o ⟨k,dP .w e,aV .w e,bV .w e,aR .w e⟩=o+n*128+l*32768+0*1048576:=by
  simp only [fP,A,y,K]
  rw [gT _ n 7 5 128 ba aa aa aa aa aa aa,gT _ l 15 5 32768 ba aa aa aa aa aa aa,gT _ 0 20 5 1048576 ba aa aa aa aa aa aa]
 have B:dS o z ⟨k,dP .w e,aV .w e,bV .w e,aR .w e⟩=o+n*128+l*32768+0*1048576+z*4096:=by
  unfold dS
  split
  ·rw [p,gT _ z 12 3 4096 ba aa aa aa aa aa aa]
  ·rw [p];omega
 rw [B,
  gT _ i 20 5 1048576 ba aa aa aa aa aa aa,
  gT _ m 25 7 33554432 ba aa aa aa aa aa aa]
 have Q:=h.out
 have N:=g.out
 have T:=j.out
 have D:=d.out
 have E:=x.out
 have F:=f.out
 clear h g j d x f
 have X:e/1=e/1%128+128*(e/128):=aa
 have G:e/128=e/128%32+32*(e/4096):=aa
 have H:e/4096=e/4096%8+8*(e/32768):=aa
 have I:e/32768=e/32768%32+32*(e/1048576):=aa
 have J:e/1048576=e/1048576%32+32*(e/33554432):=aa
 omega
theorem Ps (h0:0<=e) (h1:e<4294967296) (o z m:Int) (k:Int) (w:o=e%128) (y:z=e/4096%8) (A:m=0):gB .s o z m ⟨k,dP .s e,aV .s e,bV .s e,aR .s e⟩=e:=by
 have u:d7 .s o z m=o+z*4096+m*2^Fm.at .s:=ce .s o z m aa aa aa aa aa cd cd
 simp only [Fm.at] at u
 have C:aG (dG (aV .s e)) 0 5=e/32768%32:=by
  have x:aV .s e=e/32768%32:=dv
  rw [x,bT _ aa aa];simp [aG]
 have D:aG (dG (bV .s e)) 0 5=e/1048576%32:=by
  have x:bV .s e=e/1048576%32:=g4
  rw [x,bT _ aa aa];simp [aG]
 have bz:0<=z/\z<8:=aa
 obtain ⟨n,c,W,X⟩:∃ v:Int,v=e/33554432%128/\0<=v/\v<128:=⟨_,rfl,aa,aa⟩
 obtain ⟨r,d,Z,y11⟩:∃ v:Int,v=e/128%32/\0<=v/\v<32:=⟨_,rfl,aa,aa⟩
 have B:e/33554432*32+e/128%32=n*32+r*1:=aa
 obtain ⟨q,N,i⟩:=D9 (e/33554432*32+e/128%32) aa aa
 have t:dG (aR .s e)=n*32+r*1+q*4096:=by rw [<- B];exact i
 clear i
 have p:Hid (n=e/33554432%128):=c
 have s:Hid (r=e/128%32):=d
 clear B c d
 have bo:0<=o/\o<128:=aa
 have bm:0<=m/\m<1:=aa
 have f:Hid (o=e%128):=w
 have g:Hid (z=e/4096%8):=y
 have h:Hid (m=0):=A
 clear w y A
 have O:aG (dG (aR .s e)) 5 7=n:=by rw [t];exact nr
 have P:aG (dG (aR .s e)) 0 5=r:=by rw [t];exact nr
 clear t N
 obtain ⟨E,a,Q,R⟩:∃ v:Int,v=e/32768%32/\0<=v/\v<32:=⟨_,rfl,aa,aa⟩
 rw [<- a] at C
 have j:Hid (E=e/32768%32):=a
 clear a
 obtain ⟨F,b,T,U⟩:∃ v:Int,v=e/1048576%32/\0<=v/\v<32:=⟨_,rfl,aa,aa⟩
 rw [<- b] at D
 have l:Hid (F=e/1048576%32):=b
 clear b
 simp only [gB,kC,jY,jX,j8,Fm.pcs,Fm.hasRd,Fm.hasA,Fm.hasB,I4,H8,if_true,H5,if_false]
 rw [u,
  C,
  ng _ E 15 5 32768 ba aa aa aa aa aa aa,
  D,
  ng _ F 20 5 1048576 ba aa aa aa aa aa aa,
  O,
  ng _ n 25 7 (2^25) rfl aa aa aa aa aa aa,
  P,
  ng _ r 7 5 (2^7) rfl aa aa aa aa aa aa]
 have S:=j.out
 have V:=l.out
 have Y:=p.out
 have y1F:=s.out
 have G:=f.out
 have H:=g.out
 have I:=h.out
 clear j l p s f g h
 have g7:e/1=e/1%128+128*(e/128):=aa
 have J:e/128=e/128%32+32*(e/4096):=aa
 have K:e/4096=e/4096%8+8*(e/32768):=aa
 have L:e/32768=e/32768%32+32*(e/1048576):=aa
 have M:e/1048576=e/1048576%32+32*(e/33554432):=aa
 omega
theorem Pt (h0:0<=e) (h1:e<4294967296) (o z m:Int) (k:Int) (y:o=e%128) (A:z=e/4096%8) (B:m=0):ju .s o z m ⟨k,dP .s e,aV .s e,bV .s e,aR .s e⟩=e:=by
 have R:dP .s e=0:=by simp [dP,Fm.hasRd]
 have F:aV .s e=e/32768%32:=dv
 have G:bV .s e=e/1048576%32:=g4
 have bz : -1<=z/\z<8:=aa
 have I:0<=z:=aa
 obtain ⟨l,c,Y,Z⟩:∃ v:Int,v=e/128%32/\0<=v/\v<32:=⟨_,rfl,aa,aa⟩
 obtain ⟨p,d,y10,y11⟩:∃ v:Int,v=e/33554432%128/\0<=v/\v<128:=⟨_,rfl,aa,aa⟩
 have C:e/33554432*32+e/128%32=l*1+p*32:=aa
 obtain ⟨q,Q,h⟩:=D9 (e/33554432*32+e/128%32) aa aa
 have u:dG (aR .s e)=l*1+p*32+q*4096:=by rw [<- C];exact h
 clear h
 have n:Hid (l=e/128%32):=c
 have r:Hid (p=e/33554432%128):=d
 clear C c d
 have bo:0<=o/\o<128:=aa
 have bm:0<=m/\m<1:=aa
 have x:Hid (o=e%128):=y
 have f:Hid (z=e/4096%8):=A
 have g:Hid (m=0):=B
 clear y A B
 have D:dG (aR .s e)%32=l:=by rw [u];omega
 have E:dG (aR .s e)/32%128=p:=by rw [u];omega
 clear u Q
 simp only [ju]
 rw [D,E]
 clear D E
 obtain ⟨s,a,S,T⟩:∃ v:Int,v=e/32768%32/\0<=v/\v<32:=⟨_,rfl,aa,aa⟩
 rw [<- a] at F
 have i:Hid (s=e/32768%32):=a
 clear a
 obtain ⟨t,b,V,W⟩:∃ v:Int,v=e/1048576%32/\0<=v/\v<32:=⟨_,rfl,aa,aa⟩
 rw [<- b] at G
 have j:Hid (t=e/1048576%32):=b
 clear b
 have w:fP o ⟨k,dP .s e,aV .s e,bV .s e,aR .s e⟩=o+0*128+s*32768+t*1048576:=by
  simp only [fP,R,F,G]
  rw [gT _ 0 7 5 128 ba aa aa aa aa aa aa,gT _ s 15 5 32768 ba aa aa aa aa aa aa,gT _ t 20 5 1048576 ba aa aa aa aa aa aa]
 have H:dS o z ⟨k,dP .s e,aV .s e,bV .s e,aR .s e⟩=o+0*128+s*32768+t*1048576+z*4096:=by
  unfold dS
  split
  ·rw [w,gT _ z 12 3 4096 ba aa aa aa aa aa aa]
  ·rw [w];omega
 rw [H,
  gT _ l 7 5 128 ba aa aa aa aa aa aa,
  gT _ p 25 7 33554432 ba aa aa aa aa aa aa]
 have U:=i.out
 have X:=j.out
 have y0F:=n.out
 have y1F:=r.out
 have J:=x.out
 have K:=f.out
 have L:=g.out
 clear i j n r x f g
 have g7:e/1=e/1%128+128*(e/128):=aa
 have M:e/128=e/128%32+32*(e/4096):=aa
 have N:e/4096=e/4096%8+8*(e/32768):=aa
 have O:e/32768=e/32768%32+32*(e/1048576):=aa
 have P:e/1048576=e/1048576%32+32*(e/33554432):=aa
 omega
theorem Pu (h0:0<=e) (h1:e<4294967296) (o z m:Int) (k:Int) (E:o=e%128) (F:z=e/4096%8) (G:m=0):gB .b o z m ⟨k,dP .b e,aV .b e,bV .b e,aR .b e⟩=e:=by
 have D:d7 .b o z m=o+z*4096+m*2^Fm.at .b:=ce .b o z m aa aa aa aa aa cd cd
 simp only [Fm.at] at D
 have I:aG (dG (aV .b e)) 0 5=e/32768%32:=by
  have x:aV .b e=e/32768%32:=dv
  rw [x,bT _ aa aa];simp [aG]
 have J:aG (dG (bV .b e)) 0 5=e/1048576%32:=by
  have x:bV .b e=e/1048576%32:=g4
  rw [x,bT _ aa aa];simp [aG]
 have bz:0<=z/\z<8:=aa
 obtain ⟨s,c,y00,y01⟩:∃ v:Int,v=e/2147483648%2/\0<=v/\v<2:=⟨_,rfl,aa,aa⟩
 obtain ⟨u,d,y10,y11⟩:∃ v:Int,v=e/128%2/\0<=v/\v<2:=⟨_,rfl,aa,aa⟩
 obtain ⟨y,f,y20,y21⟩:∃ v:Int,v=e/33554432%64/\0<=v/\v<64:=⟨_,rfl,aa,aa⟩
 obtain ⟨B,g,y30,y31⟩:∃ v:Int,v=e/256%16/\0<=v/\v<16:=⟨_,rfl,aa,aa⟩
 have H:e/2147483648*4096+e/128%2*2048+e/33554432%64*32+e/256%16*2=s*4096+u*2048+y*32+B*2:=aa
 obtain ⟨q,U,n⟩:=OD (e/2147483648*4096+e/128%2*2048+e/33554432%64*32+e/256%16*2) aa aa
 have l:dG (aR .b e)=s*4096+u*2048+y*32+B*2+q*8192:=by rw [<- H];exact n
 clear n
 have t:Hid (s=e/2147483648%2):=c
 have w:Hid (u=e/128%2):=d
 have A:Hid (y=e/33554432%64):=f
 have C:Hid (B=e/256%16):=g
 clear H c d f g
 have bo:0<=o/\o<128:=aa
 have bm:0<=m/\m<1:=aa
 have h:Hid (o=e%128):=E
 have i:Hid (z=e/4096%8):=F
 have j:Hid (m=0):=G
 clear E F G
 have V:aG (dG (aR .b e)) 12 1=s:=by rw [l];exact nr
 have W:aG (dG (aR .b e)) 11 1=u:=by rw [l];exact nr
 have X:aG (dG (aR .b e)) 5 6=y:=by rw [l];exact nr
 have Y:aG (dG (aR .b e)) 1 4=B:=by rw [l];exact nr
 clear l U
 obtain ⟨K,a,Z,va1⟩:∃ v:Int,v=e/32768%32/\0<=v/\v<32:=⟨_,rfl,aa,aa⟩
 rw [<- a] at I
 have p:Hid (K=e/32768%32):=a
 clear a
 obtain ⟨L,b,vb0,vb1⟩:∃ v:Int,v=e/1048576%32/\0<=v/\v<32:=⟨_,rfl,aa,aa⟩
 rw [<- b] at J
 have r:Hid (L=e/1048576%32):=b
 clear b
 simp only [gB,kC,jY,jX,j8,Fm.pcs,Fm.hasRd,Fm.hasA,Fm.hasB,I4,H8,if_true,H5,if_false]
 rw [D,
  I,
  ng _ K 15 5 32768 ba aa aa aa aa aa aa,
  J,
  ng _ L 20 5 1048576 ba aa aa aa aa aa aa,
  V,
  ng _ s 31 1 (2^31) rfl aa aa aa aa aa aa,
  W,
  ng _ u 7 1 (2^7) rfl aa aa aa aa aa aa,
  X,
  ng _ y 25 6 (2^25) rfl aa aa aa aa aa aa,
  Y,
  ng _ B 8 4 (2^8) rfl aa aa aa aa aa aa]
 have vaF:=p.out
 have vbF:=r.out
 have y0F:=t.out
 have y1F:=w.out
 have y2F:=A.out
 have y3F:=C.out
 have M:=h.out
 have N:=i.out
 have O:=j.out
 clear p r t w A C h i j
 have g7:e/1=e/1%128+128*(e/128):=aa
 have g8:e/128=e/128%2+2*(e/256):=aa
 have P:e/256=e/256%16+16*(e/4096):=aa
 have Q:e/4096=e/4096%8+8*(e/32768):=aa
 have R:e/32768=e/32768%32+32*(e/1048576):=aa
 have S:e/1048576=e/1048576%32+32*(e/33554432):=aa
 have T:e/33554432=e/33554432%64+64*(e/2147483648):=aa
 omega
theorem Pv (h0:0<=e) (h1:e<4294967296) (o z m:Int) (k:Int) (F:o=e%128) (G:z=e/4096%8) (H:m=0):ju .b o z m ⟨k,dP .b e,aV .b e,bV .b e,aR .b e⟩=e:=by
 have rr:dP .b e=0:=by simp [dP,Fm.hasRd]
 have N:aV .b e=e/32768%32:=dv
 have O:bV .b e=e/1048576%32:=g4
 have bz : -1<=z/\z<8:=aa
 have Q:0<=z:=aa
 obtain ⟨r,c,y00,y01⟩:∃ v:Int,v=e/128%2/\0<=v/\v<2:=⟨_,rfl,aa,aa⟩
 obtain ⟨t,d,y10,y11⟩:∃ v:Int,v=e/256%16/\0<=v/\v<16:=⟨_,rfl,aa,aa⟩
 obtain ⟨w,x,y20,y21⟩:∃ v:Int,v=e/33554432%64/\0<=v/\v<64:=⟨_,rfl,aa,aa⟩
 obtain ⟨A,f,y30,y31⟩:∃ v:Int,v=e/2147483648%2/\0<=v/\v<2:=⟨_,rfl,aa,aa⟩
 have I:e/2147483648*4096+e/128%2*2048+e/33554432%64*32+e/256%16*2=r*2048+t*2+w*32+A*4096:=aa
 obtain ⟨q,Z,l⟩:=OD (e/2147483648*4096+e/128%2*2048+e/33554432%64*32+e/256%16*2) aa aa
 have j:dG (aR .b e)=r*2048+t*2+w*32+A*4096+q*8192:=by rw [<- I];exact l
 clear l
 have s:Hid (r=e/128%2):=c
 have u:Hid (t=e/256%16):=d
 have y:Hid (w=e/33554432%64):=x
 have B:Hid (A=e/2147483648%2):=f
 clear I c d x f
 have bo:0<=o/\o<128:=aa
 have bm:0<=m/\m<1:=aa
 have g:Hid (o=e%128):=F
 have h:Hid (z=e/4096%8):=G
 have i:Hid (m=0):=H
 clear F G H
 have J:dG (aR .b e)/2048%2=r:=by rw [j];omega
 have K:dG (aR .b e)/2%16=t:=by rw [j];omega
 have L:dG (aR .b e)/32%64=w:=by rw [j];omega
 have M:dG (aR .b e)/4096%2=A:=by rw [j];omega
 clear j Z
 simp only [ju]
 rw [J,K,L,M]
 clear J K L M
 obtain ⟨C,a,va0,va1⟩:∃ v:Int,v=e/32768%32/\0<=v/\v<32:=⟨_,rfl,aa,aa⟩
 rw [<- a] at N
 have n:Hid (C=e/32768%32):=a
 clear a
 obtain ⟨D,b,vb0,vb1⟩:∃ v:Int,v=e/1048576%32/\0<=v/\v<32:=⟨_,rfl,aa,aa⟩
 rw [<- b] at O
 have p:Hid (D=e/1048576%32):=b
 clear b
 have E:fP o ⟨k,dP .b e,aV .b e,bV .b e,aR .b e⟩=o+0*128+C*32768+D*1048576:=by
  simp only [fP,rr,N,O]
  rw [gT _ 0 7 5 128 ba aa aa aa aa aa aa,gT _ C 15 5 32768 ba aa aa aa aa aa aa,gT _ D 20 5 1048576 ba aa aa aa aa aa aa]
 have P:dS o z ⟨k,dP .b e,aV .b e,bV .b e,aR .b e⟩=o+0*128+C*32768+D*1048576+z*4096:=by
  unfold dS
  split
  ·rw [E,gT _ z 12 3 4096 ba aa aa aa aa aa aa]
  ·rw [E];omega
 rw [P,
  gT _ r 7 1 128 ba aa aa aa aa aa aa,
  gT _ t 8 4 256 ba aa aa aa aa aa aa,
  gT _ w 25 6 33554432 ba aa aa aa aa aa aa,
  gT _ A 31 1 2147483648 ba aa aa aa aa aa aa]
 have vaF:=n.out
 have vbF:=p.out
 have y0F:=s.out
 have y1F:=u.out
 have y2F:=y.out
 have y3F:=B.out
 have R:=g.out
 have S:=h.out
 have T:=i.out
 clear n p s u y B g h i
 have g7:e/1=e/1%128+128*(e/128):=aa
 have g8:e/128=e/128%2+2*(e/256):=aa
 have U:e/256=e/256%16+16*(e/4096):=aa
 have V:e/4096=e/4096%8+8*(e/32768):=aa
 have W:e/32768=e/32768%32+32*(e/1048576):=aa
 have X:e/1048576=e/1048576%32+32*(e/33554432):=aa
 have Y:e/33554432=e/33554432%64+64*(e/2147483648):=aa
 omega
theorem Pw (P:0<=e) (Q:e<4294967296) (o z m:Int) (k:Int) (p:o=e%128) (l:z=0) (r:m=0):gB .u o z m ⟨k,dP .u e,aV .u e,bV .u e,aR .u e⟩=e:=by
 have n:d7 .u o z m=o+z*4096+m*2^Fm.at .u:=ce .u o z m aa aa aa aa aa cd cd
 simp only [Fm.at] at n
 have u:aG (dG (dP .u e)) 0 5=e/128%32:=by
  have x:dP .u e=e/128%32:=dm
  rw [x,bT _ aa aa];simp [aG]
 have N:z=0:=l
 obtain ⟨i,b,I,J⟩:∃ v:Int,v=e/4096%1048576/\0<=v/\v<1048576:=⟨_,rfl,aa,aa⟩
 have t:e/4096*4096=i*4096:=aa
 obtain ⟨q,D,g⟩:=OF (e/4096*4096) aa aa
 have s:dG (aR .u e)=i*4096+q*4294967296:=by rw [<- t];exact g
 clear g
 have j:Hid (i=e/4096%1048576):=b
 clear t b
 have M:0<=o/\o<128:=aa
 have L:0<=m/\m<1:=aa
 have c:Hid (o=e%128):=p
 have d:Hid (z=0):=l
 have f:Hid (m=0):=r
 clear p l r
 have E:aG (dG (aR .u e)) 12 20=i:=by rw [s];exact nr
 clear s D
 obtain ⟨w,a,F,G⟩:∃ v:Int,v=e/128%32/\0<=v/\v<32:=⟨_,rfl,aa,aa⟩
 rw [<- a] at u
 have h:Hid (w=e/128%32):=a
 clear a
 simp only [gB,kC,jY,jX,j8,Fm.pcs,Fm.hasRd,Fm.hasA,Fm.hasB,I4,H8,if_true,H5,if_false]
 rw [n,
  u,
  ng _ w 7 5 128 ba aa aa aa aa aa aa,
  E,
  ng _ i 12 20 (2^12) rfl aa aa aa aa aa aa]
 have H:=h.out
 have K:=j.out
 have y:=c.out
 have A:=d.out
 have B:=f.out
 clear h j c d f
 have O:e/1=e/1%128+128*(e/128):=aa
 have C:e/128=e/128%32+32*(e/4096):=aa
 omega
theorem Px (R:0<=e) (S:e<4294967296) (o z m:Int) (k:Int) (l:o=e%128) (n:z=-1) (p:m=0):ju .u o z m ⟨k,dP .u e,aV .u e,bV .u e,aR .u e⟩=e:=by
 have u:dP .u e=e/128%32:=dm
 have F:aV .u e=0:=by simp [aV,Fm.hasA]
 have G:bV .u e=0:=lg
 have P : -1<=z/\z<8:=aa
 obtain ⟨h,b,K,L⟩:∃ v:Int,v=e/4096%1048576/\0<=v/\v<1048576:=⟨_,rfl,aa,aa⟩
 have s:e/4096*4096=h*4096:=aa
 obtain ⟨q,E,f⟩:=OF (e/4096*4096) aa aa
 have r:dG (aR .u e)=h*4096+q*4294967296:=by rw [<- s];exact f
 clear f
 have i:Hid (h=e/4096%1048576):=b
 clear s b
 have O:0<=o/\o<128:=aa
 have N:0<=m/\m<1:=aa
 have d:Hid (o=e%128):=l
 have c:Hid (z=-1):=n
 have x:Hid (m=0):=p
 clear l n p
 have t:dG (aR .u e)/4096%1048576=h:=by rw [r];omega
 clear r E
 simp only [ju]
 rw [t]
 clear t
 obtain ⟨j,a,H,I⟩:∃ v:Int,v=e/128%32/\0<=v/\v<32:=⟨_,rfl,aa,aa⟩
 rw [<- a] at u
 have g:Hid (j=e/128%32):=a
 clear a
 have w:fP o ⟨k,dP .u e,aV .u e,bV .u e,aR .u e⟩=o+j*128+0*32768+0*1048576:=by
  simp only [fP,u,F,G]
  rw [gT _ j 7 5 128 ba aa aa aa aa aa aa,gT _ 0 15 5 32768 ba aa aa aa aa aa aa,gT _ 0 20 5 1048576 ba aa aa aa aa aa aa]
 have y:dS o z ⟨k,dP .u e,aV .u e,bV .u e,aR .u e⟩=o+j*128+0*32768+0*1048576:=by rw [dS,JZ9 (by have:=c.out;omega),w]
 rw [y,
  gT _ h 12 20 4096 ba aa aa aa aa aa aa]
 have J:=g.out
 have M:=i.out
 have A:=d.out
 have B:=c.out
 have C:=x.out
 clear g i d c x
 have Q:e/1=e/1%128+128*(e/128):=aa
 have D:e/128=e/128%32+32*(e/4096):=aa
 omega
theorem Py (h0:0<=e) (h1:e<4294967296) (o z m:Int) (k:Int) (D:o=e%128) (B:z=0) (E:m=0):gB .j o z m ⟨k,dP .j e,aV .j e,bV .j e,aR .j e⟩=e:=by
 have C:d7 .j o z m=o+z*4096+m*2^Fm.at .j:=ce .j o z m aa aa aa aa aa cd cd
 simp only [Fm.at] at C
 have G:aG (dG (dP .j e)) 0 5=e/128%32:=by
  have x:dP .j e=e/128%32:=dm
  rw [x,bT _ aa aa];simp [aG]
 have bz:z=0:=B
 obtain ⟨p,b,X,Y⟩:∃ v:Int,v=e/2147483648%2/\0<=v/\v<2:=⟨_,rfl,aa,aa⟩
 obtain ⟨s,c,y10,y11⟩:∃ v:Int,v=e/4096%256/\0<=v/\v<256:=⟨_,rfl,aa,aa⟩
 obtain ⟨u,d,y20,y21⟩:∃ v:Int,v=e/1048576%2/\0<=v/\v<2:=⟨_,rfl,aa,aa⟩
 obtain ⟨y,f,y30,y31⟩:∃ v:Int,v=e/2097152%1024/\0<=v/\v<1024:=⟨_,rfl,aa,aa⟩
 have F:e/2147483648*1048576+e/4096%256*4096+e/1048576%2*2048+e/2097152%1024*2=p*1048576+s*4096+u*2048+y*2:=aa
 obtain ⟨q,P,l⟩:=OE (e/2147483648*1048576+e/4096%256*4096+e/1048576%2*2048+e/2097152%1024*2) aa aa
 have j:dG (aR .j e)=p*1048576+s*4096+u*2048+y*2+q*2097152:=by rw [<- F];exact l
 clear l
 have r:Hid (p=e/2147483648%2):=b
 have t:Hid (s=e/4096%256):=c
 have w:Hid (u=e/1048576%2):=d
 have A:Hid (y=e/2097152%1024):=f
 clear F b c d f
 have bo:0<=o/\o<128:=aa
 have bm:0<=m/\m<1:=aa
 have g:Hid (o=e%128):=D
 have h:Hid (z=0):=B
 have i:Hid (m=0):=E
 clear D B E
 have Q:aG (dG (aR .j e)) 20 1=p:=by rw [j];exact nr
 have R:aG (dG (aR .j e)) 12 8=s:=by rw [j];exact nr
 have S:aG (dG (aR .j e)) 11 1=u:=by rw [j];exact nr
 have T:aG (dG (aR .j e)) 1 10=y:=by rw [j];exact nr
 clear j P
 obtain ⟨H,a,U,V⟩:∃ v:Int,v=e/128%32/\0<=v/\v<32:=⟨_,rfl,aa,aa⟩
 rw [<- a] at G
 have n:Hid (H=e/128%32):=a
 clear a
 simp only [gB,kC,jY,jX,j8,Fm.pcs,Fm.hasRd,Fm.hasA,Fm.hasB,I4,H8,if_true,H5,if_false]
 rw [C,
  G,
  ng _ H 7 5 128 ba aa aa aa aa aa aa,
  Q,
  ng _ p 31 1 (2^31) rfl aa aa aa aa aa aa,
  R,
  ng _ s 12 8 (2^12) rfl aa aa aa aa aa aa,
  S,
  ng _ u 20 1 (2^20) rfl aa aa aa aa aa aa,
  T,
  ng _ y 21 10 (2^21) rfl aa aa aa aa aa aa]
 have W:=n.out
 have Z:=r.out
 have y1F:=t.out
 have y2F:=w.out
 have y3F:=A.out
 have I:=g.out
 have J:=h.out
 have K:=i.out
 clear n r t w A g h i
 have g7:e/1=e/1%128+128*(e/128):=aa
 have L:e/128=e/128%32+32*(e/4096):=aa
 have M:e/4096=e/4096%256+256*(e/1048576):=aa
 have N:e/1048576=e/1048576%2+2*(e/2097152):=aa
 have O:e/2097152=e/2097152%1024+1024*(e/2147483648):=aa
 omega
theorem Pz (h0:0<=e) (h1:e<4294967296) (o z m:Int) (k:Int) (B:o=e%128) (C:z=-1) (D:m=0):ju .j o z m ⟨k,dP .j e,aV .j e,bV .j e,aR .j e⟩=e:=by
 have J:dP .j e=e/128%32:=dm
 have U:aV .j e=0:=by simp [aV,Fm.hasA]
 have V:bV .j e=0:=lg
 have bz : -1<=z/\z<8:=aa
 obtain ⟨n,b,Z,y01⟩:∃ v:Int,v=e/4096%256/\0<=v/\v<256:=⟨_,rfl,aa,aa⟩
 obtain ⟨r,c,y10,y11⟩:∃ v:Int,v=e/1048576%2/\0<=v/\v<2:=⟨_,rfl,aa,aa⟩
 obtain ⟨t,d,y20,y21⟩:∃ v:Int,v=e/2097152%1024/\0<=v/\v<1024:=⟨_,rfl,aa,aa⟩
 obtain ⟨w,x,y30,y31⟩:∃ v:Int,v=e/2147483648%2/\0<=v/\v<2:=⟨_,rfl,aa,aa⟩
 have E:e/2147483648*1048576+e/4096%256*4096+e/1048576%2*2048+e/2097152%1024*2=n*4096+r*2048+t*2+w*1048576:=aa
 obtain ⟨q,T,j⟩:=OE (e/2147483648*1048576+e/4096%256*4096+e/1048576%2*2048+e/2097152%1024*2) aa aa
 have i:dG (aR .j e)=n*4096+r*2048+t*2+w*1048576+q*2097152:=by rw [<- E];exact j
 clear j
 have p:Hid (n=e/4096%256):=b
 have s:Hid (r=e/1048576%2):=c
 have u:Hid (t=e/2097152%1024):=d
 have y:Hid (w=e/2147483648%2):=x
 clear E b c d x
 have bo:0<=o/\o<128:=aa
 have bm:0<=m/\m<1:=aa
 have g:Hid (o=e%128):=B
 have f:Hid (z=-1):=C
 have h:Hid (m=0):=D
 clear B C D
 have F:dG (aR .j e)/4096%256=n:=by rw [i];omega
 have G:dG (aR .j e)/2048%2=r:=by rw [i];omega
 have H:dG (aR .j e)/2%1024=t:=by rw [i];omega
 have I:dG (aR .j e)/1048576%2=w:=by rw [i];omega
 clear i T
 simp only [ju]
 rw [F,G,H,I]
 clear F G H I
 obtain ⟨A,a,W,X⟩:∃ v:Int,v=e/128%32/\0<=v/\v<32:=⟨_,rfl,aa,aa⟩
 rw [<- a] at J
 have l:Hid (A=e/128%32):=a
 clear a
 have K:fP o ⟨k,dP .j e,aV .j e,bV .j e,aR .j e⟩=o+A*128+0*32768+0*1048576:=by
  simp only [fP,J,U,V]
  rw [gT _ A 7 5 128 ba aa aa aa aa aa aa,gT _ 0 15 5 32768 ba aa aa aa aa aa aa,gT _ 0 20 5 1048576 ba aa aa aa aa aa aa]
 have L:dS o z ⟨k,dP .j e,aV .j e,bV .j e,aR .j e⟩=o+A*128+0*32768+0*1048576:=by rw [dS,JZ9 (by have:=f.out;omega),K]
 rw [L,
  gT _ n 12 8 4096 ba aa aa aa aa aa aa,
  gT _ r 20 1 1048576 ba aa aa aa aa aa aa,
  gT _ t 21 10 2097152 ba aa aa aa aa aa aa,
  gT _ w 31 1 2147483648 ba aa aa aa aa aa aa]
 have Y:=l.out
 have y0F:=p.out
 have y1F:=s.out
 have y2F:=u.out
 have y3F:=y.out
 have M:=g.out
 have N:=f.out
 have O:=h.out
 clear l p s u y g f h
 have g7:e/1=e/1%128+128*(e/128):=aa
 have P:e/128=e/128%32+32*(e/4096):=aa
 have Q:e/4096=e/4096%256+256*(e/1048576):=aa
 have R:e/1048576=e/1048576%2+2*(e/2097152):=aa
 have S:e/2097152=e/2097152%1024+1024*(e/2147483648):=aa
 omega
theorem PA (h0:0<=e) (h1:e<4294967296) (o z m:Int) (k:Int) (r:o=e%128) (s:z=e/4096%8) (t:m=e/134217728):gB .a o z m ⟨k,dP .a e,aV .a e,bV .a e,aR .a e⟩=e:=by
 have q:d7 .a o z m=o+z*4096+m*2^Fm.at .a:=ce .a o z m aa aa aa aa aa cd kx
 simp only [Fm.at] at q
 have B:aG (dG (dP .a e)) 0 5=e/128%32:=by
  have x:dP .a e=e/128%32:=dm
  rw [x,bT _ aa aa];simp [aG]
 have y:aG (dG (aV .a e)) 0 5=e/32768%32:=by
  have x:aV .a e=e/32768%32:=dv
  rw [x,bT _ aa aa];simp [aG]
 have A:aG (dG (bV .a e)) 0 5=e/1048576%32:=by
  have x:bV .a e=e/1048576%32:=g4
  rw [x,bT _ aa aa];simp [aG]
 have bz:0<=z/\z<8:=aa
 obtain ⟨n,d,X,Y⟩:∃ v:Int,v=e/33554432%4/\0<=v/\v<4:=⟨_,rfl,aa,aa⟩
 have w:e/33554432%4=n*1:=aa
 have u:dG (aR .a e)=n*1:=by rw [<- w];exact rL (e/33554432%4) aa aa
 have p:Hid (n=e/33554432%4):=d
 clear w d
 have bo:0<=o/\o<128:=aa
 have bm:0<=m/\m<32:=aa
 have f:Hid (o=e%128):=r
 have g:Hid (z=e/4096%8):=s
 have h:Hid (m=e/134217728):=t
 clear r s t
 have N:aG (dG (aR .a e)) 0 2=n:=by rw [u];exact nr
 clear u
 obtain ⟨E,c,U,V⟩:∃ v:Int,v=e/128%32/\0<=v/\v<32:=⟨_,rfl,aa,aa⟩
 rw [<- c] at B
 have l:Hid (E=e/128%32):=c
 clear c
 obtain ⟨C,a,O,P⟩:∃ v:Int,v=e/32768%32/\0<=v/\v<32:=⟨_,rfl,aa,aa⟩
 rw [<- a] at y
 have i:Hid (C=e/32768%32):=a
 clear a
 obtain ⟨D,b,R,S⟩:∃ v:Int,v=e/1048576%32/\0<=v/\v<32:=⟨_,rfl,aa,aa⟩
 rw [<- b] at A
 have j:Hid (D=e/1048576%32):=b
 clear b
 simp only [gB,kC,jY,jX,j8,Fm.pcs,Fm.hasRd,Fm.hasA,Fm.hasB,I4,H8,if_true,H5,if_false]
 rw [q,
  B,
  ng _ E 7 5 128 ba aa aa aa aa aa aa,
  y,
  ng _ C 15 5 32768 ba aa aa aa aa aa aa,
  A,
  ng _ D 20 5 1048576 ba aa aa aa aa aa aa,
  N,
  ng _ n 25 2 (2^25) rfl aa aa aa aa aa aa]
 have W:=l.out
 have Q:=i.out
 have T:=j.out
 have Z:=p.out
 have F:=f.out
 have G:=g.out
 have H:=h.out
 clear l i j p f g h
 have g7:e/1=e/1%128+128*(e/128):=aa
 have I:e/128=e/128%32+32*(e/4096):=aa
 have J:e/4096=e/4096%8+8*(e/32768):=aa
 have K:e/32768=e/32768%32+32*(e/1048576):=aa
 have L:e/1048576=e/1048576%32+32*(e/33554432):=aa
 have M:e/33554432=e/33554432%4+4*(e/134217728):=aa
 omega
theorem PC (h0:0<=e) (h1:e<4294967296) (o z m:Int) (k:Int) (t:o=e%128) (u:z=e/4096%8) (w:m=e/134217728):ju .a o z m ⟨k,dP .a e,aV .a e,bV .a e,aR .a e⟩=e:=by
 have E:dP .a e=e/128%32:=dm
 have C:aV .a e=e/32768%32:=dv
 have D:bV .a e=e/1048576%32:=g4
 have bz : -1<=z/\z<8:=aa
 have G:0<=z:=aa
 obtain ⟨l,d,Y,Z⟩:∃ v:Int,v=e/33554432%4/\0<=v/\v<4:=⟨_,rfl,aa,aa⟩
 have A:e/33554432%4=l*1:=aa
 have y:dG (aR .a e)=l*1:=by rw [<- A];exact rL (e/33554432%4) aa aa
 have n:Hid (l=e/33554432%4):=d
 clear A d
 have bo:0<=o/\o<128:=aa
 have bm:0<=m/\m<32:=aa
 have x:Hid (o=e%128):=t
 have f:Hid (z=e/4096%8):=u
 have g:Hid (m=e/134217728):=w
 clear t u w
 have B:dG (aR .a e)%4=l:=by rw [y];omega
 clear y
 simp only [ju]
 rw [B]
 clear B
 obtain ⟨r,c,V,W⟩:∃ v:Int,v=e/128%32/\0<=v/\v<32:=⟨_,rfl,aa,aa⟩
 rw [<- c] at E
 have j:Hid (r=e/128%32):=c
 clear c
 obtain ⟨p,a,P,Q⟩:∃ v:Int,v=e/32768%32/\0<=v/\v<32:=⟨_,rfl,aa,aa⟩
 rw [<- a] at C
 have h:Hid (p=e/32768%32):=a
 clear a
 obtain ⟨q,b,S,T⟩:∃ v:Int,v=e/1048576%32/\0<=v/\v<32:=⟨_,rfl,aa,aa⟩
 rw [<- b] at D
 have i:Hid (q=e/1048576%32):=b
 clear b
 have s:fP o ⟨k,dP .a e,aV .a e,bV .a e,aR .a e⟩=o+r*128+p*32768+q*1048576:=by
  simp only [fP,E,C,D]
  rw [gT _ r 7 5 128 ba aa aa aa aa aa aa,gT _ p 15 5 32768 ba aa aa aa aa aa aa,gT _ q 20 5 1048576 ba aa aa aa aa aa aa]
 have F:dS o z ⟨k,dP .a e,aV .a e,bV .a e,aR .a e⟩=o+r*128+p*32768+q*1048576+z*4096:=by
  unfold dS
  split
  ·rw [s,gT _ z 12 3 4096 ba aa aa aa aa aa aa]
  ·rw [s];omega
 rw [F,
  gT _ l 25 2 33554432 ba aa aa aa aa aa aa,
  gT _ m 27 5 134217728 ba aa aa aa aa aa aa]
 have X:=j.out
 have R:=h.out
 have U:=i.out
 have y0F:=n.out
 have H:=x.out
 have I:=f.out
 have J:=g.out
 clear j h i n x f g
 have g7:e/1=e/1%128+128*(e/128):=aa
 have K:e/128=e/128%32+32*(e/4096):=aa
 have L:e/4096=e/4096%8+8*(e/32768):=aa
 have M:e/32768=e/32768%32+32*(e/1048576):=aa
 have N:e/1048576=e/1048576%32+32*(e/33554432):=aa
 have O:e/33554432=e/33554432%4+4*(e/134217728):=aa
 omega
theorem PD (V:0<=e) (W:e<4294967296) (o z m:Int) (k:Int) (p:o=e%128) (q:z=e/4096%8) (r:m=0):gB .c o z m ⟨k,dP .c e,aV .c e,bV .c e,aR .c e⟩=e:=by
 have n:d7 .c o z m=o+z*4096+m*2^Fm.at .c:=ce .c o z m aa aa aa aa aa cd cd
 simp only [Fm.at] at n
 have w:aG (dG (dP .c e)) 0 5=e/128%32:=by
  have x:dP .c e=e/128%32:=dm
  rw [x,bT _ aa aa];simp [aG]
 have u:aG (dG (aV .c e)) 0 5=e/32768%32:=by
  have x:aV .c e=e/32768%32:=dv
  rw [x,bT _ aa aa];simp [aG]
 have T:0<=z/\z<8:=aa
 obtain ⟨j,c,O,P⟩:∃ v:Int,v=e/1048576%4096/\0<=v/\v<4096:=⟨_,rfl,aa,aa⟩
 have t:e/1048576=j*1:=aa
 have s:dG (aR .c e)=j*1:=by rw [<- t];exact rL (e/1048576) aa aa
 have l:Hid (j=e/1048576%4096):=c
 clear t c
 have S:0<=o/\o<128:=aa
 have R:0<=m/\m<1:=aa
 have d:Hid (o=e%128):=p
 have f:Hid (z=e/4096%8):=q
 have g:Hid (m=0):=r
 clear p q r
 have H:aG (dG (aR .c e)) 0 12=j:=by rw [s];exact nr
 clear s
 obtain ⟨A,b,L,M⟩:∃ v:Int,v=e/128%32/\0<=v/\v<32:=⟨_,rfl,aa,aa⟩
 rw [<- b] at w
 have i:Hid (A=e/128%32):=b
 clear b
 obtain ⟨y,a,I,J⟩:∃ v:Int,v=e/32768%32/\0<=v/\v<32:=⟨_,rfl,aa,aa⟩
 rw [<- a] at u
 have h:Hid (y=e/32768%32):=a
 clear a
 simp only [gB,kC,jY,jX,j8,Fm.pcs,Fm.hasRd,Fm.hasA,Fm.hasB,I4,H8,if_true,H5,if_false]
 rw [n,
  w,
  ng _ A 7 5 128 ba aa aa aa aa aa aa,
  u,
  ng _ y 15 5 32768 ba aa aa aa aa aa aa,
  H,
  ng _ j 20 12 (2^20) rfl aa aa aa aa aa aa]
 have N:=i.out
 have K:=h.out
 have Q:=l.out
 have B:=d.out
 have C:=f.out
 have D:=g.out
 clear i h l d f g
 have U:e/1=e/1%128+128*(e/128):=aa
 have E:e/128=e/128%32+32*(e/4096):=aa
 have F:e/4096=e/4096%8+8*(e/32768):=aa
 have G:e/32768=e/32768%32+32*(e/1048576):=aa
 omega
theorem PF (X:0<=e) (Y:e<4294967296) (o z m:Int) (k:Int) (q:o=e%128) (r:z=e/4096%8) (s:m=0):ju .c o z m ⟨k,dP .c e,aV .c e,bV .c e,aR .c e⟩=e:=by
 have A:dP .c e=e/128%32:=dm
 have y:aV .c e=e/32768%32:=dv
 have J:bV .c e=0:=lg
 have V : -1<=z/\z<8:=aa
 have C:0<=z:=aa
 obtain ⟨i,c,Q,R⟩:∃ v:Int,v=e/1048576%4096/\0<=v/\v<4096:=⟨_,rfl,aa,aa⟩
 have u:e/1048576=i*1:=aa
 have t:dG (aR .c e)=i*1:=by rw [<- u];exact rL (e/1048576) aa aa
 have j:Hid (i=e/1048576%4096):=c
 clear u c
 have U:0<=o/\o<128:=aa
 have T:0<=m/\m<1:=aa
 have d:Hid (o=e%128):=q
 have x:Hid (z=e/4096%8):=r
 have f:Hid (m=0):=s
 clear q r s
 have w:dG (aR .c e)%4096=i:=by rw [t];omega
 clear t
 simp only [ju]
 rw [w]
 clear w
 obtain ⟨n,b,N,O⟩:∃ v:Int,v=e/128%32/\0<=v/\v<32:=⟨_,rfl,aa,aa⟩
 rw [<- b] at A
 have h:Hid (n=e/128%32):=b
 clear b
 obtain ⟨l,a,K,L⟩:∃ v:Int,v=e/32768%32/\0<=v/\v<32:=⟨_,rfl,aa,aa⟩
 rw [<- a] at y
 have g:Hid (l=e/32768%32):=a
 clear a
 have p:fP o ⟨k,dP .c e,aV .c e,bV .c e,aR .c e⟩=o+n*128+l*32768+0*1048576:=by
  simp only [fP,A,y,J]
  rw [gT _ n 7 5 128 ba aa aa aa aa aa aa,gT _ l 15 5 32768 ba aa aa aa aa aa aa,gT _ 0 20 5 1048576 ba aa aa aa aa aa aa]
 have B:dS o z ⟨k,dP .c e,aV .c e,bV .c e,aR .c e⟩=o+n*128+l*32768+0*1048576+z*4096:=by
  unfold dS
  split
  ·rw [p,gT _ z 12 3 4096 ba aa aa aa aa aa aa]
  ·rw [p];omega
 rw [B,
  gT _ i 20 12 1048576 ba aa aa aa aa aa aa]
 have P:=h.out
 have M:=g.out
 have S:=j.out
 have D:=d.out
 have E:=x.out
 have F:=f.out
 clear h g j d x f
 have W:e/1=e/1%128+128*(e/128):=aa
 have G:e/128=e/128%32+32*(e/4096):=aa
 have H:e/4096=e/4096%8+8*(e/32768):=aa
 have I:e/32768=e/32768%32+32*(e/1048576):=aa
 omega
theorem PG (w:0<=e) (y:e<4294967296) (o z m:Int) (k:Int) (f:o=e%128) (g:z=e/4096%8) (h:m=e/1048576) (i:e=m*1048576+o):gB .x o z m ⟨k,dP .x e,aV .x e,bV .x e,aR .x e⟩=e:=by
 have x:d7 .x o z m=o+z*4096+m*2^Fm.at .x:=ce .x o z m aa aa aa aa aa cd kx;simp only [Fm.at] at x;have u:0<=z/\z<8:=aa
 have t:0<=o/\o<128:=aa
 have s:0<=m/\m<4096:=aa
 have a:Hid (o=e%128):=f;have b:Hid (z=e/4096%8):=g;have c:Hid (m=e/1048576):=h;have d:Hid (e=m*1048576+o):=i;clear f g h i;simp only [gB,kC,jY,jX,j8,Fm.pcs,Fm.hasRd,Fm.hasA,Fm.hasB,H8,H5,if_false];rw [x];have j:=a.out;have l:=b.out;have n:=c.out;have p:=d.out;clear a b c d;have v:e/1=e/1%128+128*(e/128):=aa
 have q:e/128=e/128%32+32*(e/4096):=aa
 have r:e/4096=e/4096%256+256*(e/1048576):=aa
 omega
theorem PH (D:0<=e) (E:e<4294967296) (o z m:Int) (k:Int) (f:o=e%128) (g:z=e/4096%8) (h:m=e/1048576) (i:e=m*1048576+o):ju .x o z m ⟨k,dP .x e,aV .x e,bV .x e,aR .x e⟩=e:=by
 have w:dP .x e=0:=by simp [dP,Fm.hasRd]
 have u:aV .x e=0:=by simp [aV,Fm.hasA]
 have v:bV .x e=0:=lg
 have B : -1<=z/\z<8:=aa
 have l:0<=z:=aa
 have A:0<=o/\o<128:=aa
 have y:0<=m/\m<4096:=aa
 have a:Hid (o=e%128):=f
 have b:Hid (z=e/4096%8):=g
 have c:Hid (m=e/1048576):=h
 have d:Hid (e=m*1048576+o):=i
 clear f g h i
 simp only [ju]
 have x:fP o ⟨k,dP .x e,aV .x e,bV .x e,aR .x e⟩=o+0*128+0*32768+0*1048576:=by
  simp only [fP,w,u,v]
  rw [gT _ 0 7 5 128 ba aa aa aa aa aa aa,gT _ 0 15 5 32768 ba aa aa aa aa aa aa,gT _ 0 20 5 1048576 ba aa aa aa aa aa aa]
 have j:dS o z ⟨k,dP .x e,aV .x e,bV .x e,aR .x e⟩=o+0*128+0*32768+0*1048576+z*4096:=by
  unfold dS
  split
  ·rw [x,gT _ z 12 3 4096 ba aa aa aa aa aa aa]
  ·rw [x];omega
 rw [j,
  gT _ m 20 12 1048576 ba aa aa aa aa aa aa]
 have n:=a.out
 have p:=b.out
 have q:=c.out
 have r:=d.out
 clear a b c d
 have C:e/1=e/1%128+128*(e/128):=aa
 have s:e/128=e/128%32+32*(e/4096):=aa
 have t:e/4096=e/4096%256+256*(e/1048576):=aa
 omega
theorem ya:∀ n k j,df e n k=some j->k<=j/\j<k+n/\mB j e:=by
 intro n;induction n with
 | zero=>intro k j h;simp [df] at h
 | succ n b =>
   intro k j h;rw [df] at h;split at h;·rename_i a;simp at h;subst h;exact ⟨aa,aa,a⟩
   ·have:=b (k+1) j h;exact ⟨aa,aa,this.2.2⟩
theorem pQ {i:Ins} (h:py x=some i):x<4294967296/\∃ k,k<98/\mB k x/\i=js k x:=by
 unfold py at h;split at h
 ·rename_i c;cases a:df x 98 0 with
  | none=>rw [a] at h;simp at h
  | some k =>rw [a] at h;simp at h;obtain ⟨d,e,b⟩:=ya x 98 0 k a;exact ⟨c,k,aa,b,h.symm⟩
 ·simp at h
theorem yb:0<=dP d e/\dP d e<=31:=by have:=jI e 7 5;unfold dP;split<;>omega
theorem Ea:0<=aV d e/\aV d e<=31:=by have:=jI e 15 5;unfold aV;split<;>omega
theorem Eb:0<=bV d e/\bV d e<=31:=by have:=jI e 20 5;unfold bV;split<;>omega
theorem yc (h:e%2=0):aX 13 e%2=0:=by
 have x:(2:Int)^(64-13)=2251799813685248:=ba
 unfold aX;rw [x,K4,K4];unfold K0;omega
theorem ye (h:e%2=0):aX 21 e%2=0:=by
 have x:(2:Int)^(64-21)=8796093022208:=ba
 unfold aX;rw [x,K4,K4];unfold K0;omega
structure jv (i:Ins):Prop where
 op1:1<=i.op
 op98:i.op<=98
 rd0:0<=i.rd
 rd31:i.rd<=31
 a0:0<=i.a
 a31:i.a<=31
 b0:0<=i.b
 b31:i.b<=31
 im0 : -9223372036854775808<=i.imm
 im1:i.imm<9223372036854775808
 even:(i.op=3\/5<=i.op/\i.op<=10)->i.imm%2=0
theorem PI:∀ k,k<98->(k=2\/4<=k/\k<=9)->(az k).fm=.b\/(az k).fm=.j:=by
 have h:(List.range 98).all (λk=>!(decide (k=2\/4<=k/\k<=9))||(decide ((az k).fm=.b\/(az k).fm=.j))):=ab
 intro k a e;have:=List.all_eq_true.1 h k eo;rw [decide_eq_true e] at this;simpa using this
theorem Ct (h:py x=some a):jv a:=by
 obtain ⟨m,k,g,l,rfl⟩:=pQ h;have i:=yb (az k).fm x;have b:=Ea (az k).fm x;have c:=Eb (az k).fm x;have d : -9223372036854775808<=aR (az k).fm x/\aR (az k).fm x<9223372036854775808:=by unfold aR K0;omega
 refine ⟨by show (1:Int)<=(k:Int)+1;omega,by show (k:Int)+1<=98;omega,i.1,i.2,b.1,b.2,c.1,c.2,d.1,d.2,λe=>?_⟩;have f:k=2\/4<=k/\k<=9:=by have j:((k:Int)+1=3\/5<=(k:Int)+1/\(k:Int)+1<=10):=e;omega
 show aR (az k).fm x%2=0;rcases PI k g f with q|q<;>rw [q]<;>unfold aR;·have:=yc (pF .b x) (by simp only [pF];omega);show K0 (aX 13 (pF .b x))%2=0;unfold K0;omega
 ·have:=ye (pF .j x) (by simp only [pF];omega);show K0 (aX 21 (pF .j x))%2=0;unfold K0;omega
theorem fW (op:BinOp) (a b:Int):0<=F0 op .u64 a b/\F0 op .u64 a b<18446744073709551616:=by have h:=Ii (wf_bits op .u64 a b);omega
theorem Iy (hk:y<98) (x:Int) (d:0<=x) (e:x<4294967296) (hm:mB y x): gB (az y).fm (az y).op (az y).f3z (az y).more (js y x)=x/\ju (az y).fm (az y).op (az y).f3 (az y).more (js y x)=x:=by
 have g:=D8 y hk;unfold mB at hm;rw [decide_eq_true_iff] at hm;unfold js;generalize az y=r at g hm ⊢;obtain ⟨k,f,o,z,m⟩:=r;simp only [zV,Bool.and_eq_true,JZ6] at g;obtain ⟨⟨n,p,q,t,v⟩,l⟩:=g;simp only [Row.f3z];cases f<;>simp only [fl,JZ6,and_true] at hm l;case r=>rw [JZ9 aa];exact ⟨Pg x d e o z m _ aa aa aa,Ph x d e o z m _ aa aa aa⟩
 case i=>rw [JZ9 aa];exact ⟨Pi x d e o z m _ aa aa aa,Pj x d e o z m _ aa aa aa⟩
 case h=>rw [JZ9 aa];exact ⟨Pk x d e o z m _ aa aa aa,Pn x d e o z m _ aa aa aa⟩
 case w=>rw [JZ9 aa];exact ⟨Po x d e o z m _ aa aa aa,Pq x d e o z m _ aa aa aa⟩
 case s=>rw [JZ9 aa];exact ⟨Ps x d e o z m _ aa aa aa,Pt x d e o z m _ aa aa aa⟩
 case b=>rw [JZ9 aa];exact ⟨Pu x d e o z m _ aa aa aa,Pv x d e o z m _ aa aa aa⟩
 case u=>rw [JZ8 aa];exact ⟨Pw x d e o 0 m _ aa rfl aa,Px x d e o z m _ aa aa aa⟩
 case j=>rw [JZ8 aa];exact ⟨Py x d e o 0 m _ aa rfl aa,Pz x d e o z m _ aa aa aa⟩
 case a=>rw [JZ9 aa];exact ⟨PA x d e o z m _ aa aa aa,PC x d e o z m _ aa aa aa⟩
 case c=>rw [JZ9 aa];exact ⟨PD x d e o z m _ aa aa aa,PF x d e o z m _ aa aa aa⟩
 case x=>rw [JZ9 aa];exact ⟨PG x d e o z m _ aa aa aa aa,PH x d e o z m _ aa aa aa aa⟩
def cO (op:Int):Row:=az (op-1).toNat
def mX (i:Ins):Int:=ju (cO i.op).fm (cO i.op).op (cO i.op).f3 (cO i.op).more i
def tW (i:Ins):Int:=gB (cO i.op).fm (cO i.op).op (cO i.op).f3z (cO i.op).more i
def Ec (i:Ins):Bool:=decide (0<=i.rd/\i.rd<=31)&&decide (0<=i.a/\i.a<=31)&&decide (0<=i.b/\i.b<=31)
def j9 (i:Ins):Int × Bool:=if oN i.op&&Ec i&&decide (py (mX i)=some i) then (mX i,true) else (0,false)
def lS (i:Ins):Bool:=decide (i.rd=0/\i.a=0/\i.b=0/\i.imm=0)
def tX (i:Ins):Int × Bool :=
 if oN i.op then
  (if (cO i.op).fm=.x then (if lS i then (d7 .x (cO i.op).op (cO i.op).f3z (cO i.op).more,true) else (0,false))
  else if py (tW i)=some i then (tW i,true) else (0,false))
 else (0,false)
theorem qM:cO (js y e).op=az y:=by simp [cO,js]
theorem FZ:Ec (js y e):=by unfold Ec js;rw [decide_eq_true (yb _ _),decide_eq_true (Ea _ _),decide_eq_true (Eb _ _)];rfl
theorem qN (b:0<=x) (h:py x=some a):oN a.op/\Ec a/\tW a=x/\mX a=x:=by
 obtain ⟨c,k,d,e,rfl⟩:=pQ h;have i:=Iy k d x b c e;refine ⟨?_,FZ k x,?_,?_⟩;·exact decide_eq_true ⟨by show (1:Int)<=(k:Int)+1;omega,by show (k:Int)+1<=98;omega⟩
 ·unfold tW;rw [qM];exact i.1
 ·unfold mX;rw [qM];exact i.2
theorem Iz:∃ (j:Ins) (t:Bool),oZ e=.tuple #[.agg #[.i j.op,.i j.rd,.i j.a,.i j.b,.i j.imm],.bool t]/\(t->py e=some j)/\(t=false->py e=none):=by
 unfold oZ;cases h:py e with
 | none=>exact ⟨jt,false,rfl,bh,bh⟩
 | some i=>exact ⟨i,true,rfl,bh,bh⟩
theorem tY:prog.stoodInHeld 61=false:=by kernel_rfl
theorem Cu:prog.eqGuardType prog.depth 61=false:=by kernel_rfl
theorem zX (f a c' i b:Int) (w:A6): (binOp .neq 61 (.agg #[.i e,.i g,.i j,.i Q,.i m]) (.agg #[.i f,.i a,.i c',.i i,.i b])).run prog w=.ok (.bool (!(e==f&&g==a&&j==c'&&Q==i&&m==b))) w:=by
 rw [run_neq_struct,run_equalIn_struct w 9999 _ _ _ (by rw [Program.fieldsOf,underlying61]) tY];simp only [Program.fieldsOf,underlying61];have P:∀ (k:Nat) (l d n o p v:Value),(#[l,d,n,o,p]:Array Value)[k]?=some v->∀ w,(part 2 #[l,d,n,o,p] k).run prog w=.ok v w:=by intro k l d n o p v h w;simp [part,isAgg,run_underlying underlying2,h]
 have c:∀ (x y:Int) (w:A6),(Op.equalIn 9999 2 (.i x) (.i y)).run prog w=.ok (x==y) w:=λx y w=>run_equalIn_int w 9998 2 .i64 .i64 x y underlying2;simp [Op.eqFields,Sem.run_bind,P 0 _ _ _ _ _ _ rfl,P 1 _ _ _ _ _ _ rfl,P 2 _ _ _ _ _ _ rfl,P 3 _ _ _ _ _ _ rfl,P 4 _ _ _ _ _ _ rfl,c];by_cases q:e=f<;>by_cases r:g=a<;>by_cases s:j=c'<;>by_cases t:Q=i<;>by_cases u:m=b<;>simp [q,r,s,t,u]
theorem Cw {K:Act->A6->Prop} {b Q d e o g c' i j:Int} (a y:H2) (t:TypeId) (A:f.op=.binOp .neq 61 a y t) (hx:k.eval a=.agg #[.i x,.i b,.i Q,.i d,.i e]) (l:k.eval y=.agg #[.i o,.i g,.i c',.i i,.i j]) (nb:Bool) (hn:(!(x==o&&b==g&&Q==c'&&d==i&&e==j))=nb) (h:K (k.put f.dst (.bool nb)) c):f.wp prog k c K w:=by subst hn;unfold Oper.wp execOp;simp only [A,hx,l,Sem.run_bind,run_eqGuard_agg c _ _ _ _ _ _ Cu,zX,Result.andThen_ok];exact h
theorem nt {rest Q d e g i c' j A:Int} (m:Region.wanted f (yielded b k.tmps)) (a y:H2) (t:TypeId) (l:f.op=.binOp .neq 61 a y t) (hx:k.eval a=.agg #[.i x,.i rest,.i Q,.i d,.i e]) (n:k.eval y=.agg #[.i g,.i i,.i c',.i j,.i A]) (nb:Bool) (hn:(!(x==g&&rest==i&&Q==c'&&d==j&&e==A))=nb) (h:wpList prog b w o (k.put f.dst (.bool nb)) c):wpList prog b w (f::o) k c:=by unfold wpList;rw [JZ8 m];exact Or.inl (Cw a y t l hx n nb hn h)
theorem jg {T V:Value} {kk:IntKind} (H:Hid (∀ c:A6,(Instr.index 149 T (.int kk x)).run prog c=.ok V c)) (e:f.guard=none) (Q i:H2) (g:f.op=.index 149 Q i) (hx:k.eval Q=T) (a:k.eval i=.int kk x) (h:wpList prog b w o (k.put f.dst V) c):wpList prog b w (f::o) k c:=by
 refine wpList_plain e λK d=>?_;have rest:(execOp k.eval f).run prog c=.ok (.value V) c:=by simp [execOp,g,hx,a,H.out]
 unfold Oper.wp;rw [rest,Oper.upon_value];exact d _ _ h
theorem zY (w:A6):(w.alloc (.cells #[.i 0,.i 0,.i 0,.i 0,.i 0] 61)).heap[w.heap.size]?=some (.cells #[.i 0,.i 0,.i 0,.i 0,.i 0] 61 (0,0)):=A5 _ _
theorem ny (X:0<=e) (h1:e<18446744073709551616) (w:A6): CB 61 #[.u e] w (oZ e):=by
 by_cases b:e<4294967296
 ·have d1:decide (4294967295<e)=false:=by simp;omega
  have l:=λk (h:df e 98 0=some k)=>Ix e k b h
  have d:=λ(h:df e 98 0=none)=>FY e b h
  have HH:Hid (∀ k,df e 98 0=some k->oZ e=.tuple #[(js k e).val,.bool true]):=l
  have HM:Hid (df e 98 0=none->oZ e=.tuple #[jt.val,.bool false]):=d
  obtain ⟨V,D⟩:∃ V,V=oZ e:=⟨_,rfl⟩
  rw [<- D] at HH HM ⊢
  clear l d D
  go_enter func61,ntmps61
  go_wp2_with fail
  refine (pE _).mono ?_
  rintro x w1 ⟨T,rfl,HT,R⟩
  have hsz:w.heap.size<w1.heap.size:=by have:=R.size;simp at this;omega
  have G0:Hid (w1.heap[w.heap.size]?=some (.cells #[.i 0,.i 0,.i 0,.i 0,.i 0] 61 (0,0))):=by
   show _=_
   rw [R.block _ bh];exact zY w
  have E:Bw w w1:=(bal _ _).trans (R.mono bh)
  clear R
  go_wp2_with fail
  go_loopw [13] (λi wr=>∃ k:Nat,k<=98/\i=.i k/\Hid (df e (98-k) k=df e 98 0) /\
   Hid (wr.heap[w.heap.size]?=some (.cells #[.i 0,.i 0,.i 0,.i 0,.i 0] 61 (0,0)))/\Bw w wr)
   (λi _=>98-(intOf i).toNat)
  case atStart=>exact ⟨0,aa,rfl,(rfl:df e (98-0) 0=df e 98 0),G0,E⟩
  case round =>
   obtain ⟨k,hk,rfl,Z,G,H⟩:=hrel
   clear G0 E
   by_cases bZ:k<98
   ·have RO:=D8 k bZ
    have p:=Iu k (az k) RO e X b
    obtain ⟨r,g⟩:∃ r,r=az k:=⟨_,rfl⟩
    have hr:Hid (r=az k):=g
    rw [<- g] at p
    have MB:decide (fl k r.fm r.op r.f3 r.more e)=mB k e:=by rw [g];rfl
    rw [MB] at p
    have c:=tU ((k:Int)+1) r.fm e X h1
    have IM:wrap64 (aX r.fm.width (pM e r.fm.pcs))=aR r.fm e:=by rw [Mi r.fm e X b];rfl
    rw [IM] at c
    have W:Hid (Value.agg #[.i ((k:Int)+1),.i (dP r.fm e),.i (aV r.fm e),.i (bV r.fm e),.i (aR r.fm e)]=(js k e).val):=by
     show _=_
     rw [g];rfl
    clear g MB IM RO
    obtain ⟨U,f,o,m3,m⟩:=r
    simp only [Row.f3z] at p
    obtain ⟨z,hz⟩:∃ z:Int,z=if m3<0 then 0 else m3:=⟨_,rfl⟩
    rw [<- hz] at p
    have j:=kB ((k:Int)+1) U f o z m
    obtain ⟨MM,C⟩:∃ M,M=fV ((k:Int)+1) f:=⟨_,rfl⟩
    obtain ⟨BB,A⟩:∃ B,B=d7 f o z m:=⟨_,rfl⟩
    rw [<- C,<- A] at p j
    simp only at c W
    obtain ⟨s,hs⟩:∃ s,s=f.str:=⟨_,rfl⟩
    obtain ⟨y1,L⟩:∃ y,y=dP f e:=⟨_,rfl⟩
    obtain ⟨y2,N⟩:∃ y,y=aV f e:=⟨_,rfl⟩
    obtain ⟨y3,O⟩:∃ y,y=bV f e:=⟨_,rfl⟩
    obtain ⟨y4,P⟩:∃ y,y=aR f e:=⟨_,rfl⟩
    rw [<- hs] at j c
    rw [<- L,<- N,<- O,<- P] at c W
    have RF:Hid (∀ w:A6,CB 93 #[.i ((k:Int)+1),.string s,.u e] w (.agg #[.i ((k:Int)+1),.i y1,.i y2,.i y3,.i y4])):=c
    have RP:Hid (∀ w:A6,CB 91 #[.i ((k:Int)+1),.agg #[.string U,.string s,.u o,.u z,.u m]] w (.tuple #[.u MM,.u BB])):=j
    have IX:∀ w:A6,(Instr.index 149 T (.i (k:Int))).run prog w=.ok (.agg #[.string U,.string s,.u o,.u z,.u m]) w:=by
     intro w
     rw [kW HT .i64 k bZ _ hr w,hs,hz];rfl
    clear L N O P c j C A hs hz hr
    have u:Hid (∀ w:A6,(Instr.index 149 T (.i (k:Int))).run prog w=.ok (.agg #[.string U,.string s,.u o,.u z,.u m]) w):=IX
    clear IX HT
    go_wp2_with (refine jg u rfl _ _ rfl rfl rfl ?_)
    refine (RP.out _).mono ?_
    rintro x w2 ⟨rfl,q⟩
    clear RP u
    have K:Bw wr w2:=(bal _ _).trans (q.mono bh)
    have c1:w2.cell? ⟨wr.heap.size,1,none⟩=some (.string s):=by
     rw [q.cell bh]
     rw [A0 _ _ _ _ _ _ (A5 _ _)];rfl
    have G2:Hid (w2.heap[w.heap.size]?=some (.cells #[.i 0,.i 0,.i 0,.i 0,.i 0] 61 (0,0))):=aC K G.out
    have I:=ae H K
    clear q
    cases S:mB k e with
    | true =>
      rw [S] at p
      have F:Hid (V=.tuple #[(js k e).val,.bool true]):=HH.out k (Z.out.symm.trans (zW e k bZ S))
      go_wp2_with fail
      refine (RF.out _).mono ?_
      rintro x w3 ⟨rfl,J⟩
      have t:w3.heap[w.heap.size]?=some (.cells #[.i 0,.i 0,.i 0,.i 0,.i 0] 61 (0,0)):=aC J G2.out
      have Y:=ae I J
      go_wp2_with (refine G3 rfl 61 (.tmp 2) (.tmp 34) rfl rfl w.heap.size #[.i ((k:Int)+1),.i y1,.i y2,.i y3,.i y4] rfl rfl 61 _ t bP rfl (gJ _ _ _ _ _) ?_)
      refine F3 (dF results61 _ _ _ _ _ _ _ rfl (H3 _ _ _ _ _ _ t) underlying61 rfl bP) rfl ⟨?_,?_⟩
      ·rw [F.out,<- W.out];rfl
      ·exact ay Y (K1 _) _
    | false =>
      rw [S] at p
      have F:Hid (df e (98-(k+1)) (k+1)=df e 98 0):=(xZ e k bZ S).symm.trans Z.out
      clear RF
      go_wp2_with fail
      go_roundw
      case rel=>exact ⟨k+1,aa,by go_num,F,G2,I⟩
      case measure=>simp [intOf];omega
   ·have hk2:k=98:=by omega
    subst hk2
    have F:Hid (V=.tuple #[jt.val,.bool false]):=HM.out Z.out.symm
    have t:=G.out
    go_wp2_with (refine G3 rfl 61 (.tmp 2) (.tmp 36) rfl rfl w.heap.size #[.i 0,.i 0,.i 0,.i 0,.i 0] rfl rfl 61 _ t bP rfl (gJ _ _ _ _ _) ?_)
    refine F3 (dF results61 _ _ _ _ _ _ _ rfl (H3 _ _ _ _ _ _ t) underlying61 rfl bP) rfl ⟨?_,?_⟩
    ·rw [F.out];rfl
    ·exact ay H (K1 _) _
 ·have d1:decide (4294967295<e):=by simp;omega
  have F:Hid (oZ e=.tuple #[jt.val,.bool false]):=Iw e b
  obtain ⟨V,D⟩:∃ V,V=oZ e:=⟨_,rfl⟩
  rw [<- D] at F ⊢
  clear D
  go_enter func61,ntmps61
  go_wp2_with fail
  refine F3 (dF results61 _ _ _ _ _ _ _ rfl (zY w) underlying61 rfl bP) rfl ⟨?_,?_⟩
  ·rw [F.out];rfl
  ·exact bal _ _
theorem F4 (l:List (Nat × Nat × Nat)) (k:Nat) (h:k<l.length):F0 .or .u64 (j8 e g (l.take k)) (Uz.wrap (aG (dG e) (l.getD k (0,0,0)).2.2 (l.getD k (0,0,0)).2.1*2^(l.getD k (0,0,0)).1))=j8 e g (l.take (k+1)):=by
 have imm:l.getD k (0,0,0)=l[k]:=by simp [I5,h]
 rw [imm,List.take_succ_eq_append_getElem h];simp only [j8,List.foldl_append,I4,H8]
theorem vL (nm:ByteArray) (f:Fm) (o z imm:Int) (w:A6): CB 60 #[.agg #[.i e,.i g,.i j,.i Q,.i m],.agg #[.string nm,.string f.str,.u o,.u z,.u imm]] w (.u (gB f o z imm ⟨e,g,j,Q,m⟩)):=by
 have W:=pL f
 have L:=kB e nm f o z imm
 obtain ⟨MM,hMM⟩:∃ M,M=fV e f:=⟨_,rfl⟩
 obtain ⟨N,U⟩:∃ c,c=d7 f o z imm:=⟨_,rfl⟩
 rw [<- hMM,<- U] at L
 obtain ⟨b1,S⟩:∃ Q,Q=f.hasRd:=⟨_,rfl⟩
 obtain ⟨b2,D⟩:∃ Q,Q=f.hasA:=⟨_,rfl⟩
 obtain ⟨b3,E⟩:∃ Q,Q=f.hasB:=⟨_,rfl⟩
 obtain ⟨l,hl⟩:∃ l,l=f.pcs:=⟨_,rfl⟩
 obtain ⟨wd,hwd⟩:∃ wd,wd=f.width:=⟨_,rfl⟩
 obtain ⟨s,hs⟩:∃ s,s=f.str:=⟨_,rfl⟩
 have PB:Hid (∀ p ∈ l,p.1<64/\p.2.1<64/\p.2.2<64):=by
  show ∀ p ∈ l,p.1<64/\p.2.1<64/\p.2.2<64
  rw [hl];cases f<;>decide
 have LB:l.length<=4:=by rw [hl];cases f<;>decide
 rw [<- S,<- D,<- E,<- hl,<- hwd,<- hs] at W
 rw [<- hs] at L
 obtain ⟨y1,X⟩:∃ y,y=aG (dG g) 0 5:=⟨_,rfl⟩
 obtain ⟨y2,Y⟩:∃ y,y=aG (dG j) 0 5:=⟨_,rfl⟩
 obtain ⟨y3,Z⟩:∃ y,y=aG (dG Q) 0 5:=⟨_,rfl⟩
 have FV:Hid (gB f o z imm ⟨e,g,j,Q,m⟩=j8 m (if b3 then F0 .or .u64 (if b2 then F0 .or .u64 (if b1 then F0 .or .u64 N (Uz.wrap (y1*128)) else N) (Uz.wrap (y2*32768)) else (if b1 then F0 .or .u64 N (Uz.wrap (y1*128)) else N)) (Uz.wrap (y3*1048576)) else (if b2 then F0 .or .u64 (if b1 then F0 .or .u64 N (Uz.wrap (y1*128)) else N) (Uz.wrap (y2*32768)) else (if b1 then F0 .or .u64 N (Uz.wrap (y1*128)) else N))) l):=by
  show _=_
  rw [S,D,E,hl,U,X,Y,Z]
  rfl
 obtain ⟨V,hV⟩:∃ V,V=gB f o z imm ⟨e,g,j,Q,m⟩:=⟨_,rfl⟩
 rw [<- hV] at FV ⊢
 rw [<- hs]
 obtain ⟨u1,H⟩:∃ u,u=Uz.wrap g:=⟨_,rfl⟩
 obtain ⟨u2,I⟩:∃ u,u=Uz.wrap j:=⟨_,rfl⟩
 obtain ⟨u3,J⟩:∃ u,u=Uz.wrap Q:=⟨_,rfl⟩
 obtain ⟨u4,O⟩:∃ u,u=Uz.wrap m:=⟨_,rfl⟩
 have B1:=aL u1 0 5 (by rw [H];exact (iV g).1) (by rw [H];exact (iV g).2) ba ba
 have B2:=aL u2 0 5 (by rw [I];exact (iV j).1) (by rw [I];exact (iV j).2) ba ba
 have B3:=aL u3 0 5 (by rw [J];exact (iV Q).1) (by rw [J];exact (iV Q).2) ba ba
 have U4:Hid (0<=u4/\u4<18446744073709551616):=by
  show _/\_
  rw [O];exact iV m
 have E1:aG u1 0 5=y1:=by rw [X,H];rfl
 have E2:aG u2 0 5=y2:=by rw [Y,I];rfl
 have E3:aG u3 0 5=y3:=by rw [Z,J];rfl
 rw [E1] at B1
 rw [E2] at B2
 rw [E3] at B3
 have HB1:Hid (∀ w:A6,H1 prog 73 #[.u u1,.i 0,.i 5] w λop K=>op=.returned (.u y1)/\K=w.drew):=B1
 have HB2:Hid (∀ w:A6,H1 prog 73 #[.u u2,.i 0,.i 5] w λop K=>op=.returned (.u y2)/\K=w.drew):=B2
 have HB3:Hid (∀ w:A6,H1 prog 73 #[.u u3,.i 0,.i 5] w λop K=>op=.returned (.u y3)/\K=w.drew):=B3
 have RP:Hid (∀ w:A6,CB 91 #[.i e,.agg #[.string nm,.string s,.u o,.u z,.u imm]] w (.tuple #[.u MM,.u N])):=L
 have HU4:Hid (u4=Uz.wrap m):=O
 have hu1':=H.symm
 have hu2':=I.symm
 have hu3':=J.symm
 have hu4':=O.symm
 clear B1 B2 B3 E1 E2 E3 L hMM U S D E hl hwd hs X Y Z hV H I J O
 cases b1<;>cases b2<;>cases b3
 all_goals (
  go_enter func60,ntmps60
  go_wp2_with fail
  refine (W _).mono ?_
  rintro op r ⟨p,rfl,hP,t⟩
  clear W
  have hsz:w.heap.size+1<r.heap.size:=by have:=t.size;simp at this;omega
  have hb0:Bw w r:=((bal _ _).alloc bh _).trans (t.mono bb)
  have K2:Hid (r.heap[w.heap.size]?=some (.cells #[.i e,.i g,.i j,.i Q,.i m] 61 (0,0))):=by
   show _=_
   rw [t.block _ bb];exact heap_alloc2_old _ _ _
  have K3:Hid (r.heap[w.heap.size+1]?=some (.cells #[.string nm,.string s,.u o,.u z,.u imm] 95 (0,0))):=by
   show _=_
   rw [t.block _ bh];exact heap_alloc2_new _ _ _
  clear t
  have B:∀ a:Obj,Bw r (r.alloc a):=λa=>(L4 _ _).alloc (K1 _) a
  have q0:∀ a:Obj,(r.alloc a).cell? ⟨w.heap.size,0,none⟩=some (.i e):=λa=>(A0 _ _ _ _ _ _ (aC (B a) K2.out)).trans rfl
  have q1:∀ a:Obj,(r.alloc a).cell? ⟨w.heap.size+1,0,none⟩=some (.string nm):=λa=>(A0 _ _ _ _ _ _ (aC (B a) K3.out)).trans rfl
  have q2:∀ a:Obj,(r.alloc a).cell? ⟨w.heap.size+1,1,none⟩=some (.string s):=λa=>(A0 _ _ _ _ _ _ (aC (B a) K3.out)).trans rfl
  have q3:∀ a:Obj,(r.alloc a).cell? ⟨w.heap.size+1,2,none⟩=some (.u o):=λa=>(A0 _ _ _ _ _ _ (aC (B a) K3.out)).trans rfl
  have q4:∀ a:Obj,(r.alloc a).cell? ⟨w.heap.size+1,3,none⟩=some (.u z):=λa=>(A0 _ _ _ _ _ _ (aC (B a) K3.out)).trans rfl
  have q5:∀ a:Obj,(r.alloc a).cell? ⟨w.heap.size+1,4,none⟩=some (.u imm):=λa=>(A0 _ _ _ _ _ _ (aC (B a) K3.out)).trans rfl
  clear B
  go_wp2_with fail
  refine (RP.out _).mono ?_
  rintro op w2 ⟨rfl,A⟩
  clear RP q0 q1 q2 q3 q4 q5
  have F:Hid (w2.heap[w.heap.size]?=some (.cells #[.i e,.i g,.i j,.i Q,.i m] 61 (0,0))):=aC A (aC (bal _ _) K2.out)
  have D:Bw r w2:=(bal _ _).trans (A.mono bh)
  obtain ⟨d1,hd1⟩:∃ d,some (Value.bool d)=w2.cell? ⟨r.heap.size,0,none⟩:=⟨_,((A.cell (p:=⟨r.heap.size,0,none⟩) bh).trans (A0 _ _ _ _ _ _ (A5 _ _))).symm⟩
  have t0:=(A.cell (p:=⟨r.heap.size,0,none⟩) bh).trans (A0 _ _ _ _ _ _ (A5 _ _))
  have t1:=(A.cell (p:=⟨r.heap.size,1,none⟩) bh).trans (A0 _ _ _ _ _ _ (A5 _ _))
  have t2:=(A.cell (p:=⟨r.heap.size,2,none⟩) bh).trans (A0 _ _ _ _ _ _ (A5 _ _))
  have t3:=(A.cell (p:=⟨r.heap.size,3,none⟩) bh).trans (A0 _ _ _ _ _ _ (A5 _ _))
  have s1:w2.cell? ⟨w.heap.size,1,none⟩=some (.i g):=(A0 _ _ _ _ _ _ F.out).trans rfl
  have s2:w2.cell? ⟨w.heap.size,2,none⟩=some (.i j):=(A0 _ _ _ _ _ _ F.out).trans rfl
  have s3:w2.cell? ⟨w.heap.size,3,none⟩=some (.i Q):=(A0 _ _ _ _ _ _ F.out).trans rfl
  simp at t0 t1 t2 t3
  clear hd1 d1 A
  go_wp2_with (go_at_call 73;first | (with_reducible refine (HB1.out _).mono ?_;rintro op w3 ⟨rfl,rfl⟩) | (with_reducible refine (HB2.out _).mono ?_;rintro op w3 ⟨rfl,rfl⟩) | (with_reducible refine (HB3.out _).mono ?_;rintro op w3 ⟨rfl,rfl⟩))
  have R:=FV.out
  simp only [if_true,H5,if_false] at R
  have HFV:Hid (V=_):=R
  clear R FV HB1 HB2 HB3 s1 s2 s3 t0 t1 t2 t3
  have hP2:Hid (lR w2 p l):=lR.below hP.out D
  have E:=ae hb0 D
  clear hP hb0 D
  go_loopw [7,50] (λacc i wr=>∃ k:Nat,k<=l.length/\i=.i k/\∃ C:Int,Hid (V=j8 m C l)/\acc=.u (j8 m C (l.take k)) /\
   Hid (wr.heap[w.heap.size]?=some (.cells #[.i e,.i g,.i j,.i Q,.i m] 61 (0,0))) /\
   Hid (lR wr p l)/\Bw w wr)
   (λ_ i _=>l.length-(intOf i).toNat)
  case atStart =>
   refine ⟨0,aa,rfl,_,HFV,rfl,?_,?_,?_⟩
   ·exact F
   ·exact hP2
   ·(repeat apply Below.drew);exact E
  case round =>
   obtain ⟨k,hk,rfl,C,HC,rfl,G2,HP,G⟩:=hrel
   clear hP2 E F K2 K3 HFV
   by_cases bZ:k<l.length
   ·obtain ⟨rd,hpg,hg,d0,d1,d2⟩:=HP.out k bZ
    subst hpg
    have AC:Hid (F0 .or .u64 (j8 m C (l.take k)) (Uz.wrap (aG (dG m) (l.getD k (0,0,0)).2.2 (l.getD k (0,0,0)).2.1*2^(l.getD k (0,0,0)).1))=j8 m C (l.take (k+1))):=F4 m C l k bZ
    have PB2:=PB.out (l.getD k (0,0,0)) (by simp [I5,bZ])
    obtain ⟨⟨pa,pb,pt⟩,hq⟩:∃ q,q=l.getD k (0,0,0):=⟨_,rfl⟩
    rw [<- hq] at d0 d1 d2 AC PB2
    clear hq
    obtain ⟨PB3,PB4,PB5⟩:=PB2
    simp only at d0 d1 d2 PB3 PB4 PB5
    have b:=zQ u4 pt pb U4.out.1 U4.out.2 PB5 PB4
    obtain ⟨y,hy⟩:∃ y,y=aG u4 pt pb:=⟨_,rfl⟩
    obtain ⟨zz,hz⟩:∃ z,z=j8 m C (l.take k):=⟨_,rfl⟩
    rw [<- hy] at b
    have AC2:Hid (F0 .or .u64 zz (Uz.wrap (y*2^pa))=j8 m C (l.take (k+1))):=by
     show _=_
     rw [hz,hy,HU4.out];exact AC.out
    have BQ:Hid (∀ w:A6,H1 prog 73 #[.u u4,.i pt,.i pb] w λop K=>op=.returned (.u y)/\∃ imm,K=w.drewN imm):=b
    have n4:∀ a:Obj,(wr.alloc a).cell? ⟨w.heap.size,4,none⟩=some (.i m):=λa=>(A0 _ _ _ _ _ _ (aC ((L4 _ _).alloc (K1 _) a) G2.out)).trans rfl
    rw [<- hz]
    clear b AC hy hz
    go_wp2_with fail
    go_quiet (first | (go_at_call 73;with_reducible refine Calls.quiet_of (BQ.out _)))
    go_wp2_with fail
    go_roundw
    case rel =>
     have T:Bw wr ((wr.alloc (.cells #[.i pa,.i pb,.i pt] 159)).drewN nq):=ig (bal _ _) nq
     exact ⟨k+1,aa,by go_num,C,HC,by rw [<- AC2.out],aC T G2.out,lR.below HP.out T,ae G T⟩
    case measure=>simp [intOf];omega
   ·have hkl:k=l.length:=by omega
    have P:l.take k=l:=List.take_of_length_le aa
    rw [P,<- HC.out]
    subst hkl
    clear P
    go_wp2_with fail
    go_ret
    exact ⟨rfl,G⟩)
theorem Cx:∀ (l:List (Nat × Nat × Nat)) (a:Int),0<=a/\a<18446744073709551616->0<=j8 e a l/\j8 e a l<18446744073709551616:=by
 intro l;induction l with
 | nil=>intro a h;exact h
 | cons p l b=>intro a h;exact b _ (fW _ _ _)
theorem tZ (i:Ins):0<=gB d e g j i/\gB d e g j i<18446744073709551616:=by
 have a:0<=d7 d e g j/\d7 d e g j<18446744073709551616:=fW _ _ _;have b:0<=jX d e g j i.rd/\jX d e g j i.rd<18446744073709551616:=by
  unfold jX;split;·exact fW _ _ _
  ·exact a
 have c:0<=jY d e g j i.rd i.a/\jY d e g j i.rd i.a<18446744073709551616:=by
  unfold jY;split;·exact fW _ _ _
  ·exact b
 have f:0<=kC d e g j i.rd i.a i.b/\kC d e g j i.rd i.a i.b<18446744073709551616:=by
  unfold kC;split;·exact fW _ _ _
  ·exact c
 exact Cx _ _ _ f
def wL (i:Ins):Value:=.tuple #[.u (tX i).1,.bool (tX i).2]
def BareDoes:Prop:=∀ (i:Ins),(cO i.op).fm=.x->oN i.op->∀ w:A6,
 H1 prog 59 #[.agg #[.i i.op,.i i.rd,.i i.a,.i i.b,.i i.imm]] w λe a =>
  e=.returned (.tuple #[.u (if lS i then d7 .x (cO i.op).op (cO i.op).f3z (cO i.op).more else 0),.bool (lS i)])/\Bw w a
theorem nz (P:BareDoes) (i:Ins) (w1:(Lit.int .i64 i.op).wf) (w:A6):CB 36 #[.agg #[.i i.op,.i i.rd,.i i.a,.i i.b,.i i.imm]] w (wL i):=by
 obtain ⟨V,S⟩:∃ V,V=wL i:=⟨_,rfl⟩
 have L:=ol i.op w1
 cases C:oN i.op with
 | false =>
   have F:Hid (V=.tuple #[.u 0,.bool false]):=by
    show _=_
    rw [S];unfold wL tX;rw [C];rfl
   rw [<- S]
   rw [C,oY C] at L
   obtain ⟨op,g,a,b,d⟩:=i
   simp only at L ⊢
   have s:Hid (∀ w:A6,CB 58 #[.i op] w (.tuple #[.agg #[.string ⟨#[]⟩,.string ⟨#[]⟩,.u 0,.u 0,.u 0],.bool false])):=L
   clear L S C P
   go_enter func36,ntmps36
   go_wp2_with fail
   refine (s.out _).mono ?_
   rintro e l ⟨rfl,G⟩
   have p:Bw w l:=(bal _ _).trans (G.mono bh)
   clear G
   go_wp2_with fail
   go_ret2
   exact ⟨bc,p.alloc p.size _⟩
 | true =>
   have ho2:1<=i.op/\i.op<=98:=of_decide_eq_true C
   obtain ⟨op,g,a,b,d⟩:=i
   simp only at ho2 w1 C L ⊢
   obtain ⟨k,hk⟩:∃ k:Nat,op=(k:Int)+1:=⟨(op-1).toNat,aa⟩
   have hk2:k<98:=aa
   subst hk
   have RK:cO ((k:Int)+1)=az k:=by simp [cO]
   have q:=P ⟨(k:Int)+1,g,a,b,d⟩
   simp only [RK] at q
   obtain ⟨r,J⟩:∃ r,r=az k:=⟨_,rfl⟩
   rw [C,wH C,<- J] at L
   rw [<- J] at q
   have N:Hid (V=if r.fm=.x then .tuple #[.u (if lS ⟨(k:Int)+1,g,a,b,d⟩ then d7 .x r.op r.f3z r.more else 0),.bool (lS ⟨(k:Int)+1,g,a,b,d⟩)] else if py (gB r.fm r.op r.f3z r.more ⟨(k:Int)+1,g,a,b,d⟩)=some ⟨(k:Int)+1,g,a,b,d⟩ then .tuple #[.u (gB r.fm r.op r.f3z r.more ⟨(k:Int)+1,g,a,b,d⟩),.bool true] else .tuple #[.u 0,.bool false]):=by
    show _=_
    rw [S]
    unfold wL tX tW
    simp only [C,RK,<- J,if_true]
    by_cases h1:r.fm=.x
    ·simp only [h1,if_true]
     cases lS ⟨(k:Int)+1,g,a,b,d⟩<;>rfl
    ·simp only [h1,if_false]
     by_cases h2:py (gB r.fm r.op r.f3z r.more ⟨(k:Int)+1,g,a,b,d⟩)=some ⟨(k:Int)+1,g,a,b,d⟩<;>simp [h2]
   rw [<- S]
   clear S P RK J ho2
   obtain ⟨nm,f,o,m3,m⟩:=r
   obtain ⟨z,hz⟩:∃ z,z=Row.f3z ⟨nm,f,o,m3,m⟩:=⟨_,rfl⟩
   rw [<- hz] at N q
   have s:Hid (∀ w:A6,CB 58 #[.i ((k:Int)+1)] w (.tuple #[.agg #[.string nm,.string f.str,.u o,.u z,.u m],.bool true])):=by
    intro w
    have:=L w
    rw [Row.val,<- hz] at this
    exact this
   simp only at N q
   clear L hz
   by_cases hx:f=.x
   ·subst hx
    obtain ⟨v,hv⟩:∃ v,v=(if lS ⟨(k:Int)+1,g,a,b,d⟩ then d7 .x o z m else 0):=⟨_,rfl⟩
    obtain ⟨t,ht⟩:∃ t,t=lS ⟨(k:Int)+1,g,a,b,d⟩:=⟨_,rfl⟩
    have M:=q rfl C
    have F:Hid (V=.tuple #[.u v,.bool t]):=by
     show _=_
     rw [N.out,JZ8 rfl,hv,ht]
    rw [<- hv,<- ht] at M
    have BW:Hid (∀ w:A6,CB 59 #[.agg #[.i ((k:Int)+1),.i g,.i a,.i b,.i d]] w (.tuple #[.u v,.bool t])):=M
    clear q M N hv ht C
    simp only [Fm.str] at s
    go_enter func36,ntmps36
    go_wp2_with fail
    refine (s.out _).mono ?_
    rintro e l ⟨rfl,G⟩
    have p:Bw w l:=(bal _ _).trans (G.mono bh)
    have K:Hid (l.heap[w.heap.size]?=some (.cells #[.i ((k:Int)+1),.i g,.i a,.i b,.i d] 61 (0,0))):=by
     show _=_
     rw [G.block _ bh];exact A5 _ _
    have u:∀ c:Obj,Bw l (l.alloc c):=λc=>(L4 _ _).alloc (K1 _) c
    have E0:∀ c:Obj,(l.alloc c).cell? ⟨w.heap.size,0,none⟩=some (.i ((k:Int)+1)):=λc=>(A0 _ _ _ _ _ _ (aC (u c) K.out)).trans rfl
    have E1:∀ c:Obj,(l.alloc c).cell? ⟨w.heap.size,1,none⟩=some (.i g):=λc=>(A0 _ _ _ _ _ _ (aC (u c) K.out)).trans rfl
    have E2:∀ c:Obj,(l.alloc c).cell? ⟨w.heap.size,2,none⟩=some (.i a):=λc=>(A0 _ _ _ _ _ _ (aC (u c) K.out)).trans rfl
    have E3:∀ c:Obj,(l.alloc c).cell? ⟨w.heap.size,3,none⟩=some (.i b):=λc=>(A0 _ _ _ _ _ _ (aC (u c) K.out)).trans rfl
    have E4:∀ c:Obj,(l.alloc c).cell? ⟨w.heap.size,4,none⟩=some (.i d):=λc=>(A0 _ _ _ _ _ _ (aC (u c) K.out)).trans rfl
    clear G u
    go_wp2_with fail
    refine (BW.out _).mono ?_
    rintro e w3 ⟨rfl,D⟩
    go_wp2_with fail
    go_ret2
    exact ⟨bc,(p.alloc p.size _).trans (D.mono (by have:=p.size;simp;omega))⟩
   ·have Q:=vL ((k:Int)+1) g a b d nm f o z m
    have YR:=tZ f o z m ⟨(k:Int)+1,g,a,b,d⟩
    obtain ⟨y,hy⟩:∃ y,y=gB f o z m ⟨(k:Int)+1,g,a,b,d⟩:=⟨_,rfl⟩
    rw [<- hy] at Q YR N
    have O:Hid (V=if py y=some ⟨(k:Int)+1,g,a,b,d⟩ then .tuple #[.u y,.bool true] else .tuple #[.u 0,.bool false]):=by
     show _=_
     rw [N.out,JZ9 hx]
    obtain ⟨j,t,hD,W,X⟩:=Iz y
    have SD:=ny y YR.1 YR.2
    rw [hD] at SD
    have HD1:Hid (t->py y=some j):=W
    have HD2:Hid (t=false->py y=none):=X
    obtain ⟨jo,jr,ja,jb,ji⟩:=j
    simp only at SD
    have T:Hid (∀ w:A6,CB 61 #[.u y] w (.tuple #[.agg #[.i jo,.i jr,.i ja,.i jb,.i ji],.bool t])):=SD
    have LF:Hid (∀ w:A6,CB 60 #[.agg #[.i ((k:Int)+1),.i g,.i a,.i b,.i d],.agg #[.string nm,.string f.str,.u o,.u z,.u m]] w (.u y)):=Q
    clear Q YR N SD hD W X q hy C
    cases f
    case x=>exact absurd rfl hx
    all_goals (
     clear hx
     simp only [Fm.str] at s LF
     go_enter func36,ntmps36
     go_wp2_with fail
     refine (s.out _).mono ?_
     rintro e l ⟨rfl,G⟩
     have p:Bw w l:=(bal _ _).trans (G.mono bh)
     have K:Hid (l.heap[w.heap.size]?=some (.cells #[.i ((k:Int)+1),.i g,.i a,.i b,.i d] 61 (0,0))):=by
      show _=_
      rw [G.block _ bh];exact A5 _ _
     have u:∀ c:Obj,Bw l (l.alloc c):=λc=>(L4 _ _).alloc (K1 _) c
     have E0:∀ c:Obj,(l.alloc c).cell? ⟨w.heap.size,0,none⟩=some (.i ((k:Int)+1)):=λc=>(A0 _ _ _ _ _ _ (aC (u c) K.out)).trans rfl
     have E1:∀ c:Obj,(l.alloc c).cell? ⟨w.heap.size,1,none⟩=some (.i g):=λc=>(A0 _ _ _ _ _ _ (aC (u c) K.out)).trans rfl
     have E2:∀ c:Obj,(l.alloc c).cell? ⟨w.heap.size,2,none⟩=some (.i a):=λc=>(A0 _ _ _ _ _ _ (aC (u c) K.out)).trans rfl
     have E3:∀ c:Obj,(l.alloc c).cell? ⟨w.heap.size,3,none⟩=some (.i b):=λc=>(A0 _ _ _ _ _ _ (aC (u c) K.out)).trans rfl
     have E4:∀ c:Obj,(l.alloc c).cell? ⟨w.heap.size,4,none⟩=some (.i d):=λc=>(A0 _ _ _ _ _ _ (aC (u c) K.out)).trans rfl
     clear G u
     go_wp2_with fail
     refine (LF.out _).mono ?_
     rintro e w3 ⟨rfl,D⟩
     have K3:Hid (w3.heap[w.heap.size]?=some (.cells #[.i ((k:Int)+1),.i g,.i a,.i b,.i d] 61 (0,0))):=aC D (aC (bal _ _) K.out)
     have Y:Bw w w3:=p.trans ((((L4 l.heap.size l).alloc (K1 _) _).trans (D.mono bh)).mono p.size)
     clear D E0 E1 E2 E3 E4 K p
     go_wp2_with fail
     refine (T.out _).mono ?_
     rintro e H ⟨rfl,R⟩
     have U:Hid (H.heap[w.heap.size]?=some (.cells #[.i ((k:Int)+1),.i g,.i a,.i b,.i d] 61 (0,0))):=aC R K3.out
     have B:Bw w H:=ae Y R
     have A:∀ c:Obj,Bw H (H.alloc c):=λc=>(L4 _ _).alloc (K1 _) c
     have E0:∀ c:Obj,(H.alloc c).cell? ⟨w.heap.size,0,none⟩=some (.i ((k:Int)+1)):=λc=>(A0 _ _ _ _ _ _ (aC (A c) U.out)).trans rfl
     have E1:∀ c:Obj,(H.alloc c).cell? ⟨w.heap.size,1,none⟩=some (.i g):=λc=>(A0 _ _ _ _ _ _ (aC (A c) U.out)).trans rfl
     have E2:∀ c:Obj,(H.alloc c).cell? ⟨w.heap.size,2,none⟩=some (.i a):=λc=>(A0 _ _ _ _ _ _ (aC (A c) U.out)).trans rfl
     have E3:∀ c:Obj,(H.alloc c).cell? ⟨w.heap.size,3,none⟩=some (.i b):=λc=>(A0 _ _ _ _ _ _ (aC (A c) U.out)).trans rfl
     have E4:∀ c:Obj,(H.alloc c).cell? ⟨w.heap.size,4,none⟩=some (.i d):=λc=>(A0 _ _ _ _ _ _ (aC (A c) U.out)).trans rfl
     clear A R Y K3 T LF s
     cases t with
     | false =>
       have F:Hid (V=.tuple #[.u 0,.bool false]):=by
        show _=_
        rw [O.out,HD2.out rfl,JZ9 bh]
       go_wp2_with fail
       go_ret2
       exact ⟨bc,B.alloc B.size _⟩
     | true =>
       have HJ:Hid (py y=some ⟨jo,jr,ja,jb,ji⟩):=HD1.out rfl
       obtain ⟨nb,Z⟩:∃ nb,(!(jo==(k:Int)+1&&jr==g&&ja==a&&jb==b&&ji==d))=nb:=⟨_,rfl⟩
       have I:Hid ((!(jo==(k:Int)+1&&jr==g&&ja==a&&jb==b&&ji==d))=nb):=Z
       clear Z
       cases nb with
       | true =>
         have F:Hid (V=.tuple #[.u 0,.bool false]):=by
          show _=_
          rw [O.out,HJ.out,JZ9]
          intro h
          simp only [Option.some.injEq,Ins.mk.injEq] at h
          have:=I.out
          simp [h.1,h.2.1,h.2.2.1,h.2.2.2.1,h.2.2.2.2] at this
         go_wp2_with (refine nt rfl _ _ _ rfl rfl rfl true I.out ?_)
         go_ret2
         exact ⟨bc,B.alloc B.size _⟩
       | false =>
         have F:Hid (V=.tuple #[.u y,.bool true]):=by
          show _=_
          rw [O.out,HJ.out,JZ8]
          have:=I.out
          simp at this
          simp only [Option.some.injEq,Ins.mk.injEq]
          exact ⟨this.1.1.1.1,this.1.1.1.2,this.1.1.2,this.1.2,this.2⟩
         go_wp2_with (refine nt rfl _ _ _ rfl rfl rfl false I.out ?_)
         go_ret2
         exact ⟨bc,B.alloc B.size _⟩)
