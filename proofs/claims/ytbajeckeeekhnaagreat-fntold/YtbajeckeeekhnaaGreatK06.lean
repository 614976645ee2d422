/- Own lemmas. -/
import Derived.Test.YtbajeckeeekhnaaGreatK04
namespace Go.Proofs.YtbajeckeeekhnaaGreat
open Go.RowKit
set_option linter.unusedVariables false

def Own (w:World) (base g cap:Nat) (l:List Int):Prop:=w.ownsRow base 24 1 (.slice (some ⟨g,0,none⟩) 22 cap) 22 (l.map (Value.int .u64))

theorem Own.len {w:World} {base g cap:Nat} {l:List Int} (h:Own w base g cap l):l.length=22:=by
 have:=h.1;simpa using this

theorem Own.cell {w:World} {base g cap:Nat} {l:List Int} (h:Own w base g cap l) (j:Nat) (hj:j < 22):w.cell? ⟨g,j,none⟩=some (.int .u64 (l.getD j 0)):=by
 have hl:=h.len
 have e:=World.ownsRow.cellAt h j hj
 rw [e]
 simp [List.getD,List.getElem?_eq_getElem (show j < l.length by omega)]

theorem Own.froz {w:World} {base g cap:Nat} {l:List Int} (h:Own w base g cap l) (j:Nat):w.frozen? ⟨g,j,none⟩=false:=World.ownsRow.frozenAt h j

theorem Own.put {w:World} {base g cap:Nat} {l:List Int} (h:Own w base g cap l) (j:Nat) (v:Int):Own (w.setCell ⟨g,j,none⟩ (.int .u64 v)) base g cap (l.set j v)∧w.grownBy (w.setCell ⟨g,j,none⟩ (.int .u64 v)) (some g):=by
 have e:=World.ownsRow.stored h j (.int .u64 v)
 rw [map_set_u64] at e
 exact e

theorem Own.below {w w':World} {base g cap:Nat} {l:List Int} (h:Own w base g cap l) (hb:Below w.heap.size w w'):Own w' base g cap l:=ownsRow_below h hb

theorem grown_below {w w':World} (hb:Below w.heap.size w w') (row:Option Nat):w.grownBy w' row:=⟨hb.os,hb.tape,hb.output,hb.size,fun k hk _=>hb.block k hk⟩

set_option maxRecDepth 100000 in
set_option maxHeartbeats 1600000 in
theorem l4Write_769 (base g cap:Nat) (l:List Int) (x:Int) (w:World) (h:Own w base g cap l) :
 Calls Tryz.prog 90 #[.slice (some ⟨g,0,none⟩) 22 cap,.int .i64 769,.int .u64 x] w fun e w'=>e=.returned (.tuple #[])∧Own w' base g cap (writeV l 769 x)∧w.grownBy w' (some g):=by
 go_enter Tryz.func90,Tryz.ntmps90
 go_wp2_with fail
 refine bodyPost_ret (results_none Tryz.results90 _ _ _) rfl ?_
 exact ⟨rfl,h,grown_refl _ _⟩

set_option maxRecDepth 100000 in
set_option maxHeartbeats 1600000 in
theorem l4Write_3860 (base g cap:Nat) (l:List Int) (x:Int) (w:World) (h:Own w base g cap l) :
 Calls Tryz.prog 90 #[.slice (some ⟨g,0,none⟩) 22 cap,.int .i64 3860,.int .u64 x] w fun e w'=>e=.returned (.tuple #[])∧Own w' base g cap (writeV l 3860 x)∧w.grownBy w' (some g):=by
 go_enter Tryz.func90,Tryz.ntmps90
 go_wp2_with fail
 refine bodyPost_ret (results_none Tryz.results90 _ _ _) rfl ?_
 exact ⟨rfl,h,grown_refl _ _⟩

set_option maxRecDepth 100000 in
set_option maxHeartbeats 1600000 in
theorem l4Write_256 (base g cap:Nat) (l:List Int) (x:Int) (w:World) (h:Own w base g cap l) :
 Calls Tryz.prog 90 #[.slice (some ⟨g,0,none⟩) 22 cap,.int .i64 256,.int .u64 x] w fun e w'=>e=.returned (.tuple #[])∧Own w' base g cap (writeV l 256 x)∧w.grownBy w' (some g):=by
 have F:Hid (writeV l 256 x=l.set 0 (bits .or .u64 (bits .andNot .u64 (l.getD 0 0) 786722) (bits .and .u64 x 786722))):=(rfl:writeV l 256 x=_)
 have H:Hid (Own w base g cap l):=h
 have c:=h.cell 0 (by omega)
 have f:=h.froz 0
 clear h
 go_enter Tryz.func90,Tryz.ntmps90
 go_wp2_with fail
 refine bodyPost_ret (results_none Tryz.results90 _ _ _) rfl ?_
 exact ⟨rfl,by rw [F.out];exact (H.out.put 0 _).1,(H.out.put 0 _).2⟩

set_option maxRecDepth 100000 in
set_option maxHeartbeats 1600000 in
theorem l4Write_324 (base g cap:Nat) (l:List Int) (x:Int) (w:World) (h:Own w base g cap l) :
 Calls Tryz.prog 90 #[.slice (some ⟨g,0,none⟩) 22 cap,.int .i64 324,.int .u64 x] w fun e w'=>e=.returned (.tuple #[])∧Own w' base g cap (writeV l 324 x)∧w.grownBy w' (some g):=by
 have F:Hid (writeV l 324 x=l.set 9 (bits .or .u64 (bits .andNot .u64 (l.getD 9 0) (bits .and .u64 (l.getD 2 0) 2)) (bits .and .u64 x (bits .and .u64 (l.getD 2 0) 2)))):=(rfl:writeV l 324 x=_)
 have H:Hid (Own w base g cap l):=h
 have c:=h.cell 9 (by omega)
 have c2:=h.cell 2 (by omega)
 have f:=h.froz 9
 clear h
 go_enter Tryz.func90,Tryz.ntmps90
 go_wp2_with fail
 refine bodyPost_ret (results_none Tryz.results90 _ _ _) rfl ?_
 exact ⟨rfl,by rw [F.out];exact (H.out.put 9 _).1,(H.out.put 9 _).2⟩

set_option maxRecDepth 100000 in
set_option maxHeartbeats 1600000 in
theorem l4Write_260 (base g cap:Nat) (l:List Int) (x:Int) (w:World) (h:Own w base g cap l) :
 Calls Tryz.prog 90 #[.slice (some ⟨g,0,none⟩) 22 cap,.int .i64 260,.int .u64 x] w fun e w'=>e=.returned (.tuple #[])∧Own w' base g cap (writeV l 260 x)∧w.grownBy w' (some g):=by
 have F:Hid (writeV l 260 x=l.set 3 (legal 3 (bits .or .u64 (bits .andNot .u64 (l.getD 3 0) (l.getD 2 0)) (bits .and .u64 x (l.getD 2 0))))):=(rfl:writeV l 260 x=_)
 have H:Hid (Own w base g cap l):=h
 have c:=h.cell 3 (by omega)
 have c2:=h.cell 2 (by omega)
 have f:=h.froz 3
 clear h
 generalize l.getD 3 0=y3 at *
 generalize l.getD 2 0=y2 at *
 go_enter Tryz.func90,Tryz.ntmps90
 go_wp2_with fail
 go_region_with (go_at_call 55;refine (l4Legal_any _ _ _).mono ?_;rintro e w1 ⟨rfl,hw1⟩;subst hw1)
 all_goals go_wp2_with fail
 all_goals refine bodyPost_ret (results_none Tryz.results90 _ _ _) rfl ?_
 all_goals exact ⟨rfl,by rw [F.out];exact ((H.out.put 3 _).1).below ((Below.refl _ _).drew),grown_trans (H.out.put 3 _).2 ⟨rfl,rfl,rfl,Nat.le_refl _,fun _ _ _=>rfl⟩⟩

def plainB (n:Int):Bool:=!(n==769)&&!(n==3860)&&!(n==256)&&!(n==260)&&!(n==324)

theorem writeV_plain {n:Int} (h:plainB n=true) (l:List Int) (x:Int):writeV l n x=putV l (placeV n) x:=by
 simp [plainB] at h
 unfold writeV
 rw [if_neg (by omega),if_neg (by omega),if_neg (by omega),if_neg (by omega)]

set_option maxRecDepth 100000 in
set_option maxHeartbeats 1600000 in
theorem l4Write_p9 (base g cap:Nat) (l:List Int) (n x:Int) (hp:placeV n=9) (hn:plainB n=true) (w:World) (h:Own w base g cap l) :
 Calls Tryz.prog 90 #[.slice (some ⟨g,0,none⟩) 22 cap,.int .i64 n,.int .u64 x] w fun e w'=>e=.returned (.tuple #[])∧Own w' base g cap (putV l 9 x)∧w.grownBy w' (some g):=by
 simp only [plainB,Bool.and_eq_true,Bool.not_eq_true'] at hn
 obtain ⟨⟨⟨⟨n1,n2⟩,n3⟩,n4⟩,n5⟩:=hn
 have H:Hid (Own w base g cap l):=h
 clear h
 have F:Hid (putV l 9 x=l.set 9 (bits .or .u64 (bits .andNot .u64 (l.getD 9 0) 546) (bits .and .u64 x 546))):=(rfl:putV l 9 x=_)
 have HP:Hid (∀ w,Calls Tryz.prog 91 #[.int .i64 n] w fun e w'=>e=.returned (.int .i64 9)∧Below w.heap.size w w'):=by rw [← hp];exact specPlace_any n
 clear hp
 go_enter Tryz.func90,Tryz.ntmps90
 go_wp2_with fail
 refine (HP.out _).mono ?_
 rintro e w1 ⟨rfl,hb⟩
 have HB:Hid (Below w.heap.size w w1):=hb
 have H1:Hid (Own w1 base g cap l):=H.out.below hb
 clear hb
 have c:=H1.out.cell 9 (by omega)
 have f:=H1.out.froz 9
 generalize l.getD 9 0=y at *
 go_wp2_with fail
 refine bodyPost_end (results_none Tryz.results90 _ _ _) rfl ?_
 exact ⟨rfl,by rw [F.out];exact (H1.out.put 9 _).1,grown_trans (grown_below HB.out _) (H1.out.put 9 _).2⟩

set_option maxRecDepth 100000 in
set_option maxHeartbeats 1600000 in
theorem l4Write_p15 (base g cap:Nat) (l:List Int) (n x:Int) (hp:placeV n=15) (hn:plainB n=true) (w:World) (h:Own w base g cap l) :
 Calls Tryz.prog 90 #[.slice (some ⟨g,0,none⟩) 22 cap,.int .i64 n,.int .u64 x] w fun e w'=>e=.returned (.tuple #[])∧Own w' base g cap (putV l 15 x)∧w.grownBy w' (some g):=by
 simp only [plainB,Bool.and_eq_true,Bool.not_eq_true'] at hn
 obtain ⟨⟨⟨⟨n1,n2⟩,n3⟩,n4⟩,n5⟩:=hn
 have H:Hid (Own w base g cap l):=h
 clear h
 have F0:putV l 15 x=if ((x / 1152921504606846976==0)||(x / 1152921504606846976==8))=true then l.set 15 x else l:=rfl
 obtain ⟨y,hy⟩:∃ y,x / 1152921504606846976=y:=⟨_,rfl⟩
 rw [hy] at F0
 have HP:Hid (∀ w,Calls Tryz.prog 91 #[.int .i64 n] w fun e w'=>e=.returned (.int .i64 15)∧Below w.heap.size w w'):=by rw [← hp];exact specPlace_any n
 clear hp
 cases h0:(y==0) with
 | true =>
   have F:Hid (putV l 15 x=l.set 15 x):=by show _=_;rw [F0,h0];rfl
   clear F0
   go_enter Tryz.func90,Tryz.ntmps90
   go_wp2_with fail
   refine (HP.out _).mono ?_
   rintro e w1 ⟨rfl,hb⟩
   have HB:Hid (Below w.heap.size w w1):=hb
   have H1:Hid (Own w1 base g cap l):=H.out.below hb
   clear hb
   have c:=H1.out.cell 15 (by omega)
   have f:=H1.out.froz 15
   go_wp2_with fail
   refine bodyPost_end (results_none Tryz.results90 _ _ _) rfl ?_
   exact ⟨rfl,by rw [F.out];exact (H1.out.put 15 _).1,grown_trans (grown_below HB.out _) (H1.out.put 15 _).2⟩
 | false =>
   cases h8:(y==8) with
   | true =>
     have F:Hid (putV l 15 x=l.set 15 x):=by show _=_;rw [F0,h0,h8];rfl
     clear F0
     go_enter Tryz.func90,Tryz.ntmps90
     go_wp2_with fail
     refine (HP.out _).mono ?_
     rintro e w1 ⟨rfl,hb⟩
     have HB:Hid (Below w.heap.size w w1):=hb
     have H1:Hid (Own w1 base g cap l):=H.out.below hb
     clear hb
     have c:=H1.out.cell 15 (by omega)
     have f:=H1.out.froz 15
     go_wp2_with fail
     refine bodyPost_end (results_none Tryz.results90 _ _ _) rfl ?_
     exact ⟨rfl,by rw [F.out];exact (H1.out.put 15 _).1,grown_trans (grown_below HB.out _) (H1.out.put 15 _).2⟩
   | false =>
     have F:Hid (putV l 15 x=l):=by show _=_;rw [F0,h0,h8];rfl
     clear F0
     go_enter Tryz.func90,Tryz.ntmps90
     go_wp2_with fail
     refine (HP.out _).mono ?_
     rintro e w1 ⟨rfl,hb⟩
     have HB:Hid (Below w.heap.size w w1):=hb
     have H1:Hid (Own w1 base g cap l):=H.out.below hb
     clear hb
     go_wp2_with fail
     refine bodyPost_end (results_none Tryz.results90 _ _ _) rfl ?_
     exact ⟨rfl,by rw [F.out];exact H1.out,grown_below HB.out _⟩

set_option maxRecDepth 100000 in
set_option maxHeartbeats 1600000 in
theorem l4Write_p16 (base g cap:Nat) (l:List Int) (n x:Int) (hp:placeV n=16) (hn:plainB n=true) (w:World) (h:Own w base g cap l) :
 Calls Tryz.prog 90 #[.slice (some ⟨g,0,none⟩) 22 cap,.int .i64 n,.int .u64 x] w fun e w'=>e=.returned (.tuple #[])∧Own w' base g cap (putV l 16 x)∧w.grownBy w' (some g):=by
 simp only [plainB,Bool.and_eq_true,Bool.not_eq_true'] at hn
 obtain ⟨⟨⟨⟨n1,n2⟩,n3⟩,n4⟩,n5⟩:=hn
 have H:Hid (Own w base g cap l):=h
 clear h
 have F:Hid (putV l 16 x=l.set 16 (cfgKeep l (legal 16 x) 4)):=(rfl:putV l 16 x=_)
 have HP:Hid (∀ w,Calls Tryz.prog 91 #[.int .i64 n] w fun e w'=>e=.returned (.int .i64 16)∧Below w.heap.size w w'):=by rw [← hp];exact specPlace_any n
 clear hp
 go_enter Tryz.func90,Tryz.ntmps90
 go_wp2_with fail
 refine (HP.out _).mono ?_
 rintro e w1 ⟨rfl,hb⟩
 have HB:Hid (Below w.heap.size w w1):=hb
 have H1:Hid (Own w1 base g cap l):=H.out.below hb
 clear hb
 have c:=H1.out.cell 16 (by omega)
 have f:=H1.out.froz 16
 have SL:Hid (Sl .u64 w1 (some ⟨g,0,none⟩) l):=own_sl H1.out
 have LN:Hid (l.length=22):=H1.out.len
 go_wp2_with fail
 refine (l4Legal_any 16 x _).mono ?_
 rintro e w2 ⟨rfl,hw2⟩
 subst hw2
 obtain ⟨z,hz⟩:∃ z,z=legal 16 x:=⟨_,rfl⟩
 rw [← hz]
 rw [← hz] at F
 clear hz
 go_wp2_with fail
 go_loopw [9,10] (fun y i wr=>∃ k:Nat,k≤4∧i=.int .i64 k∧y=.int .u64 (cfgKeep l z k)∧wr=w2)
  (fun _ i _=>4 - (intOf i).toNat)
 case atStart=>exact ⟨0,by omega,rfl,rfl,rfl⟩
 case round =>
  obtain ⟨k,hk,rfl,rfl,rfl⟩:=hrel
  by_cases hlt:k < 4
  ·have F0:cfgKeep l z (k+1)=if (cfgAt l k / 128==1)=true then bits .or .u64 (bits .andNot .u64 (cfgKeep l z k) (IntKind.u64.wrap (255*2 ^ (8*k)))) (bits .and .u64 (l.getD 16 0) (IntKind.u64.wrap (255*2 ^ (8*k)))) else cfgKeep l z k:=rfl
   have HBY:Hid (∀ w,Sl .u64 w (some ⟨g,0,none⟩) l→Calls Tryz.prog 97 #[.slice (some ⟨g,0,none⟩) 22 cap,.int .i64 k] w fun e w'=>e=.returned (.int .u64 (cfgAt l k))∧w'=w):=fun w hs=>l4Byte_any _ cap l k hlt w LN.out hs
   have dk:decide ((k:Int) < 4)=true:=by simp;omega
   have hm:wrap64 (8*(k:Int))=((8*k:Nat):Int):=by unfold wrap64;omega
   have hm2:IntKind.u64.wrap ((8*k:Nat):Int)=((8*k:Nat):Int):=by rw [IntKind.wrap_u64];omega
   have hm3:8*k < 64:=by omega
   obtain ⟨y,hy⟩:∃ y,y=cfgKeep l z k:=⟨_,rfl⟩
   obtain ⟨u,hu⟩:∃ u,u=cfgKeep l z (k+1):=⟨_,rfl⟩
   rw [← hu,← hy] at F0
   rw [← hy]
   have HU:Hid (u=cfgKeep l z (k+1)):=hu
   clear hu hy
   generalize cfgAt l k=by1 at *
   generalize l.getD 16 0=l16 at *
   cases h7:(by1 / 128==1) with
   | true =>
     rw [if_pos h7] at F0
     have F1:Hid (u=bits .or .u64 (bits .andNot .u64 y (IntKind.u64.wrap (255*2 ^ (8*k)))) (bits .and .u64 l16 (IntKind.u64.wrap (255*2 ^ (8*k))))):=F0
     clear F0
     go_wp2_with fail
     refine (HBY.out _ SL.out).mono ?_
     rintro e w3 ⟨rfl,hw3⟩
     subst hw3
     go_wp2_with fail
     go_roundw
     case rel=>exact ⟨k+1,by omega,by go_num,by rw [← HU.out,F1.out],trivial⟩
     case measure=>simp [intOf];omega
   | false =>
     rw [if_neg (by rw [h7];decide)] at F0
     have F1:Hid (u=y):=F0
     clear F0
     go_wp2_with fail
     refine (HBY.out _ SL.out).mono ?_
     rintro e w3 ⟨rfl,hw3⟩
     subst hw3
     go_wp2_with fail
     go_roundw
     case rel=>exact ⟨k+1,by omega,by go_num,by rw [← HU.out,F1.out],trivial⟩
     case measure=>simp [intOf];omega
  ·have hk4:k=4:=by omega
   subst hk4
   generalize cfgKeep l z 4=y at *
   go_wp2_with fail
   refine bodyPost_end (results_none Tryz.results90 _ _ _) rfl ?_
   exact ⟨rfl,by rw [F.out];exact (H1.out.put 16 _).1,grown_trans (grown_below HB.out _) (H1.out.put 16 _).2⟩

set_option maxRecDepth 100000 in
set_option maxHeartbeats 1600000 in
theorem l4Write_p17 (base g cap:Nat) (l:List Int) (n x:Int) (hp:placeV n=17) (hn:plainB n=true) (w:World) (h:Own w base g cap l) :
 Calls Tryz.prog 90 #[.slice (some ⟨g,0,none⟩) 22 cap,.int .i64 n,.int .u64 x] w fun e w'=>e=.returned (.tuple #[])∧Own w' base g cap (putV l 17 x)∧w.grownBy w' (some g):=by
 simp only [plainB,Bool.and_eq_true,Bool.not_eq_true'] at hn
 obtain ⟨⟨⟨⟨n1,n2⟩,n3⟩,n4⟩,n5⟩:=hn
 have H:Hid (Own w base g cap l):=h
 clear h
 have F0:putV l 17 x=if lockB l 0=true then l else l.set 17 (legal 17 x):=rfl
 have HP:Hid (∀ w,Calls Tryz.prog 91 #[.int .i64 n] w fun e w'=>e=.returned (.int .i64 17)∧Below w.heap.size w w'):=by rw [← hp];exact specPlace_any n
 clear hp
 have HL:Hid (∀ w,Sl .u64 w (some ⟨g,0,none⟩) l→l.length=22→Calls Tryz.prog 101 #[.slice (some ⟨g,0,none⟩) 22 cap,.int .i64 0] w fun e w'=>e=.returned (.bool (lockB l 0))∧w'=w):=fun w hs hz=>l4Locked_any _ cap l 0 (by omega) w hz hs
 generalize lockB l 0=lk at *
 cases lk with
 | true =>
   have F:Hid (putV l 17 x=l):=F0
   clear F0
   go_enter Tryz.func90,Tryz.ntmps90
   go_wp2_with fail
   refine (HP.out _).mono ?_
   rintro e w1 ⟨rfl,hb⟩
   have HB:Hid (Below w.heap.size w w1):=hb
   have H1:Hid (Own w1 base g cap l):=H.out.below hb
   clear hb
   go_wp2_with fail
   refine (HL.out _ (own_sl H1.out) H1.out.len).mono ?_
   rintro e w2 ⟨rfl,hw2⟩
   subst hw2
   go_wp2_with fail
   refine bodyPost_end (results_none Tryz.results90 _ _ _) rfl ?_
   exact ⟨rfl,by rw [F.out];exact H1.out,grown_below HB.out _⟩
 | false =>
   have F:Hid (putV l 17 x=l.set 17 (legal 17 x)):=F0
   clear F0
   go_enter Tryz.func90,Tryz.ntmps90
   go_wp2_with fail
   refine (HP.out _).mono ?_
   rintro e w1 ⟨rfl,hb⟩
   have HB:Hid (Below w.heap.size w w1):=hb
   have H1:Hid (Own w1 base g cap l):=H.out.below hb
   clear hb
   have c:=H1.out.cell 17 (by omega)
   have f:=H1.out.froz 17
   go_wp2_with fail
   refine (HL.out _ (own_sl H1.out) H1.out.len).mono ?_
   rintro e w2 ⟨rfl,hw2⟩
   subst hw2
   go_wp2_with fail
   refine (l4Legal_any _ x _).mono ?_
   rintro e w3 ⟨rfl,hw3⟩
   subst hw3
   go_wp2_with fail
   refine bodyPost_end (results_none Tryz.results90 _ _ _) rfl ?_
   exact ⟨rfl,by rw [F.out];exact (H1.out.put 17 _).1,grown_trans (grown_below HB.out _) (H1.out.put 17 _).2⟩

set_option maxRecDepth 100000 in
set_option maxHeartbeats 1600000 in
theorem l4Write_p18 (base g cap:Nat) (l:List Int) (n x:Int) (hp:placeV n=18) (hn:plainB n=true) (w:World) (h:Own w base g cap l) :
 Calls Tryz.prog 90 #[.slice (some ⟨g,0,none⟩) 22 cap,.int .i64 n,.int .u64 x] w fun e w'=>e=.returned (.tuple #[])∧Own w' base g cap (putV l 18 x)∧w.grownBy w' (some g):=by
 simp only [plainB,Bool.and_eq_true,Bool.not_eq_true'] at hn
 obtain ⟨⟨⟨⟨n1,n2⟩,n3⟩,n4⟩,n5⟩:=hn
 have H:Hid (Own w base g cap l):=h
 clear h
 have F0:putV l 18 x=if lockB l 1=true then l else l.set 18 (legal 18 x):=rfl
 have HP:Hid (∀ w,Calls Tryz.prog 91 #[.int .i64 n] w fun e w'=>e=.returned (.int .i64 18)∧Below w.heap.size w w'):=by rw [← hp];exact specPlace_any n
 clear hp
 have HL:Hid (∀ w,Sl .u64 w (some ⟨g,0,none⟩) l→l.length=22→Calls Tryz.prog 101 #[.slice (some ⟨g,0,none⟩) 22 cap,.int .i64 1] w fun e w'=>e=.returned (.bool (lockB l 1))∧w'=w):=fun w hs hz=>l4Locked_any _ cap l 1 (by omega) w hz hs
 generalize lockB l 1=lk at *
 cases lk with
 | true =>
   have F:Hid (putV l 18 x=l):=F0
   clear F0
   go_enter Tryz.func90,Tryz.ntmps90
   go_wp2_with fail
   refine (HP.out _).mono ?_
   rintro e w1 ⟨rfl,hb⟩
   have HB:Hid (Below w.heap.size w w1):=hb
   have H1:Hid (Own w1 base g cap l):=H.out.below hb
   clear hb
   go_wp2_with fail
   refine (HL.out _ (own_sl H1.out) H1.out.len).mono ?_
   rintro e w2 ⟨rfl,hw2⟩
   subst hw2
   go_wp2_with fail
   refine bodyPost_end (results_none Tryz.results90 _ _ _) rfl ?_
   exact ⟨rfl,by rw [F.out];exact H1.out,grown_below HB.out _⟩
 | false =>
   have F:Hid (putV l 18 x=l.set 18 (legal 18 x)):=F0
   clear F0
   go_enter Tryz.func90,Tryz.ntmps90
   go_wp2_with fail
   refine (HP.out _).mono ?_
   rintro e w1 ⟨rfl,hb⟩
   have HB:Hid (Below w.heap.size w w1):=hb
   have H1:Hid (Own w1 base g cap l):=H.out.below hb
   clear hb
   have c:=H1.out.cell 18 (by omega)
   have f:=H1.out.froz 18
   go_wp2_with fail
   refine (HL.out _ (own_sl H1.out) H1.out.len).mono ?_
   rintro e w2 ⟨rfl,hw2⟩
   subst hw2
   go_wp2_with fail
   refine (l4Legal_any _ x _).mono ?_
   rintro e w3 ⟨rfl,hw3⟩
   subst hw3
   go_wp2_with fail
   refine bodyPost_end (results_none Tryz.results90 _ _ _) rfl ?_
   exact ⟨rfl,by rw [F.out];exact (H1.out.put 18 _).1,grown_trans (grown_below HB.out _) (H1.out.put 18 _).2⟩

set_option maxRecDepth 100000 in
set_option maxHeartbeats 1600000 in
theorem l4Write_p19 (base g cap:Nat) (l:List Int) (n x:Int) (hp:placeV n=19) (hn:plainB n=true) (w:World) (h:Own w base g cap l) :
 Calls Tryz.prog 90 #[.slice (some ⟨g,0,none⟩) 22 cap,.int .i64 n,.int .u64 x] w fun e w'=>e=.returned (.tuple #[])∧Own w' base g cap (putV l 19 x)∧w.grownBy w' (some g):=by
 simp only [plainB,Bool.and_eq_true,Bool.not_eq_true'] at hn
 obtain ⟨⟨⟨⟨n1,n2⟩,n3⟩,n4⟩,n5⟩:=hn
 have H:Hid (Own w base g cap l):=h
 clear h
 have F0:putV l 19 x=if lockB l 2=true then l else l.set 19 (legal 19 x):=rfl
 have HP:Hid (∀ w,Calls Tryz.prog 91 #[.int .i64 n] w fun e w'=>e=.returned (.int .i64 19)∧Below w.heap.size w w'):=by rw [← hp];exact specPlace_any n
 clear hp
 have HL:Hid (∀ w,Sl .u64 w (some ⟨g,0,none⟩) l→l.length=22→Calls Tryz.prog 101 #[.slice (some ⟨g,0,none⟩) 22 cap,.int .i64 2] w fun e w'=>e=.returned (.bool (lockB l 2))∧w'=w):=fun w hs hz=>l4Locked_any _ cap l 2 (by omega) w hz hs
 generalize lockB l 2=lk at *
 cases lk with
 | true =>
   have F:Hid (putV l 19 x=l):=F0
   clear F0
   go_enter Tryz.func90,Tryz.ntmps90
   go_wp2_with fail
   refine (HP.out _).mono ?_
   rintro e w1 ⟨rfl,hb⟩
   have HB:Hid (Below w.heap.size w w1):=hb
   have H1:Hid (Own w1 base g cap l):=H.out.below hb
   clear hb
   go_wp2_with fail
   refine (HL.out _ (own_sl H1.out) H1.out.len).mono ?_
   rintro e w2 ⟨rfl,hw2⟩
   subst hw2
   go_wp2_with fail
   refine bodyPost_end (results_none Tryz.results90 _ _ _) rfl ?_
   exact ⟨rfl,by rw [F.out];exact H1.out,grown_below HB.out _⟩
 | false =>
   have F:Hid (putV l 19 x=l.set 19 (legal 19 x)):=F0
   clear F0
   go_enter Tryz.func90,Tryz.ntmps90
   go_wp2_with fail
   refine (HP.out _).mono ?_
   rintro e w1 ⟨rfl,hb⟩
   have HB:Hid (Below w.heap.size w w1):=hb
   have H1:Hid (Own w1 base g cap l):=H.out.below hb
   clear hb
   have c:=H1.out.cell 19 (by omega)
   have f:=H1.out.froz 19
   go_wp2_with fail
   refine (HL.out _ (own_sl H1.out) H1.out.len).mono ?_
   rintro e w2 ⟨rfl,hw2⟩
   subst hw2
   go_wp2_with fail
   refine (l4Legal_any _ x _).mono ?_
   rintro e w3 ⟨rfl,hw3⟩
   subst hw3
   go_wp2_with fail
   refine bodyPost_end (results_none Tryz.results90 _ _ _) rfl ?_
   exact ⟨rfl,by rw [F.out];exact (H1.out.put 19 _).1,grown_trans (grown_below HB.out _) (H1.out.put 19 _).2⟩

set_option maxRecDepth 100000 in
set_option maxHeartbeats 1600000 in
theorem l4Write_p20 (base g cap:Nat) (l:List Int) (n x:Int) (hp:placeV n=20) (hn:plainB n=true) (w:World) (h:Own w base g cap l) :
 Calls Tryz.prog 90 #[.slice (some ⟨g,0,none⟩) 22 cap,.int .i64 n,.int .u64 x] w fun e w'=>e=.returned (.tuple #[])∧Own w' base g cap (putV l 20 x)∧w.grownBy w' (some g):=by
 simp only [plainB,Bool.and_eq_true,Bool.not_eq_true'] at hn
 obtain ⟨⟨⟨⟨n1,n2⟩,n3⟩,n4⟩,n5⟩:=hn
 have H:Hid (Own w base g cap l):=h
 clear h
 have F0:putV l 20 x=if lockB l 3=true then l else l.set 20 (legal 20 x):=rfl
 have HP:Hid (∀ w,Calls Tryz.prog 91 #[.int .i64 n] w fun e w'=>e=.returned (.int .i64 20)∧Below w.heap.size w w'):=by rw [← hp];exact specPlace_any n
 clear hp
 have HL:Hid (∀ w,Sl .u64 w (some ⟨g,0,none⟩) l→l.length=22→Calls Tryz.prog 101 #[.slice (some ⟨g,0,none⟩) 22 cap,.int .i64 3] w fun e w'=>e=.returned (.bool (lockB l 3))∧w'=w):=fun w hs hz=>l4Locked_any _ cap l 3 (by omega) w hz hs
 generalize lockB l 3=lk at *
 cases lk with
 | true =>
   have F:Hid (putV l 20 x=l):=F0
   clear F0
   go_enter Tryz.func90,Tryz.ntmps90
   go_wp2_with fail
   refine (HP.out _).mono ?_
   rintro e w1 ⟨rfl,hb⟩
   have HB:Hid (Below w.heap.size w w1):=hb
   have H1:Hid (Own w1 base g cap l):=H.out.below hb
   clear hb
   go_wp2_with fail
   refine (HL.out _ (own_sl H1.out) H1.out.len).mono ?_
   rintro e w2 ⟨rfl,hw2⟩
   subst hw2
   go_wp2_with fail
   refine bodyPost_end (results_none Tryz.results90 _ _ _) rfl ?_
   exact ⟨rfl,by rw [F.out];exact H1.out,grown_below HB.out _⟩
 | false =>
   have F:Hid (putV l 20 x=l.set 20 (legal 20 x)):=F0
   clear F0
   go_enter Tryz.func90,Tryz.ntmps90
   go_wp2_with fail
   refine (HP.out _).mono ?_
   rintro e w1 ⟨rfl,hb⟩
   have HB:Hid (Below w.heap.size w w1):=hb
   have H1:Hid (Own w1 base g cap l):=H.out.below hb
   clear hb
   have c:=H1.out.cell 20 (by omega)
   have f:=H1.out.froz 20
   go_wp2_with fail
   refine (HL.out _ (own_sl H1.out) H1.out.len).mono ?_
   rintro e w2 ⟨rfl,hw2⟩
   subst hw2
   go_wp2_with fail
   refine (l4Legal_any _ x _).mono ?_
   rintro e w3 ⟨rfl,hw3⟩
   subst hw3
   go_wp2_with fail
   refine bodyPost_end (results_none Tryz.results90 _ _ _) rfl ?_
   exact ⟨rfl,by rw [F.out];exact (H1.out.put 20 _).1,grown_trans (grown_below HB.out _) (H1.out.put 20 _).2⟩

set_option maxRecDepth 100000 in
set_option maxHeartbeats 1600000 in
theorem l4Write_po (base g cap:Nat) (l:List Int) (n x:Int) (k:Nat) (h1:k < 22) (hk:¬ (k=9∨k=15∨k=16∨k=17∨k=18∨k=19∨k=20)) (hp:placeV n=(k:Int)) (hn:plainB n=true) (w:World) (h:Own w base g cap l) :
 Calls Tryz.prog 90 #[.slice (some ⟨g,0,none⟩) 22 cap,.int .i64 n,.int .u64 x] w fun e w'=>e=.returned (.tuple #[])∧Own w' base g cap (putV l (k:Int) x)∧w.grownBy w' (some g):=by
 simp only [plainB,Bool.and_eq_true,Bool.not_eq_true'] at hn
 obtain ⟨⟨⟨⟨n1,n2⟩,n3⟩,n4⟩,n5⟩:=hn
 have H:Hid (Own w base g cap l):=h
 clear h
 have F:Hid (putV l (k:Int) x=l.set k (legal k x)):=by
  show _=_
  unfold putV
  rw [if_neg (by omega),if_neg (by omega),if_neg (by omega),if_neg (by omega)];rfl
 have d9:((k:Int)==9)=false:=by simp;omega
 have d15:((k:Int)==15)=false:=by simp;omega
 have d16:((k:Int)==16)=false:=by simp;omega
 have d17:((k:Int)==17)=false:=by simp;omega
 have d18:((k:Int)==18)=false:=by simp;omega
 have d19:((k:Int)==19)=false:=by simp;omega
 have d20:((k:Int)==20)=false:=by simp;omega
 have HP:Hid (∀ w,Calls Tryz.prog 91 #[.int .i64 n] w fun e w'=>e=.returned (.int .i64 (k:Int))∧Below w.heap.size w w'):=by rw [← hp];exact specPlace_any n
 clear hp
 clear hk
 go_enter Tryz.func90,Tryz.ntmps90
 go_wp2_with fail
 refine (HP.out _).mono ?_
 rintro e w1 ⟨rfl,hb⟩
 have HB:Hid (Below w.heap.size w w1):=hb
 have H1:Hid (Own w1 base g cap l):=H.out.below hb
 clear hb
 have c:=H1.out.cell k h1
 have f:=H1.out.froz k
 go_wp2_with fail
 refine (l4Legal_any _ x _).mono ?_
 rintro e w3 ⟨rfl,hw3⟩
 subst hw3
 go_wp2_with fail
 refine bodyPost_end (results_none Tryz.results90 _ _ _) rfl ?_
 exact ⟨rfl,by rw [F.out];exact (H1.out.put k _).1,grown_trans (grown_below HB.out _) (H1.out.put k _).2⟩

theorem l4Write_any (base g cap:Nat) (l:List Int) (n x:Int) (hk:knownB n=true) (w:World) (h:Own w base g cap l) :
 Calls Tryz.prog 90 #[.slice (some ⟨g,0,none⟩) 22 cap,.int .i64 n,.int .u64 x] w fun e w'=>e=.returned (.tuple #[])∧Own w' base g cap (writeV l n x)∧w.grownBy w' (some g):=by
 by_cases hp:plainB n=true
 ·rw [writeV_plain hp]
  have hb:=placeV_bd n
  have h0:0≤placeV n:=by
   simp [plainB] at hp
   simp [knownB] at hk
   omega
  obtain ⟨k,hk2⟩:∃ k:Nat,placeV n=(k:Int):=⟨(placeV n).toNat,by omega⟩
  rw [hk2]
  by_cases e:k=9∨k=15∨k=16∨k=17∨k=18∨k=19∨k=20
  ·by_cases e9:k=9
   ·subst e9;exact l4Write_p9 base g cap l n x hk2 hp w h
   ·by_cases e15:k=15
    ·subst e15;exact l4Write_p15 base g cap l n x hk2 hp w h
    ·by_cases e16:k=16
     ·subst e16;exact l4Write_p16 base g cap l n x hk2 hp w h
     ·by_cases e17:k=17
      ·subst e17;exact l4Write_p17 base g cap l n x hk2 hp w h
      ·by_cases e18:k=18
       ·subst e18;exact l4Write_p18 base g cap l n x hk2 hp w h
       ·by_cases e19:k=19
        ·subst e19;exact l4Write_p19 base g cap l n x hk2 hp w h
        ·have e20:k=20:=by omega
         subst e20;exact l4Write_p20 base g cap l n x hk2 hp w h
  ·exact l4Write_po base g cap l n x k (by omega) e hk2 hp w h
 ·have:n=769∨n=3860∨n=256∨n=260∨n=324:=by
   simp [plainB] at hp
   omega
  rcases this with rfl | rfl | rfl | rfl | rfl
  ·exact l4Write_769 base g cap l x w h
  ·exact l4Write_3860 base g cap l x w h
  ·exact l4Write_256 base g cap l x w h
  ·exact l4Write_260 base g cap l x w h
  ·exact l4Write_324 base g cap l x w h

theorem run_put {w:World} {base g cap:Nat} {l:List Int} (h:Own w base g cap l) (j:Nat) (hj:j < 22) (x:Int) (o:Oper) (ev:Operand→Value) (p v:Operand) (ho:o.op=.store 24 p v) (hp:ev p=.pointer (some ⟨g,j,none⟩)) (hv:ev v=.int .u64 x) :
 (execOp ev o).run Tryz.prog w=.ok .skip (w.setCell ⟨g,j,none⟩ (.int .u64 x)):=by
 have c:=h.cell j hj
 have f:=h.froz j
 have hs:∀ m,(store ⟨g,j,none⟩ (.int .u64 x) m).run Tryz.prog w=.ok () (w.setCell ⟨g,j,none⟩ (.int .u64 x)):=by
  intro m
  rw [run_store_int]
  simp [stored,c,f]
 simp [execOp,ho,hp,hv,go_sem]
 rw [c]
 simp [f]

theorem wpList_put {ops:Array Oper} {rest:List Oper} {o:Oper} {a:Act} {w:World} {Q:Exit→Act→World→Prop} (hg:o.guard=none) (p v:Operand) (ho:o.op=.store 24 p v) (hd:o.dst=none)
 {base g cap:Nat} {l:List Int} (h:Own w base g cap l) (j:Nat) (hj:j < 22) (x:Int) (hp:a.eval p=.pointer (some ⟨g,j,none⟩)) (hv:a.eval v=.int .u64 x)
 (hk:∀ w',Own w' base g cap (l.set j x)→w.grownBy w' (some g)→wpList Tryz.prog ops Q rest a w'):wpList Tryz.prog ops Q (o :: rest) a w:=by
 refine wpList_plain hg fun K hK=>?_
 unfold Oper.wp
 rw [run_put h j hj x o a.eval p v ho hp hv,Oper.upon_skip]
 rw [hd]
 exact hK _ _ (hk _ (h.put j x).1 (h.put j x).2)

end Go.Proofs.YtbajeckeeekhnaaGreat
