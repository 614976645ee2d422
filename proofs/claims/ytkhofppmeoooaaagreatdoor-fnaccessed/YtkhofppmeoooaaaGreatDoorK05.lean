/- Own lemmas. -/
import Derived.Test.YtkhofppmeoooaaaGreatDoorK04
namespace Go.Proofs.YtkhofppmeoooaaaGreatDoor
open Go.RowKit
set_option linter.unusedVariables false

set_option maxRecDepth 100000 in
set_option maxHeartbeats 12800000 in
theorem l7Walk_2 (ra:Option Addr) (n rcap:Nat) (zs:List Int) (b off cap:Nat) (l:List Int) (p va kind:Int) (w:World)
 (hr:ramOkB n=true) (hz:zs.length=n) (hs:Sl .u8 w ra zs) (hw8:∀ y ∈ zs,(Lit.int .u8 y).wf=true) (hlz:l.length=22) (hl:Sl .u64 w (some ⟨b,off,none⟩) l) (hp:privB p=true) (hk1:1≤kind) (hk3:kind≤3) (hva:0≤va∧va < 18446744073709551616) (hkK:kind=2) :
 Calls Tryz.prog 97 #[.slice ra n rcap,.slice (some ⟨b,off,none⟩) 22 cap,.int .i64 p,.int .u64 va,.int .i64 kind] w fun e w'=>e=.returned (.agg (walkV zs n l p va kind).cells)∧Below w.heap.size w w':=by
 have PG:Hid (∀ w,Calls Tryz.prog 127 #[.int .i64 kind] w fun e w'=>e=.returned (.agg (pageF kind).cells)∧Below w.heap.size w w'):=fun w=>l7Page_any kind hk1 hk3 w
 have FT:Hid (∀ w,Calls Tryz.prog 128 #[.int .i64 kind] w fun e w'=>e=.returned (.agg (faultF kind).cells)∧Below w.heap.size w w'):=fun w=>l7Fault_any kind hk1 hk3 w
 have HW39:Hid (∀ w,Calls Tryz.prog 126 #[.int .u64 va,.int .u64 39] w fun e w'=>e=.returned (.int .u64 (widen 39 va))∧w'=w):=fun w=>l1Widen_any va 39 (by omega) (by omega) w
 obtain ⟨b',off',eb,hblt,c0⟩:=hl 0 (by omega)
 simp only [Option.some.injEq,Addr.mk.injEq,and_true] at eb
 obtain ⟨rfl,rfl⟩:=eb
 obtain ⟨b',off',eb,_,c15⟩:=hl 15 (by omega)
 simp only [Option.some.injEq,Addr.mk.injEq,and_true] at eb
 obtain ⟨rfl,rfl⟩:=eb
 have c0:w.cell? ⟨b,off,none⟩=some (.int .u64 (l.getD 0 0)):=c0
 have TOP:Hid (walkV zs n l p va kind=if ((p==3)||(l.getD 15 0 / 1152921504606846976==0))=true then ⟨va,0,false,0,0⟩ else if (widen 39 va != va)=true then pageF kind else walkL zs n l p va kind 2 (IntKind.u64.wrap (bits .and .u64 (l.getD 15 0) 17592186044415*4096))):=(rfl:walkV zs n l p va kind=_)
 obtain ⟨V,hV⟩:∃ V,walkV zs n l p va kind=V:=⟨_,rfl⟩
 rw [hV] at TOP ⊢
 have HSL:Hid (Sl .u64 w (some ⟨b,off,none⟩) l):=hl
 have HRS:Hid (Sl .u8 w ra zs):=hs
 have HZ:Hid (zs.length=n):=hz
 have HW8:Hid (∀ y ∈ zs,(Lit.int .u8 y).wf=true):=hw8
 have HRAM:Hid (ramOkB n=true):=hr
 have HLZ:Hid (l.length=22):=hlz
 have HVA:Hid (0≤va∧va < 18446744073709551616):=hva
 have HKK:Hid (kind=2):=hkK
 clear hkK
 have HK:Hid (kind=1∨kind=2∨kind=3):=by show _∨_;omega
 have HPV:Hid (p=0∨p=1∨p=3):=by show _∨_;simpa [privB,or_assoc] using hp
 have hle22:∀ o,(w.alloc o).cell? ⟨b,off,none⟩=some (.int .u64 (l.getD 0 0)):=fun o=>(((Below.refl _ _).alloc (Nat.le_refl _) o).cell (by exact hblt)).trans c0
 have hle15:∀ o,(w.alloc o).cell? ⟨b,off+15,none⟩=some (.int .u64 (l.getD 15 0)):=fun o=>(((Below.refl _ _).alloc (Nat.le_refl _) o).cell (by exact hblt)).trans c15
 have HBL0:Hid (b < w.heap.size):=hblt
 clear hV hl hs hz hw8 hr hlz hva hp hk1 hk3
 generalize hx0:l.getD 0 0=x0 at *
 generalize l.getD 15 0=x15 at *
 have HX0:Hid (l.getD 0 0=x0):=hx0
 clear hx0
 cases d3:(p==3) with
 | true =>
  have FH:Hid (V=⟨va,0,false,0,0⟩):=by show V=_;rw [TOP.out,d3,Bool.true_or];exact if_pos rfl
  go_enter Tryz.func97,Tryz.ntmps97
  go_wp2_with fail
  exact bodyPost_ret (results_cell_row Tryz.results97 _ _ _ _ _ _ _ rfl (heap_alloc_new _ _) Tryz.underlying127 rfl found_size) rfl ⟨by rw [FH.out];rfl,(Below.refl _ _).alloc (Nat.le_refl _) _⟩
 | false =>
  cases d60:(x15 / 1152921504606846976==0) with
  | true =>
   have FH:Hid (V=⟨va,0,false,0,0⟩):=by show V=_;rw [TOP.out,d3,d60];exact if_pos rfl
   go_enter Tryz.func97,Tryz.ntmps97
   go_wp2_with fail
   exact bodyPost_ret (results_cell_row Tryz.results97 _ _ _ _ _ _ _ rfl (heap_alloc_new _ _) Tryz.underlying127 rfl found_size) rfl ⟨by rw [FH.out];rfl,(Below.refl _ _).alloc (Nat.le_refl _) _⟩
  | false =>
   have TOP2:Hid (V=if (widen 39 va != va)=true then pageF kind else walkL zs n l p va kind 2 (IntKind.u64.wrap (bits .and .u64 x15 17592186044415*4096))):=by show V=_;rw [TOP.out,d3,d60];exact if_neg (by decide)
   clear TOP
   generalize widen 39 va=wv at *
   go_enter Tryz.func97,Tryz.ntmps97
   go_wp2_with fail
   have R1:Hid ((w.alloc (.cells #[.int .u64 0,.int .i64 0,.bool false,.int .u64 0,.int .u64 0] 127)).heap[w.heap.size]?=some (.cells zeroF 127 (0,0))):=heap_alloc_new _ _
   have B1:Hid (Below w.heap.size w (w.alloc (.cells #[.int .u64 0,.int .i64 0,.bool false,.int .u64 0,.int .u64 0] 127))):=(Below.refl _ _).alloc (Nat.le_refl _) _
   have G0:Hid (w.heap.size < (w.alloc (.cells #[.int .u64 0,.int .i64 0,.bool false,.int .u64 0,.int .u64 0] 127)).heap.size):=by show _ < _;simp
   have C0:=hle22 (.cells #[.int .u64 0,.int .i64 0,.bool false,.int .u64 0,.int .u64 0] 127)
   have C15:=hle15 (.cells #[.int .u64 0,.int .i64 0,.bool false,.int .u64 0,.int .u64 0] 127)
   clear hle22 hle15 c0 c15
   generalize w.alloc (.cells #[.int .u64 0,.int .i64 0,.bool false,.int .u64 0,.int .u64 0] 127)=w1 at *
   have G1:Hid (w.heap.size≤w.heap.size):=Nat.le_refl _
   obtain ⟨g0,hg0⟩:∃ g0,w.heap.size=g0:=⟨_,rfl⟩
   have RS1:Hid (Sl .u8 w1 ra zs):=HRS.out.below B1.out
   have SL1:Hid (Sl .u64 w1 (some ⟨b,off,none⟩) l):=HSL.out.below B1.out
   have HBL:Hid (b < w1.heap.size):=Nat.lt_of_lt_of_le HBL0.out B1.out.size
   clear HRS HSL
   rw [hg0] at R1 G0
   rw [hg0]
   have G1:Hid (w.heap.size≤g0):=by show _≤_;omega
   refine (HW39.out _).mono ?_
   rintro e6 wx ⟨rfl,hwx⟩
   have hwy:=hwx.symm
   subst hwy
   cases d39:(wv != va) with
   | true =>
    have F:V=pageF kind:=by rw [TOP2.out,d39];exact if_pos rfl
    have FH:Hid (V=pageF kind):=F
    clear F
    go_wp2_with fail
    refine (PG.out _).mono ?_
    rintro e5 w5 ⟨rfl,hb5⟩
    have R5:=(hb5.block g0 G0.out).trans R1.out
    go_wp2_with (refine wpList_store_rowTo rfl 127 (.tmp 10) (.tmp 40) rfl rfl g0 (pageF kind).cells rfl rfl 127 zeroF R5 (by rw [found_size];rfl) rfl (fd_one _) ?_)
    exact bodyPost_ret (results_cell_row Tryz.results97 _ _ _ _ _ _ _ rfl (setRow_heap _ _ _ _ _ _ R5) Tryz.underlying127 rfl (by rw [found_size];rfl)) rfl ⟨by rw [FH.out],below_setRow (below_trans B1.out hb5) G1.out _⟩
   | false =>
    have TOP3:Hid (walkL zs n l p va kind 2 (IntKind.u64.wrap (bits .and .u64 x15 17592186044415*4096))=V):=by show _=V;rw [TOP2.out,d39];rfl
    clear TOP2
    go_wp2_with fail
    go_loopw [11,12] (fun s t wr=>∃ (lv:Nat) (T:Int),lv≤2∧s=.int .u64 T∧t=.int .u64 lv∧Hid (0≤T∧T < 18446744073709551616)∧Hid (walkL zs n l p va kind lv T=V)∧wr=w1) (fun _ t _=>(intOf t).toNat)
    case atStart=>exact ⟨2,_,by omega,rfl,rfl,⟨(wrapU _).1,(wrapU _).2⟩,TOP3,rfl⟩
    case round =>
     obtain ⟨lv,T,hlv,rfl,rfl,hT,hf,hwr⟩:=hrel
     have hwr2:=hwr.symm
     subst hwr2
     have STEP0:=walkL_step zs n l p va kind lv T
     rw [hf.out] at STEP0
     obtain ⟨X,hX⟩:∃ X,pteAt T va lv=X:=⟨_,rfl⟩
     have hXu:0≤X∧X < 18446744073709551616:=by rw [← hX];exact wrapU _
     rw [hX] at STEP0
     obtain ⟨e,he⟩:∃ e,pteV zs X=e:=⟨_,rfl⟩
     obtain ⟨fr,hfr⟩:∃ fr,frameV e=fr:=⟨_,rfl⟩
     obtain ⟨pr,hpr0⟩:∃ pr,permRest l 1 X (lastOf X 8) 2 4 0=pr:=⟨_,rfl⟩
     rw [he,hfr,hpr0] at STEP0
     obtain ⟨n9,hn9⟩:∃ n9:Nat,9*lv=n9:=⟨_,rfl⟩
     obtain ⟨n12,hn12⟩:∃ n12:Nat,12+n9=n12:=⟨_,rfl⟩
     have f9:IntKind.u64.wrap (9*(lv:Int))=(n9:Int):=by rw [IntKind.wrap_u64];omega
     have f12:IntKind.u64.wrap (12+(n9:Int))=(n12:Int):=by rw [IntKind.wrap_u64];omega
     have g9:9*(lv:Int)=(n9:Int):=by omega
     have g12:12+(n9:Int)=(n12:Int):=by omega
     have hXv:IntKind.u64.wrap (T+IntKind.u64.wrap (8*bits .and .u64 (va / 2 ^ n12) 511))=X:=by rw [← hX,← hn12,← hn9];rfl
     have HIN:Hid (∀ w,Calls Tryz.prog 60 #[.slice ra n rcap,.int .u64 X,.int .i64 8] w fun e w'=>e=.returned (.bool (okB n X 8))∧w'=w):=fun w=>inside_any ra n rcap X 8 w HRAM.out rfl hXu.1 (by omega)
     have HPR:Hid (Calls Tryz.prog 58 #[.slice (some ⟨b,off,none⟩) 22 cap,.int .i64 1,.int .u64 X,.int .i64 8,.int .i64 2] w1 fun e w'=>e=.returned (.bool pr)∧w'=w1):=by
      have h:=l6Permits_any (some ⟨b,off,none⟩) cap l 1 X 8 2 w1 HLZ.out SL1.out
      rw [hpr0] at h
      exact h
     have HP3:Hid (∀ o,Calls Tryz.prog 58 #[.slice (some ⟨b,off,none⟩) 22 cap,.int .i64 1,.int .u64 X,.int .i64 8,.int .i64 3] (w1.alloc o) fun e w'=>e=.returned (.bool (permRest l 1 X (lastOf X 8) 3 4 0))∧w'=w1.alloc o):=fun o=>l6Permits_any (some ⟨b,off,none⟩) cap l 1 X 8 3 (w1.alloc o) HLZ.out (SL1.out.below ((Below.refl _ _).alloc (Nat.le_refl _) _))
     have HLD:Hid (okB n X 8=true→Calls Tryz.prog 61 #[.slice ra n rcap,.int .u64 X,.int .i64 8] w1 fun e' w'=>e'=.returned (.int .u64 e)∧w'=w1):=by
      intro hok
      obtain ⟨f,hfX⟩:∃ f:Nat,X=2147483648+(f:Int):=⟨(X - 2147483648).toNat,by have:=okB_at hok;omega⟩
      have hfn:=okB_at hok
      have hb65:=ramOkB_bd HRAM.out
      have h:=l1Load_any ra n rcap f 8 zs w1 HZ.out (by omega) RS1.out HW8.out (by omega) (by omega) (by omega)
      have e2:le zs f 8=e:=by rw [← he];unfold pteV;rw [hfX,show (2147483648+(f:Int) - 2147483648).toNat=f from by omega]
      rw [e2,← hfX] at h
      exact h
     have HB:∀ (i:Nat),i < 64→∀ w,Calls Tryz.prog 101 #[.int .u64 e,.int .u64 i] w fun e' w'=>e'=.returned (.int .u64 (bitAt e i))∧w'=w:=fun i hi w=>l5Bit_any e i hi w
     have HB1:Hid (∀ w,Calls Tryz.prog 101 #[.int .u64 e,.int .u64 1] w fun e' w'=>e'=.returned (.int .u64 (bitAt e 1))∧w'=w):=HB 1 (by omega)
     have HB2:Hid (∀ w,Calls Tryz.prog 101 #[.int .u64 e,.int .u64 2] w fun e' w'=>e'=.returned (.int .u64 (bitAt e 2))∧w'=w):=HB 2 (by omega)
     have HB3:Hid (∀ w,Calls Tryz.prog 101 #[.int .u64 e,.int .u64 3] w fun e' w'=>e'=.returned (.int .u64 (bitAt e 3))∧w'=w):=HB 3 (by omega)
     have HB4:Hid (∀ w,Calls Tryz.prog 101 #[.int .u64 e,.int .u64 4] w fun e' w'=>e'=.returned (.int .u64 (bitAt e 4))∧w'=w):=HB 4 (by omega)
     have HB19:Hid (∀ w,Calls Tryz.prog 101 #[.int .u64 x0,.int .u64 19] w fun e' w'=>e'=.returned (.int .u64 (bitAt x0 19))∧w'=w):=fun w=>l5Bit_any x0 19 (by omega) w
     have HB18:Hid (∀ w,Calls Tryz.prog 101 #[.int .u64 x0,.int .u64 18] w fun e' w'=>e'=.returned (.int .u64 (bitAt x0 18))∧w'=w):=fun w=>l5Bit_any x0 18 (by omega) w
     have STEP:Hid (V=(if okB n X 8=true then (if pr=true then (if ((bits .and .u64 e 1==0)||((bitAt e 1==0)&&(bitAt e 2==1))||(e / 18014398509481984 != 0))=true then pageF kind else if ((bitAt e 1==0)&&(bitAt e 3==0))=true then (if (((lv:Int)==0)||(bits .and .u64 (e / 16) 1==1)||(bits .and .u64 (e / 64) 3 != 0))=true then pageF kind else walkL zs n l p va kind (lv - 1) (IntKind.u64.wrap (fr*4096))) else leafV l p va kind e X lv) else faultF kind) else faultF kind)):=STEP0
     have hfrv:bits .and .u64 (e / 1024) 17592186044415=fr:=hfr
     obtain ⟨lo,hlo⟩:∃ lo,lowM n9=lo:=⟨_,rfl⟩
     obtain ⟨sz,hsz⟩:∃ sz,lowM n12=sz:=⟨_,rfl⟩
     have hlov:IntKind.u64.wrap (IntKind.u64.wrap (2 ^ n9) - 1)=lo:=hlo
     have hszv:IntKind.u64.wrap (IntKind.u64.wrap (2 ^ n12) - 1)=sz:=hsz
     obtain ⟨ld,hld⟩:∃ ld,bits .or .u64 (bits .andNot .u64 (IntKind.u64.wrap (fr*4096)) sz) (bits .and .u64 va sz)=ld:=⟨_,rfl⟩
     have hldv:leadV e va lv=ld:=by unfold leadV;rw [hfr,hn9,hn12,hsz];exact hld
     have LEAF0:Hid (leafV l p va kind e X lv=if (bits .and .u64 fr lo != 0)=true then pageF kind else if (((kind==1)&&(bitAt e 3==0))||((kind==2)&&(bitAt e 1==0)&&((bitAt e 3==0)||(bitAt x0 19==0)))||((kind==3)&&(bitAt e 2==0)))=true then pageF kind else if (((p==0)&&(bitAt e 4==0))||((p==1)&&(bitAt e 4==1)&&((kind==1)||(bitAt x0 18==0))))=true then pageF kind else if ((if (kind==3)=true then bits .or .u64 (bits .or .u64 e 64) 128 else bits .or .u64 e 64) != e)=true then (if permRest l 1 X (lastOf X 8) 3 4 0=true then ⟨ld,0,true,X,if (kind==3)=true then bits .or .u64 (bits .or .u64 e 64) 128 else bits .or .u64 e 64⟩ else faultF kind) else ⟨ld,0,false,0,0⟩):=by
      show _=_
      unfold leafV offB noKind noPriv wantV
      rw [hfr,hn9,hlo,hldv,HX0.out]
     have HWW:Hid (bitAt e 2=0∨bitAt e 2=1):=bit_two e 2
     have R1A:Hid (∀ o,(w1.alloc o).heap[g0]?=some (.cells zeroF 127 (0,0))):=fun o=>(Below.heap_alloc _ _ _ G0.out).trans R1.out
     have B1A:Hid (∀ o,Below w.heap.size w (w1.alloc o)):=fun o=>B1.out.alloc B1.out.size _
     have G0A:Hid (∀ o,g0 < (w1.alloc o).heap.size):=fun o=>by have:=G0.out;simp;omega
     have C0A:∀ o,(w1.alloc o).cell? ⟨b,off,none⟩=some (.int .u64 x0):=fun o=>(((Below.refl _ _).alloc (Nat.le_refl _) o).cell (by exact HBL.out)).trans C0
     clear STEP0 HB hX he hlo hsz hldv hfr hn9 hn12 hpr0
     generalize bitAt e 1=r at *
     generalize bitAt e 2=ww at *
     generalize bitAt e 3=x at *
     generalize bitAt e 4=u at *
     generalize bitAt x0 19=m19 at *
     generalize bitAt x0 18=m18 at *
     generalize permRest l 1 X (lastOf X 8) 3 4 0=pr3 at *
     generalize okB n X 8=ok at *
     go_wp2_with fail
     refine (HIN.out _).mono ?_
     rintro e6 wx ⟨rfl,hwx⟩
     have hwy:=hwx.symm
     subst hwy
     cases hok:ok with
     | true =>
      have hld:=HLD.out hok
      have HLD2:Hid (Calls Tryz.prog 61 #[.slice ra n rcap,.int .u64 X,.int .i64 8] w1 fun e' w'=>e'=.returned (.int .u64 e)∧w'=w1):=hld
      clear hld HLD
      go_wp2_with fail
      refine HPR.out.mono ?_
      rintro e6 wx ⟨rfl,hwx⟩
      have hwy:=hwx.symm
      subst hwy
      cases hpr:pr with
      | true =>
       go_wp2_with fail
       refine HLD2.out.mono ?_
       rintro e6 wx ⟨rfl,hwx⟩
       have hwy:=hwx.symm
       subst hwy
       go_wp2_with fail
       refine (HB1.out _).mono ?_
       rintro e6 wx ⟨rfl,hwx⟩
       have hwy:=hwx.symm
       subst hwy
       go_wp2_with fail
       refine (HB2.out _).mono ?_
       rintro e6 wx ⟨rfl,hwx⟩
       have hwy:=hwx.symm
       subst hwy
       go_wp2_with fail
       refine (HB3.out _).mono ?_
       rintro e6 wx ⟨rfl,hwx⟩
       have hwy:=hwx.symm
       subst hwy
       cases hA:(bits .and .u64 e 1==0) with
       | true =>
        have F:V=pageF kind:=by rw [STEP.out,hok,hpr,hA];rfl
        have FH:Hid (V=pageF kind):=F
        clear F
        go_wp2_with fail
        refine (PG.out _).mono ?_
        rintro e5 w5 ⟨rfl,hb5⟩
        have R5:=(hb5.block g0 G0.out).trans R1.out
        go_wp2_with (refine wpList_store_rowTo rfl 127 (.tmp 10) (.tmp 95) rfl rfl g0 (pageF kind).cells rfl rfl 127 zeroF R5 (by rw [found_size];rfl) rfl (fd_one _) ?_)
        exact bodyPost_ret (results_cell_row Tryz.results97 _ _ _ _ _ _ _ rfl (setRow_heap _ _ _ _ _ _ R5) Tryz.underlying127 rfl (by rw [found_size];rfl)) rfl ⟨by rw [FH.out],below_setRow (below_trans B1.out hb5) G1.out _⟩
       | false =>
        cases hR:(r==0) with
        | true =>
         cases hW:(ww==1) with
         | true =>
          have F:V=pageF kind:=by rw [STEP.out,hok,hpr,hA,hR,hW];rfl
          have FH:Hid (V=pageF kind):=F
          clear F
          go_wp2_with fail
          refine (PG.out _).mono ?_
          rintro e5 w5 ⟨rfl,hb5⟩
          have R5:=(hb5.block g0 G0.out).trans R1.out
          go_wp2_with (refine wpList_store_rowTo rfl 127 (.tmp 10) (.tmp 95) rfl rfl g0 (pageF kind).cells rfl rfl 127 zeroF R5 (by rw [found_size];rfl) rfl (fd_one _) ?_)
          exact bodyPost_ret (results_cell_row Tryz.results97 _ _ _ _ _ _ _ rfl (setRow_heap _ _ _ _ _ _ R5) Tryz.underlying127 rfl (by rw [found_size];rfl)) rfl ⟨by rw [FH.out],below_setRow (below_trans B1.out hb5) G1.out _⟩
         | false =>
          cases hC:(e / 18014398509481984 != 0) with
          | true =>
           have F:V=pageF kind:=by rw [STEP.out,hok,hpr,hA,hR,hW,hC];rfl
           have FH:Hid (V=pageF kind):=F
           clear F
           go_wp2_with fail
           refine (PG.out _).mono ?_
           rintro e5 w5 ⟨rfl,hb5⟩
           have R5:=(hb5.block g0 G0.out).trans R1.out
           go_wp2_with (refine wpList_store_rowTo rfl 127 (.tmp 10) (.tmp 95) rfl rfl g0 (pageF kind).cells rfl rfl 127 zeroF R5 (by rw [found_size];rfl) rfl (fd_one _) ?_)
           exact bodyPost_ret (results_cell_row Tryz.results97 _ _ _ _ _ _ _ rfl (setRow_heap _ _ _ _ _ _ R5) Tryz.underlying127 rfl (by rw [found_size];rfl)) rfl ⟨by rw [FH.out],below_setRow (below_trans B1.out hb5) G1.out _⟩
          | false =>
           cases hX3:(x==0) with
           | true =>
            cases hL:((lv:Int)==0) with
            | true =>
             have F:V=pageF kind:=by rw [STEP.out,hok,hpr,hA,hR,hW,hC,hX3,hL];rfl
             have FH:Hid (V=pageF kind):=F
             clear F
             go_wp2_with fail
             refine (PG.out _).mono ?_
             rintro e5 w5 ⟨rfl,hb5⟩
             have R5:=(hb5.block g0 G0.out).trans R1.out
             go_wp2_with (refine wpList_store_rowTo rfl 127 (.tmp 10) (.tmp 120) rfl rfl g0 (pageF kind).cells rfl rfl 127 zeroF R5 (by rw [found_size];rfl) rfl (fd_one _) ?_)
             exact bodyPost_ret (results_cell_row Tryz.results97 _ _ _ _ _ _ _ rfl (setRow_heap _ _ _ _ _ _ R5) Tryz.underlying127 rfl (by rw [found_size];rfl)) rfl ⟨by rw [FH.out],below_setRow (below_trans B1.out hb5) G1.out _⟩
            | false =>
             cases h4:(bits .and .u64 (e / 16) 1==1) with
             | true =>
              have F:V=pageF kind:=by rw [STEP.out,hok,hpr,hA,hR,hW,hC,hX3,hL,h4];rfl
              have FH:Hid (V=pageF kind):=F
              clear F
              go_wp2_with fail
              refine (PG.out _).mono ?_
              rintro e5 w5 ⟨rfl,hb5⟩
              have R5:=(hb5.block g0 G0.out).trans R1.out
              go_wp2_with (refine wpList_store_rowTo rfl 127 (.tmp 10) (.tmp 120) rfl rfl g0 (pageF kind).cells rfl rfl 127 zeroF R5 (by rw [found_size];rfl) rfl (fd_one _) ?_)
              exact bodyPost_ret (results_cell_row Tryz.results97 _ _ _ _ _ _ _ rfl (setRow_heap _ _ _ _ _ _ R5) Tryz.underlying127 rfl (by rw [found_size];rfl)) rfl ⟨by rw [FH.out],below_setRow (below_trans B1.out hb5) G1.out _⟩
             | false =>
              cases h6:(bits .and .u64 (e / 64) 3 != 0) with
              | true =>
               have F:V=pageF kind:=by rw [STEP.out,hok,hpr,hA,hR,hW,hC,hX3,hL,h4,h6];rfl
               have FH:Hid (V=pageF kind):=F
               clear F
               go_wp2_with fail
               refine (PG.out _).mono ?_
               rintro e5 w5 ⟨rfl,hb5⟩
               have R5:=(hb5.block g0 G0.out).trans R1.out
               go_wp2_with (refine wpList_store_rowTo rfl 127 (.tmp 10) (.tmp 120) rfl rfl g0 (pageF kind).cells rfl rfl 127 zeroF R5 (by rw [found_size];rfl) rfl (fd_one _) ?_)
               exact bodyPost_ret (results_cell_row Tryz.results97 _ _ _ _ _ _ _ rfl (setRow_heap _ _ _ _ _ _ R5) Tryz.underlying127 rfl (by rw [found_size];rfl)) rfl ⟨by rw [FH.out],below_setRow (below_trans B1.out hb5) G1.out _⟩
              | false =>
               have F:walkL zs n l p va kind (lv - 1) (IntKind.u64.wrap (fr*4096))=V:=by rw [STEP.out,hok,hpr,hA,hR,hW,hC,hX3,hL,h4,h6];rfl
               have FH:Hid (walkL zs n l p va kind (lv - 1) (IntKind.u64.wrap (fr*4096))=V):=F
               clear F
               have hl0:lv≠0:=by intro h;subst h;cases hL
               have hsub:IntKind.u64.wrap ((lv:Int) - 1)=((lv - 1:Nat):Int):=by rw [IntKind.wrap_u64];omega
               go_wp2_with fail
               refine ⟨?rel,?measure⟩
               case measure=>simp [intOf];omega
               case rel=>exact ⟨_,_,_,_,_,_,_,_,_,_,_,_,_,_,_,_,_,_,_,_,_,_,_,_,_,_,_,_,_,_,_,_,_,_,_,_,_,_,_,_,_,_,_,_,_,_,_,_,_,_,_,_,_,_,_,_,_,_,_,_,_,_,_,_,_,_,_,_,_,_,_,_,_,_,_,_,_,_,_,_,_,_,_,_,_,_,_,_,_,_,_,_,_,_,_,_,_,_,_,_,_,_,_,_,_,_,_,_,_,_,_,_,_,_,_,_,_,_,_,_,_,_,_,_,_,_,_,_,_,_,_,_,_,_,_,_,_,_,_,_,_,_,_,_,_,_,_,_,_,_,_,_,_,_,_,_,_,_,_,_,_,_,_,_,_,_,_,_,_,_,_,_,_,_,_,_,_,_,_,_,_,_,_,_,_,_,_,_,_,_,_,_,_,_,_,_,_,_,_,_,_,_,_,_,_,⟨lv - 1,IntKind.u64.wrap (fr*4096),by omega,rfl,rfl,wrapU _,FH,rfl⟩,rfl⟩
           | false =>
            have LEAF1:V=leafV l p va kind e X lv:=by rw [STEP.out,hok,hpr,hA,hR,hW,hC,hX3];rfl
            have LEAF:=hid_mk (LEAF1.trans LEAF0.out)
            clear LEAF0 LEAF1
            go_wp2_with fail
            refine (HB4.out _).mono ?_
            rintro e6 wx ⟨rfl,hwx⟩
            have hwy:=hwx.symm
            subst hwy
            cases hO:(bits .and .u64 fr lo != 0) with
            | true =>
             have F:V=pageF kind:=by rw [LEAF.out,hO];rfl
             have FH:Hid (V=pageF kind):=F
             clear F
             go_wp2_with fail
             refine (PG.out _).mono ?_
             rintro e5 w5 ⟨rfl,hb5⟩
             have R5:=(hb5.block g0 G0.out).trans R1.out
             go_wp2_with (refine wpList_store_rowTo rfl 127 (.tmp 10) (.tmp 135) rfl rfl g0 (pageF kind).cells rfl rfl 127 zeroF R5 (by rw [found_size];rfl) rfl (fd_one _) ?_)
             exact bodyPost_ret (results_cell_row Tryz.results97 _ _ _ _ _ _ _ rfl (setRow_heap _ _ _ _ _ _ R5) Tryz.underlying127 rfl (by rw [found_size];rfl)) rfl ⟨by rw [FH.out],below_setRow (below_trans B1.out hb5) G1.out _⟩
            | false =>
             obtain rfl:=HKK.out
             go_wp2_with fail
             refine (HB19.out _).mono ?_
             rintro e6 wx ⟨rfl,hwx⟩
             have hwy:=hwx.symm
             subst hwy
             cases h19:(m19==0) with
             | true =>
              have F:V=pageF 2:=by rw [LEAF.out,hO,hR,hX3,h19];rfl
              have FH:Hid (V=pageF 2):=F
              clear F
              go_wp2_with fail
              refine (PG.out _).mono ?_
              rintro e5 w5 ⟨rfl,hb5⟩
              have R5:=(hb5.block g0 G0.out).trans R1.out
              go_wp2_with (refine wpList_store_rowTo rfl 127 (.tmp 10) (.tmp 164) rfl rfl g0 (pageF 2).cells rfl rfl 127 zeroF R5 (by rw [found_size];rfl) rfl (fd_one _) ?_)
              exact bodyPost_ret (results_cell_row Tryz.results97 _ _ _ _ _ _ _ rfl (setRow_heap _ _ _ _ _ _ R5) Tryz.underlying127 rfl (by rw [found_size];rfl)) rfl ⟨by rw [FH.out],below_setRow (below_trans B1.out hb5) G1.out _⟩
             | false =>
              rcases HPV.out with rfl | rfl | rfl
              ·skip
               cases hU:(u==0) with
               | true =>
                have F:V=pageF 2:=by rw [LEAF.out,hO,hR,hX3,h19,hU];rfl
                have FH:Hid (V=pageF 2):=F
                clear F
                go_wp2_with fail
                refine (PG.out _).mono ?_
                rintro e5 w5 ⟨rfl,hb5⟩
                have R5:=(hb5.block g0 G0.out).trans R1.out
                go_wp2_with (refine wpList_store_rowTo rfl 127 (.tmp 10) (.tmp 182) rfl rfl g0 (pageF 2).cells rfl rfl 127 zeroF R5 (by rw [found_size];rfl) rfl (fd_one _) ?_)
                exact bodyPost_ret (results_cell_row Tryz.results97 _ _ _ _ _ _ _ rfl (setRow_heap _ _ _ _ _ _ R5) Tryz.underlying127 rfl (by rw [found_size];rfl)) rfl ⟨by rw [FH.out],below_setRow (below_trans B1.out hb5) G1.out _⟩
               | false =>
                cases hw:(bits .or .u64 e 64 != e) with
                | true =>
                 go_wp2_with fail
                 refine (HP3.out _).mono ?_
                 rintro e6 wx ⟨rfl,hwx⟩
                 have hwy:=hwx.symm
                 subst hwy
                 cases h3:pr3 with
                 | true =>
                  have FH:Hid (V=⟨ld,0,true,X,bits .or .u64 e 64⟩):=by show V=_;have hwK:((if ((2:Int)==3)=true then bits .or .u64 (bits .or .u64 e 64) 128 else bits .or .u64 e 64) != e)=true:=hw;rw [LEAF.out,hO,hR,hX3,h19,hU,hwK,h3];rfl
                  go_wp2_with (first | (refine wpList_store_rowTo rfl 127 (.tmp 10) (.tmp 237) rfl rfl g0 (Fd.cells ⟨ld,0,true,X,bits .or .u64 e 64⟩) rfl rfl 127 zeroF (R1A.out _) (by rw [found_size];rfl) rfl (fd_one _) ?_))
                  exact bodyPost_ret (results_cell_row Tryz.results97 _ _ _ _ _ _ _ rfl (setRow_heap _ _ _ _ _ _ (R1A.out _)) Tryz.underlying127 rfl (by rw [found_size];rfl)) rfl ⟨by rw [FH.out],below_setRow (B1A.out _) G1.out _⟩
                 | false =>
                  have FH:Hid (V=faultF 2):=by show V=_;have hwK:((if ((2:Int)==3)=true then bits .or .u64 (bits .or .u64 e 64) 128 else bits .or .u64 e 64) != e)=true:=hw;rw [LEAF.out,hO,hR,hX3,h19,hU,hwK,h3];rfl
                  go_wp2_with fail
                  refine (FT.out _).mono ?_
                  rintro e5 w5 ⟨rfl,hb5⟩
                  have R5:=(hb5.block g0 (G0A.out _)).trans (R1A.out _)
                  go_wp2_with (refine wpList_store_rowTo rfl 127 (.tmp 10) (.tmp 231) rfl rfl g0 (faultF 2).cells rfl rfl 127 zeroF R5 (by rw [found_size];rfl) rfl (fd_one _) ?_)
                  exact bodyPost_ret (results_cell_row Tryz.results97 _ _ _ _ _ _ _ rfl (setRow_heap _ _ _ _ _ _ R5) Tryz.underlying127 rfl (by rw [found_size];rfl)) rfl ⟨by rw [FH.out],below_setRow (below_trans (B1A.out _) hb5) G1.out _⟩
                | false =>
                 have FH:Hid (V=⟨ld,0,false,0,0⟩):=by show V=_;have hwK:((if ((2:Int)==3)=true then bits .or .u64 (bits .or .u64 e 64) 128 else bits .or .u64 e 64) != e)=false:=hw;rw [LEAF.out,hO,hR,hX3,h19,hU,hwK];rfl
                 go_wp2_with (first | (refine wpList_store_rowTo rfl 127 (.tmp 10) (.tmp 237) rfl rfl g0 (Fd.cells ⟨ld,0,false,0,0⟩) rfl rfl 127 zeroF (R1A.out _) (by rw [found_size];rfl) rfl (fd_one _) ?_))
                 exact bodyPost_ret (results_cell_row Tryz.results97 _ _ _ _ _ _ _ rfl (setRow_heap _ _ _ _ _ _ (R1A.out _)) Tryz.underlying127 rfl (by rw [found_size];rfl)) rfl ⟨by rw [FH.out],below_setRow (B1A.out _) G1.out _⟩
              ·skip
               cases hU:(u==1) with
               | true =>
                go_wp2_with fail
                refine (HB18.out _).mono ?_
                rintro e6 wx ⟨rfl,hwx⟩
                have hwy:=hwx.symm
                subst hwy
                cases h18:(m18==0) with
                | true =>
                 have F:V=pageF 2:=by rw [LEAF.out,hO,hR,hX3,h19,hU,h18];rfl
                 have FH:Hid (V=pageF 2):=F
                 clear F
                 go_wp2_with fail
                 refine (PG.out _).mono ?_
                 rintro e5 w5 ⟨rfl,hb5⟩
                 have R5:=(hb5.block g0 G0.out).trans R1.out
                 go_wp2_with (refine wpList_store_rowTo rfl 127 (.tmp 10) (.tmp 202) rfl rfl g0 (pageF 2).cells rfl rfl 127 zeroF R5 (by rw [found_size];rfl) rfl (fd_one _) ?_)
                 exact bodyPost_ret (results_cell_row Tryz.results97 _ _ _ _ _ _ _ rfl (setRow_heap _ _ _ _ _ _ R5) Tryz.underlying127 rfl (by rw [found_size];rfl)) rfl ⟨by rw [FH.out],below_setRow (below_trans B1.out hb5) G1.out _⟩
                | false =>
                 cases hw:(bits .or .u64 e 64 != e) with
                 | true =>
                  go_wp2_with fail
                  refine (HP3.out _).mono ?_
                  rintro e6 wx ⟨rfl,hwx⟩
                  have hwy:=hwx.symm
                  subst hwy
                  cases h3:pr3 with
                  | true =>
                   have FH:Hid (V=⟨ld,0,true,X,bits .or .u64 e 64⟩):=by show V=_;have hwK:((if ((2:Int)==3)=true then bits .or .u64 (bits .or .u64 e 64) 128 else bits .or .u64 e 64) != e)=true:=hw;rw [LEAF.out,hO,hR,hX3,h19,hU,h18,hwK,h3];rfl
                   go_wp2_with (first | (refine wpList_store_rowTo rfl 127 (.tmp 10) (.tmp 237) rfl rfl g0 (Fd.cells ⟨ld,0,true,X,bits .or .u64 e 64⟩) rfl rfl 127 zeroF (R1A.out _) (by rw [found_size];rfl) rfl (fd_one _) ?_))
                   exact bodyPost_ret (results_cell_row Tryz.results97 _ _ _ _ _ _ _ rfl (setRow_heap _ _ _ _ _ _ (R1A.out _)) Tryz.underlying127 rfl (by rw [found_size];rfl)) rfl ⟨by rw [FH.out],below_setRow (B1A.out _) G1.out _⟩
                  | false =>
                   have FH:Hid (V=faultF 2):=by show V=_;have hwK:((if ((2:Int)==3)=true then bits .or .u64 (bits .or .u64 e 64) 128 else bits .or .u64 e 64) != e)=true:=hw;rw [LEAF.out,hO,hR,hX3,h19,hU,h18,hwK,h3];rfl
                   go_wp2_with fail
                   refine (FT.out _).mono ?_
                   rintro e5 w5 ⟨rfl,hb5⟩
                   have R5:=(hb5.block g0 (G0A.out _)).trans (R1A.out _)
                   go_wp2_with (refine wpList_store_rowTo rfl 127 (.tmp 10) (.tmp 231) rfl rfl g0 (faultF 2).cells rfl rfl 127 zeroF R5 (by rw [found_size];rfl) rfl (fd_one _) ?_)
                   exact bodyPost_ret (results_cell_row Tryz.results97 _ _ _ _ _ _ _ rfl (setRow_heap _ _ _ _ _ _ R5) Tryz.underlying127 rfl (by rw [found_size];rfl)) rfl ⟨by rw [FH.out],below_setRow (below_trans (B1A.out _) hb5) G1.out _⟩
                 | false =>
                  have FH:Hid (V=⟨ld,0,false,0,0⟩):=by show V=_;have hwK:((if ((2:Int)==3)=true then bits .or .u64 (bits .or .u64 e 64) 128 else bits .or .u64 e 64) != e)=false:=hw;rw [LEAF.out,hO,hR,hX3,h19,hU,h18,hwK];rfl
                  go_wp2_with (first | (refine wpList_store_rowTo rfl 127 (.tmp 10) (.tmp 237) rfl rfl g0 (Fd.cells ⟨ld,0,false,0,0⟩) rfl rfl 127 zeroF (R1A.out _) (by rw [found_size];rfl) rfl (fd_one _) ?_))
                  exact bodyPost_ret (results_cell_row Tryz.results97 _ _ _ _ _ _ _ rfl (setRow_heap _ _ _ _ _ _ (R1A.out _)) Tryz.underlying127 rfl (by rw [found_size];rfl)) rfl ⟨by rw [FH.out],below_setRow (B1A.out _) G1.out _⟩
               | false =>
                cases hw:(bits .or .u64 e 64 != e) with
                | true =>
                 go_wp2_with fail
                 refine (HP3.out _).mono ?_
                 rintro e6 wx ⟨rfl,hwx⟩
                 have hwy:=hwx.symm
                 subst hwy
                 cases h3:pr3 with
                 | true =>
                  have FH:Hid (V=⟨ld,0,true,X,bits .or .u64 e 64⟩):=by show V=_;have hwK:((if ((2:Int)==3)=true then bits .or .u64 (bits .or .u64 e 64) 128 else bits .or .u64 e 64) != e)=true:=hw;rw [LEAF.out,hO,hR,hX3,h19,hU,hwK,h3];rfl
                  go_wp2_with (first | (refine wpList_store_rowTo rfl 127 (.tmp 10) (.tmp 237) rfl rfl g0 (Fd.cells ⟨ld,0,true,X,bits .or .u64 e 64⟩) rfl rfl 127 zeroF (R1A.out _) (by rw [found_size];rfl) rfl (fd_one _) ?_))
                  exact bodyPost_ret (results_cell_row Tryz.results97 _ _ _ _ _ _ _ rfl (setRow_heap _ _ _ _ _ _ (R1A.out _)) Tryz.underlying127 rfl (by rw [found_size];rfl)) rfl ⟨by rw [FH.out],below_setRow (B1A.out _) G1.out _⟩
                 | false =>
                  have FH:Hid (V=faultF 2):=by show V=_;have hwK:((if ((2:Int)==3)=true then bits .or .u64 (bits .or .u64 e 64) 128 else bits .or .u64 e 64) != e)=true:=hw;rw [LEAF.out,hO,hR,hX3,h19,hU,hwK,h3];rfl
                  go_wp2_with fail
                  refine (FT.out _).mono ?_
                  rintro e5 w5 ⟨rfl,hb5⟩
                  have R5:=(hb5.block g0 (G0A.out _)).trans (R1A.out _)
                  go_wp2_with (refine wpList_store_rowTo rfl 127 (.tmp 10) (.tmp 231) rfl rfl g0 (faultF 2).cells rfl rfl 127 zeroF R5 (by rw [found_size];rfl) rfl (fd_one _) ?_)
                  exact bodyPost_ret (results_cell_row Tryz.results97 _ _ _ _ _ _ _ rfl (setRow_heap _ _ _ _ _ _ R5) Tryz.underlying127 rfl (by rw [found_size];rfl)) rfl ⟨by rw [FH.out],below_setRow (below_trans (B1A.out _) hb5) G1.out _⟩
                | false =>
                 have FH:Hid (V=⟨ld,0,false,0,0⟩):=by show V=_;have hwK:((if ((2:Int)==3)=true then bits .or .u64 (bits .or .u64 e 64) 128 else bits .or .u64 e 64) != e)=false:=hw;rw [LEAF.out,hO,hR,hX3,h19,hU,hwK];rfl
                 go_wp2_with (first | (refine wpList_store_rowTo rfl 127 (.tmp 10) (.tmp 237) rfl rfl g0 (Fd.cells ⟨ld,0,false,0,0⟩) rfl rfl 127 zeroF (R1A.out _) (by rw [found_size];rfl) rfl (fd_one _) ?_))
                 exact bodyPost_ret (results_cell_row Tryz.results97 _ _ _ _ _ _ _ rfl (setRow_heap _ _ _ _ _ _ (R1A.out _)) Tryz.underlying127 rfl (by rw [found_size];rfl)) rfl ⟨by rw [FH.out],below_setRow (B1A.out _) G1.out _⟩
              ·cases d3
        | false =>
         cases hC:(e / 18014398509481984 != 0) with
         | true =>
          have F:V=pageF kind:=by rw [STEP.out,hok,hpr,hA,hR,hC];rfl
          have FH:Hid (V=pageF kind):=F
          clear F
          go_wp2_with fail
          refine (PG.out _).mono ?_
          rintro e5 w5 ⟨rfl,hb5⟩
          have R5:=(hb5.block g0 G0.out).trans R1.out
          go_wp2_with (refine wpList_store_rowTo rfl 127 (.tmp 10) (.tmp 95) rfl rfl g0 (pageF kind).cells rfl rfl 127 zeroF R5 (by rw [found_size];rfl) rfl (fd_one _) ?_)
          exact bodyPost_ret (results_cell_row Tryz.results97 _ _ _ _ _ _ _ rfl (setRow_heap _ _ _ _ _ _ R5) Tryz.underlying127 rfl (by rw [found_size];rfl)) rfl ⟨by rw [FH.out],below_setRow (below_trans B1.out hb5) G1.out _⟩
         | false =>
          have LEAF1:V=leafV l p va kind e X lv:=by rw [STEP.out,hok,hpr,hA,hR,hC];rfl
          have LEAF:=hid_mk (LEAF1.trans LEAF0.out)
          clear LEAF0 LEAF1
          go_wp2_with fail
          refine (HB4.out _).mono ?_
          rintro e6 wx ⟨rfl,hwx⟩
          have hwy:=hwx.symm
          subst hwy
          cases hO:(bits .and .u64 fr lo != 0) with
          | true =>
           have F:V=pageF kind:=by rw [LEAF.out,hO];rfl
           have FH:Hid (V=pageF kind):=F
           clear F
           go_wp2_with fail
           refine (PG.out _).mono ?_
           rintro e5 w5 ⟨rfl,hb5⟩
           have R5:=(hb5.block g0 G0.out).trans R1.out
           go_wp2_with (refine wpList_store_rowTo rfl 127 (.tmp 10) (.tmp 135) rfl rfl g0 (pageF kind).cells rfl rfl 127 zeroF R5 (by rw [found_size];rfl) rfl (fd_one _) ?_)
           exact bodyPost_ret (results_cell_row Tryz.results97 _ _ _ _ _ _ _ rfl (setRow_heap _ _ _ _ _ _ R5) Tryz.underlying127 rfl (by rw [found_size];rfl)) rfl ⟨by rw [FH.out],below_setRow (below_trans B1.out hb5) G1.out _⟩
          | false =>
           obtain rfl:=HKK.out
           rcases HPV.out with rfl | rfl | rfl
           ·skip
            cases hU:(u==0) with
            | true =>
             have F:V=pageF 2:=by rw [LEAF.out,hO,hR,hU];rfl
             have FH:Hid (V=pageF 2):=F
             clear F
             go_wp2_with fail
             refine (PG.out _).mono ?_
             rintro e5 w5 ⟨rfl,hb5⟩
             have R5:=(hb5.block g0 G0.out).trans R1.out
             go_wp2_with (refine wpList_store_rowTo rfl 127 (.tmp 10) (.tmp 182) rfl rfl g0 (pageF 2).cells rfl rfl 127 zeroF R5 (by rw [found_size];rfl) rfl (fd_one _) ?_)
             exact bodyPost_ret (results_cell_row Tryz.results97 _ _ _ _ _ _ _ rfl (setRow_heap _ _ _ _ _ _ R5) Tryz.underlying127 rfl (by rw [found_size];rfl)) rfl ⟨by rw [FH.out],below_setRow (below_trans B1.out hb5) G1.out _⟩
            | false =>
             cases hw:(bits .or .u64 e 64 != e) with
             | true =>
              go_wp2_with fail
              refine (HP3.out _).mono ?_
              rintro e6 wx ⟨rfl,hwx⟩
              have hwy:=hwx.symm
              subst hwy
              cases h3:pr3 with
              | true =>
               have FH:Hid (V=⟨ld,0,true,X,bits .or .u64 e 64⟩):=by show V=_;have hwK:((if ((2:Int)==3)=true then bits .or .u64 (bits .or .u64 e 64) 128 else bits .or .u64 e 64) != e)=true:=hw;rw [LEAF.out,hO,hR,hU,hwK,h3];rfl
               go_wp2_with (first | (refine wpList_store_rowTo rfl 127 (.tmp 10) (.tmp 237) rfl rfl g0 (Fd.cells ⟨ld,0,true,X,bits .or .u64 e 64⟩) rfl rfl 127 zeroF (R1A.out _) (by rw [found_size];rfl) rfl (fd_one _) ?_))
               exact bodyPost_ret (results_cell_row Tryz.results97 _ _ _ _ _ _ _ rfl (setRow_heap _ _ _ _ _ _ (R1A.out _)) Tryz.underlying127 rfl (by rw [found_size];rfl)) rfl ⟨by rw [FH.out],below_setRow (B1A.out _) G1.out _⟩
              | false =>
               have FH:Hid (V=faultF 2):=by show V=_;have hwK:((if ((2:Int)==3)=true then bits .or .u64 (bits .or .u64 e 64) 128 else bits .or .u64 e 64) != e)=true:=hw;rw [LEAF.out,hO,hR,hU,hwK,h3];rfl
               go_wp2_with fail
               refine (FT.out _).mono ?_
               rintro e5 w5 ⟨rfl,hb5⟩
               have R5:=(hb5.block g0 (G0A.out _)).trans (R1A.out _)
               go_wp2_with (refine wpList_store_rowTo rfl 127 (.tmp 10) (.tmp 231) rfl rfl g0 (faultF 2).cells rfl rfl 127 zeroF R5 (by rw [found_size];rfl) rfl (fd_one _) ?_)
               exact bodyPost_ret (results_cell_row Tryz.results97 _ _ _ _ _ _ _ rfl (setRow_heap _ _ _ _ _ _ R5) Tryz.underlying127 rfl (by rw [found_size];rfl)) rfl ⟨by rw [FH.out],below_setRow (below_trans (B1A.out _) hb5) G1.out _⟩
             | false =>
              have FH:Hid (V=⟨ld,0,false,0,0⟩):=by show V=_;have hwK:((if ((2:Int)==3)=true then bits .or .u64 (bits .or .u64 e 64) 128 else bits .or .u64 e 64) != e)=false:=hw;rw [LEAF.out,hO,hR,hU,hwK];rfl
              go_wp2_with (first | (refine wpList_store_rowTo rfl 127 (.tmp 10) (.tmp 237) rfl rfl g0 (Fd.cells ⟨ld,0,false,0,0⟩) rfl rfl 127 zeroF (R1A.out _) (by rw [found_size];rfl) rfl (fd_one _) ?_))
              exact bodyPost_ret (results_cell_row Tryz.results97 _ _ _ _ _ _ _ rfl (setRow_heap _ _ _ _ _ _ (R1A.out _)) Tryz.underlying127 rfl (by rw [found_size];rfl)) rfl ⟨by rw [FH.out],below_setRow (B1A.out _) G1.out _⟩
           ·skip
            cases hU:(u==1) with
            | true =>
             go_wp2_with fail
             refine (HB18.out _).mono ?_
             rintro e6 wx ⟨rfl,hwx⟩
             have hwy:=hwx.symm
             subst hwy
             cases h18:(m18==0) with
             | true =>
              have F:V=pageF 2:=by rw [LEAF.out,hO,hR,hU,h18];rfl
              have FH:Hid (V=pageF 2):=F
              clear F
              go_wp2_with fail
              refine (PG.out _).mono ?_
              rintro e5 w5 ⟨rfl,hb5⟩
              have R5:=(hb5.block g0 G0.out).trans R1.out
              go_wp2_with (refine wpList_store_rowTo rfl 127 (.tmp 10) (.tmp 202) rfl rfl g0 (pageF 2).cells rfl rfl 127 zeroF R5 (by rw [found_size];rfl) rfl (fd_one _) ?_)
              exact bodyPost_ret (results_cell_row Tryz.results97 _ _ _ _ _ _ _ rfl (setRow_heap _ _ _ _ _ _ R5) Tryz.underlying127 rfl (by rw [found_size];rfl)) rfl ⟨by rw [FH.out],below_setRow (below_trans B1.out hb5) G1.out _⟩
             | false =>
              cases hw:(bits .or .u64 e 64 != e) with
              | true =>
               go_wp2_with fail
               refine (HP3.out _).mono ?_
               rintro e6 wx ⟨rfl,hwx⟩
               have hwy:=hwx.symm
               subst hwy
               cases h3:pr3 with
               | true =>
                have FH:Hid (V=⟨ld,0,true,X,bits .or .u64 e 64⟩):=by show V=_;have hwK:((if ((2:Int)==3)=true then bits .or .u64 (bits .or .u64 e 64) 128 else bits .or .u64 e 64) != e)=true:=hw;rw [LEAF.out,hO,hR,hU,h18,hwK,h3];rfl
                go_wp2_with (first | (refine wpList_store_rowTo rfl 127 (.tmp 10) (.tmp 237) rfl rfl g0 (Fd.cells ⟨ld,0,true,X,bits .or .u64 e 64⟩) rfl rfl 127 zeroF (R1A.out _) (by rw [found_size];rfl) rfl (fd_one _) ?_))
                exact bodyPost_ret (results_cell_row Tryz.results97 _ _ _ _ _ _ _ rfl (setRow_heap _ _ _ _ _ _ (R1A.out _)) Tryz.underlying127 rfl (by rw [found_size];rfl)) rfl ⟨by rw [FH.out],below_setRow (B1A.out _) G1.out _⟩
               | false =>
                have FH:Hid (V=faultF 2):=by show V=_;have hwK:((if ((2:Int)==3)=true then bits .or .u64 (bits .or .u64 e 64) 128 else bits .or .u64 e 64) != e)=true:=hw;rw [LEAF.out,hO,hR,hU,h18,hwK,h3];rfl
                go_wp2_with fail
                refine (FT.out _).mono ?_
                rintro e5 w5 ⟨rfl,hb5⟩
                have R5:=(hb5.block g0 (G0A.out _)).trans (R1A.out _)
                go_wp2_with (refine wpList_store_rowTo rfl 127 (.tmp 10) (.tmp 231) rfl rfl g0 (faultF 2).cells rfl rfl 127 zeroF R5 (by rw [found_size];rfl) rfl (fd_one _) ?_)
                exact bodyPost_ret (results_cell_row Tryz.results97 _ _ _ _ _ _ _ rfl (setRow_heap _ _ _ _ _ _ R5) Tryz.underlying127 rfl (by rw [found_size];rfl)) rfl ⟨by rw [FH.out],below_setRow (below_trans (B1A.out _) hb5) G1.out _⟩
              | false =>
               have FH:Hid (V=⟨ld,0,false,0,0⟩):=by show V=_;have hwK:((if ((2:Int)==3)=true then bits .or .u64 (bits .or .u64 e 64) 128 else bits .or .u64 e 64) != e)=false:=hw;rw [LEAF.out,hO,hR,hU,h18,hwK];rfl
               go_wp2_with (first | (refine wpList_store_rowTo rfl 127 (.tmp 10) (.tmp 237) rfl rfl g0 (Fd.cells ⟨ld,0,false,0,0⟩) rfl rfl 127 zeroF (R1A.out _) (by rw [found_size];rfl) rfl (fd_one _) ?_))
               exact bodyPost_ret (results_cell_row Tryz.results97 _ _ _ _ _ _ _ rfl (setRow_heap _ _ _ _ _ _ (R1A.out _)) Tryz.underlying127 rfl (by rw [found_size];rfl)) rfl ⟨by rw [FH.out],below_setRow (B1A.out _) G1.out _⟩
            | false =>
             cases hw:(bits .or .u64 e 64 != e) with
             | true =>
              go_wp2_with fail
              refine (HP3.out _).mono ?_
              rintro e6 wx ⟨rfl,hwx⟩
              have hwy:=hwx.symm
              subst hwy
              cases h3:pr3 with
              | true =>
               have FH:Hid (V=⟨ld,0,true,X,bits .or .u64 e 64⟩):=by show V=_;have hwK:((if ((2:Int)==3)=true then bits .or .u64 (bits .or .u64 e 64) 128 else bits .or .u64 e 64) != e)=true:=hw;rw [LEAF.out,hO,hR,hU,hwK,h3];rfl
               go_wp2_with (first | (refine wpList_store_rowTo rfl 127 (.tmp 10) (.tmp 237) rfl rfl g0 (Fd.cells ⟨ld,0,true,X,bits .or .u64 e 64⟩) rfl rfl 127 zeroF (R1A.out _) (by rw [found_size];rfl) rfl (fd_one _) ?_))
               exact bodyPost_ret (results_cell_row Tryz.results97 _ _ _ _ _ _ _ rfl (setRow_heap _ _ _ _ _ _ (R1A.out _)) Tryz.underlying127 rfl (by rw [found_size];rfl)) rfl ⟨by rw [FH.out],below_setRow (B1A.out _) G1.out _⟩
              | false =>
               have FH:Hid (V=faultF 2):=by show V=_;have hwK:((if ((2:Int)==3)=true then bits .or .u64 (bits .or .u64 e 64) 128 else bits .or .u64 e 64) != e)=true:=hw;rw [LEAF.out,hO,hR,hU,hwK,h3];rfl
               go_wp2_with fail
               refine (FT.out _).mono ?_
               rintro e5 w5 ⟨rfl,hb5⟩
               have R5:=(hb5.block g0 (G0A.out _)).trans (R1A.out _)
               go_wp2_with (refine wpList_store_rowTo rfl 127 (.tmp 10) (.tmp 231) rfl rfl g0 (faultF 2).cells rfl rfl 127 zeroF R5 (by rw [found_size];rfl) rfl (fd_one _) ?_)
               exact bodyPost_ret (results_cell_row Tryz.results97 _ _ _ _ _ _ _ rfl (setRow_heap _ _ _ _ _ _ R5) Tryz.underlying127 rfl (by rw [found_size];rfl)) rfl ⟨by rw [FH.out],below_setRow (below_trans (B1A.out _) hb5) G1.out _⟩
             | false =>
              have FH:Hid (V=⟨ld,0,false,0,0⟩):=by show V=_;have hwK:((if ((2:Int)==3)=true then bits .or .u64 (bits .or .u64 e 64) 128 else bits .or .u64 e 64) != e)=false:=hw;rw [LEAF.out,hO,hR,hU,hwK];rfl
              go_wp2_with (first | (refine wpList_store_rowTo rfl 127 (.tmp 10) (.tmp 237) rfl rfl g0 (Fd.cells ⟨ld,0,false,0,0⟩) rfl rfl 127 zeroF (R1A.out _) (by rw [found_size];rfl) rfl (fd_one _) ?_))
              exact bodyPost_ret (results_cell_row Tryz.results97 _ _ _ _ _ _ _ rfl (setRow_heap _ _ _ _ _ _ (R1A.out _)) Tryz.underlying127 rfl (by rw [found_size];rfl)) rfl ⟨by rw [FH.out],below_setRow (B1A.out _) G1.out _⟩
           ·cases d3
      | false =>
       have F:V=faultF kind:=by rw [STEP.out,hok,hpr];rfl
       have FH:Hid (V=faultF kind):=F
       clear F
       go_wp2_with fail
       refine (FT.out _).mono ?_
       rintro e5 w5 ⟨rfl,hb5⟩
       have R5:=(hb5.block g0 G0.out).trans R1.out
       go_wp2_with (refine wpList_store_rowTo rfl 127 (.tmp 10) (.tmp 68) rfl rfl g0 (faultF kind).cells rfl rfl 127 zeroF R5 (by rw [found_size];rfl) rfl (fd_one _) ?_)
       exact bodyPost_ret (results_cell_row Tryz.results97 _ _ _ _ _ _ _ rfl (setRow_heap _ _ _ _ _ _ R5) Tryz.underlying127 rfl (by rw [found_size];rfl)) rfl ⟨by rw [FH.out],below_setRow (below_trans B1.out hb5) G1.out _⟩
     | false =>
      have F:V=faultF kind:=by rw [STEP.out,hok];rfl
      have FH:Hid (V=faultF kind):=F
      clear F
      go_wp2_with fail
      refine (FT.out _).mono ?_
      rintro e5 w5 ⟨rfl,hb5⟩
      have R5:=(hb5.block g0 G0.out).trans R1.out
      go_wp2_with (refine wpList_store_rowTo rfl 127 (.tmp 10) (.tmp 68) rfl rfl g0 (faultF kind).cells rfl rfl 127 zeroF R5 (by rw [found_size];rfl) rfl (fd_one _) ?_)
      exact bodyPost_ret (results_cell_row Tryz.results97 _ _ _ _ _ _ _ rfl (setRow_heap _ _ _ _ _ _ R5) Tryz.underlying127 rfl (by rw [found_size];rfl)) rfl ⟨by rw [FH.out],below_setRow (below_trans B1.out hb5) G1.out _⟩

end Go.Proofs.YtkhofppmeoooaaaGreatDoor
