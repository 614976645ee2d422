/- Own lemmas. -/
import Derived.Test.YtkhofppmeoooaaaGreatDoorK02
import Derived.Test.YtkhofppmeoooaaaGreatDoorK03
import Derived.Test.YtkhofppmeoooaaaGreatDoorK04
import Derived.Test.YtkhofppmeoooaaaGreatDoorK05
namespace Go.Proofs.YtkhofppmeoooaaaGreatDoor
open Go.RowKit
set_option linter.unusedVariables false

set_option maxRecDepth 100000 in
set_option maxHeartbeats 12800000 in
theorem l7Walk_3 (ra:Option Addr) (n rcap:Nat) (zs:List Int) (b off cap:Nat) (l:List Int) (p va kind:Int) (w:World)
 (hr:ramOkB n=true) (hz:zs.length=n) (hs:Sl .u8 w ra zs) (hw8:∀ y ∈ zs,(Lit.int .u8 y).wf=true) (hlz:l.length=22) (hl:Sl .u64 w (some ⟨b,off,none⟩) l) (hp:privB p=true) (hk1:1≤kind) (hk3:kind≤3) (hva:0≤va∧va < 18446744073709551616) (hkK:kind=3) :
 Calls Tryz.prog 97 #[.slice ra n rcap,.slice (some ⟨b,off,none⟩) 22 cap,.int .i64 p,.int .u64 va,.int .i64 kind] w fun e w'=>e=.returned (.agg (walkV zs n l p va kind).cells)∧Below w.heap.size w w':=by
 have PG:Hid (∀ w,Calls Tryz.prog 127 #[.int .i64 kind] w fun e w'=>e=.returned (.agg (pageF kind).cells)∧Below w.heap.size w w'):=fun w=>l7Page_any kind hk1 hk3 w
 have FT:Hid (∀ w,Calls Tryz.prog 128 #[.int .i64 kind] w fun e w'=>e=.returned (.agg (faultF kind).cells)∧Below w.heap.size w w'):=fun w=>l7Fault_any kind hk1 hk3 w
 have HW39:Hid (∀ w,Calls Tryz.prog 126 #[.int .u64 va,.int .u64 39] w fun e w'=>e=.returned (.int .u64 (widen 39 va))∧w'=w):=fun w=>l1Widen_any va 39 (by omega) (by omega) w
 obtain ⟨b',off',eb,hblt,c0⟩:=hl 0 (by omega)
 simp only [Option.some.injEq,Addr.mk.injEq,and_true] at eb
 obtain ⟨rfl,rfl⟩:=eb
 obtain ⟨b',off',eb,_,c15⟩:=hl 15 (by omega)
 simp only [Option.some.injEq,Addr.mk.injEq,and_true] at eb
 obtain ⟨rfl,rfl⟩:=eb
 have c0:w.cell? ⟨b,off,none⟩=some (.int .u64 (l.getD 0 0)):=c0
 have TOP:Hid (walkV zs n l p va kind=if ((p==3)||(l.getD 15 0 / 1152921504606846976==0))=true then ⟨va,0,false,0,0⟩ else if (widen 39 va != va)=true then pageF kind else walkL zs n l p va kind 2 (IntKind.u64.wrap (bits .and .u64 (l.getD 15 0) 17592186044415*4096))):=(rfl:walkV zs n l p va kind=_)
 obtain ⟨V,hV⟩:∃ V,walkV zs n l p va kind=V:=⟨_,rfl⟩
 rw [hV] at TOP ⊢
 have HSL:Hid (Sl .u64 w (some ⟨b,off,none⟩) l):=hl
 have HRS:Hid (Sl .u8 w ra zs):=hs
 have HZ:Hid (zs.length=n):=hz
 have HW8:Hid (∀ y ∈ zs,(Lit.int .u8 y).wf=true):=hw8
 have HRAM:Hid (ramOkB n=true):=hr
 have HLZ:Hid (l.length=22):=hlz
 have HVA:Hid (0≤va∧va < 18446744073709551616):=hva
 have HKK:Hid (kind=3):=hkK
 clear hkK
 have HK:Hid (kind=1∨kind=2∨kind=3):=by show _∨_;omega
 have HPV:Hid (p=0∨p=1∨p=3):=by show _∨_;simpa [privB,or_assoc] using hp
 have hle22:∀ o,(w.alloc o).cell? ⟨b,off,none⟩=some (.int .u64 (l.getD 0 0)):=fun o=>(((Below.refl _ _).alloc (Nat.le_refl _) o).cell (by exact hblt)).trans c0
 have hle15:∀ o,(w.alloc o).cell? ⟨b,off+15,none⟩=some (.int .u64 (l.getD 15 0)):=fun o=>(((Below.refl _ _).alloc (Nat.le_refl _) o).cell (by exact hblt)).trans c15
 have HBL0:Hid (b < w.heap.size):=hblt
 clear hV hl hs hz hw8 hr hlz hva hp hk1 hk3
 generalize hx0:l.getD 0 0=x0 at *
 generalize l.getD 15 0=x15 at *
 have HX0:Hid (l.getD 0 0=x0):=hx0
 clear hx0
 cases d3:(p==3) with
 | true =>
  have FH:Hid (V=⟨va,0,false,0,0⟩):=by show V=_;rw [TOP.out,d3,Bool.true_or];exact if_pos rfl
  go_enter Tryz.func97,Tryz.ntmps97
  go_wp2_with fail
  exact bodyPost_ret (results_cell_row Tryz.results97 _ _ _ _ _ _ _ rfl (heap_alloc_new _ _) Tryz.underlying127 rfl found_size) rfl ⟨by rw [FH.out];rfl,(Below.refl _ _).alloc (Nat.le_refl _) _⟩
 | false =>
  cases d60:(x15 / 1152921504606846976==0) with
  | true =>
   have FH:Hid (V=⟨va,0,false,0,0⟩):=by show V=_;rw [TOP.out,d3,d60];exact if_pos rfl
   go_enter Tryz.func97,Tryz.ntmps97
   go_wp2_with fail
   exact bodyPost_ret (results_cell_row Tryz.results97 _ _ _ _ _ _ _ rfl (heap_alloc_new _ _) Tryz.underlying127 rfl found_size) rfl ⟨by rw [FH.out];rfl,(Below.refl _ _).alloc (Nat.le_refl _) _⟩
  | false =>
   have TOP2:Hid (V=if (widen 39 va != va)=true then pageF kind else walkL zs n l p va kind 2 (IntKind.u64.wrap (bits .and .u64 x15 17592186044415*4096))):=by show V=_;rw [TOP.out,d3,d60];exact if_neg (by decide)
   clear TOP
   generalize widen 39 va=wv at *
   go_enter Tryz.func97,Tryz.ntmps97
   go_wp2_with fail
   have R1:Hid ((w.alloc (.cells #[.int .u64 0,.int .i64 0,.bool false,.int .u64 0,.int .u64 0] 127)).heap[w.heap.size]?=some (.cells zeroF 127 (0,0))):=heap_alloc_new _ _
   have B1:Hid (Below w.heap.size w (w.alloc (.cells #[.int .u64 0,.int .i64 0,.bool false,.int .u64 0,.int .u64 0] 127))):=(Below.refl _ _).alloc (Nat.le_refl _) _
   have G0:Hid (w.heap.size < (w.alloc (.cells #[.int .u64 0,.int .i64 0,.bool false,.int .u64 0,.int .u64 0] 127)).heap.size):=by show _ < _;simp
   have C0:=hle22 (.cells #[.int .u64 0,.int .i64 0,.bool false,.int .u64 0,.int .u64 0] 127)
   have C15:=hle15 (.cells #[.int .u64 0,.int .i64 0,.bool false,.int .u64 0,.int .u64 0] 127)
   clear hle22 hle15 c0 c15
   generalize w.alloc (.cells #[.int .u64 0,.int .i64 0,.bool false,.int .u64 0,.int .u64 0] 127)=w1 at *
   have G1:Hid (w.heap.size≤w.heap.size):=Nat.le_refl _
   obtain ⟨g0,hg0⟩:∃ g0,w.heap.size=g0:=⟨_,rfl⟩
   have RS1:Hid (Sl .u8 w1 ra zs):=HRS.out.below B1.out
   have SL1:Hid (Sl .u64 w1 (some ⟨b,off,none⟩) l):=HSL.out.below B1.out
   have HBL:Hid (b < w1.heap.size):=Nat.lt_of_lt_of_le HBL0.out B1.out.size
   clear HRS HSL
   rw [hg0] at R1 G0
   rw [hg0]
   have G1:Hid (w.heap.size≤g0):=by show _≤_;omega
   refine (HW39.out _).mono ?_
   rintro e6 wx ⟨rfl,hwx⟩
   have hwy:=hwx.symm
   subst hwy
   cases d39:(wv != va) with
   | true =>
    have F:V=pageF kind:=by rw [TOP2.out,d39];exact if_pos rfl
    have FH:Hid (V=pageF kind):=F
    clear F
    go_wp2_with fail
    refine (PG.out _).mono ?_
    rintro e5 w5 ⟨rfl,hb5⟩
    have R5:=(hb5.block g0 G0.out).trans R1.out
    go_wp2_with (refine wpList_store_rowTo rfl 127 (.tmp 10) (.tmp 40) rfl rfl g0 (pageF kind).cells rfl rfl 127 zeroF R5 (by rw [found_size];rfl) rfl (fd_one _) ?_)
    exact bodyPost_ret (results_cell_row Tryz.results97 _ _ _ _ _ _ _ rfl (setRow_heap _ _ _ _ _ _ R5) Tryz.underlying127 rfl (by rw [found_size];rfl)) rfl ⟨by rw [FH.out],below_setRow (below_trans B1.out hb5) G1.out _⟩
   | false =>
    have TOP3:Hid (walkL zs n l p va kind 2 (IntKind.u64.wrap (bits .and .u64 x15 17592186044415*4096))=V):=by show _=V;rw [TOP2.out,d39];rfl
    clear TOP2
    go_wp2_with fail
    go_loopw [11,12] (fun s t wr=>∃ (lv:Nat) (T:Int),lv≤2∧s=.int .u64 T∧t=.int .u64 lv∧Hid (0≤T∧T < 18446744073709551616)∧Hid (walkL zs n l p va kind lv T=V)∧wr=w1) (fun _ t _=>(intOf t).toNat)
    case atStart=>exact ⟨2,_,by omega,rfl,rfl,⟨(wrapU _).1,(wrapU _).2⟩,TOP3,rfl⟩
    case round =>
     obtain ⟨lv,T,hlv,rfl,rfl,hT,hf,hwr⟩:=hrel
     have hwr2:=hwr.symm
     subst hwr2
     have STEP0:=walkL_step zs n l p va kind lv T
     rw [hf.out] at STEP0
     obtain ⟨X,hX⟩:∃ X,pteAt T va lv=X:=⟨_,rfl⟩
     have hXu:0≤X∧X < 18446744073709551616:=by rw [← hX];exact wrapU _
     rw [hX] at STEP0
     obtain ⟨e,he⟩:∃ e,pteV zs X=e:=⟨_,rfl⟩
     obtain ⟨fr,hfr⟩:∃ fr,frameV e=fr:=⟨_,rfl⟩
     obtain ⟨pr,hpr0⟩:∃ pr,permRest l 1 X (lastOf X 8) 2 4 0=pr:=⟨_,rfl⟩
     rw [he,hfr,hpr0] at STEP0
     obtain ⟨n9,hn9⟩:∃ n9:Nat,9*lv=n9:=⟨_,rfl⟩
     obtain ⟨n12,hn12⟩:∃ n12:Nat,12+n9=n12:=⟨_,rfl⟩
     have f9:IntKind.u64.wrap (9*(lv:Int))=(n9:Int):=by rw [IntKind.wrap_u64];omega
     have f12:IntKind.u64.wrap (12+(n9:Int))=(n12:Int):=by rw [IntKind.wrap_u64];omega
     have g9:9*(lv:Int)=(n9:Int):=by omega
     have g12:12+(n9:Int)=(n12:Int):=by omega
     have hXv:IntKind.u64.wrap (T+IntKind.u64.wrap (8*bits .and .u64 (va / 2 ^ n12) 511))=X:=by rw [← hX,← hn12,← hn9];rfl
     have HIN:Hid (∀ w,Calls Tryz.prog 60 #[.slice ra n rcap,.int .u64 X,.int .i64 8] w fun e w'=>e=.returned (.bool (okB n X 8))∧w'=w):=fun w=>inside_any ra n rcap X 8 w HRAM.out rfl hXu.1 (by omega)
     have HPR:Hid (Calls Tryz.prog 58 #[.slice (some ⟨b,off,none⟩) 22 cap,.int .i64 1,.int .u64 X,.int .i64 8,.int .i64 2] w1 fun e w'=>e=.returned (.bool pr)∧w'=w1):=by
      have h:=l6Permits_any (some ⟨b,off,none⟩) cap l 1 X 8 2 w1 HLZ.out SL1.out
      rw [hpr0] at h
      exact h
     have HP3:Hid (∀ o,Calls Tryz.prog 58 #[.slice (some ⟨b,off,none⟩) 22 cap,.int .i64 1,.int .u64 X,.int .i64 8,.int .i64 3] (w1.alloc o) fun e w'=>e=.returned (.bool (permRest l 1 X (lastOf X 8) 3 4 0))∧w'=w1.alloc o):=fun o=>l6Permits_any (some ⟨b,off,none⟩) cap l 1 X 8 3 (w1.alloc o) HLZ.out (SL1.out.below ((Below.refl _ _).alloc (Nat.le_refl _) _))
     have HLD:Hid (okB n X 8=true→Calls Tryz.prog 61 #[.slice ra n rcap,.int .u64 X,.int .i64 8] w1 fun e' w'=>e'=.returned (.int .u64 e)∧w'=w1):=by
      intro hok
      obtain ⟨f,hfX⟩:∃ f:Nat,X=2147483648+(f:Int):=⟨(X - 2147483648).toNat,by have:=okB_at hok;omega⟩
      have hfn:=okB_at hok
      have hb65:=ramOkB_bd HRAM.out
      have h:=l1Load_any ra n rcap f 8 zs w1 HZ.out (by omega) RS1.out HW8.out (by omega) (by omega) (by omega)
      have e2:le zs f 8=e:=by rw [← he];unfold pteV;rw [hfX,show (2147483648+(f:Int) - 2147483648).toNat=f from by omega]
      rw [e2,← hfX] at h
      exact h
     have HB:∀ (i:Nat),i < 64→∀ w,Calls Tryz.prog 101 #[.int .u64 e,.int .u64 i] w fun e' w'=>e'=.returned (.int .u64 (bitAt e i))∧w'=w:=fun i hi w=>l5Bit_any e i hi w
     have HB1:Hid (∀ w,Calls Tryz.prog 101 #[.int .u64 e,.int .u64 1] w fun e' w'=>e'=.returned (.int .u64 (bitAt e 1))∧w'=w):=HB 1 (by omega)
     have HB2:Hid (∀ w,Calls Tryz.prog 101 #[.int .u64 e,.int .u64 2] w fun e' w'=>e'=.returned (.int .u64 (bitAt e 2))∧w'=w):=HB 2 (by omega)
     have HB3:Hid (∀ w,Calls Tryz.prog 101 #[.int .u64 e,.int .u64 3] w fun e' w'=>e'=.returned (.int .u64 (bitAt e 3))∧w'=w):=HB 3 (by omega)
     have HB4:Hid (∀ w,Calls Tryz.prog 101 #[.int .u64 e,.int .u64 4] w fun e' w'=>e'=.returned (.int .u64 (bitAt e 4))∧w'=w):=HB 4 (by omega)
     have HB19:Hid (∀ w,Calls Tryz.prog 101 #[.int .u64 x0,.int .u64 19] w fun e' w'=>e'=.returned (.int .u64 (bitAt x0 19))∧w'=w):=fun w=>l5Bit_any x0 19 (by omega) w
     have HB18:Hid (∀ w,Calls Tryz.prog 101 #[.int .u64 x0,.int .u64 18] w fun e' w'=>e'=.returned (.int .u64 (bitAt x0 18))∧w'=w):=fun w=>l5Bit_any x0 18 (by omega) w
     have STEP:Hid (V=(if okB n X 8=true then (if pr=true then (if ((bits .and .u64 e 1==0)||((bitAt e 1==0)&&(bitAt e 2==1))||(e / 18014398509481984 != 0))=true then pageF kind else if ((bitAt e 1==0)&&(bitAt e 3==0))=true then (if (((lv:Int)==0)||(bits .and .u64 (e / 16) 1==1)||(bits .and .u64 (e / 64) 3 != 0))=true then pageF kind else walkL zs n l p va kind (lv - 1) (IntKind.u64.wrap (fr*4096))) else leafV l p va kind e X lv) else faultF kind) else faultF kind)):=STEP0
     have hfrv:bits .and .u64 (e / 1024) 17592186044415=fr:=hfr
     obtain ⟨lo,hlo⟩:∃ lo,lowM n9=lo:=⟨_,rfl⟩
     obtain ⟨sz,hsz⟩:∃ sz,lowM n12=sz:=⟨_,rfl⟩
     have hlov:IntKind.u64.wrap (IntKind.u64.wrap (2 ^ n9) - 1)=lo:=hlo
     have hszv:IntKind.u64.wrap (IntKind.u64.wrap (2 ^ n12) - 1)=sz:=hsz
     obtain ⟨ld,hld⟩:∃ ld,bits .or .u64 (bits .andNot .u64 (IntKind.u64.wrap (fr*4096)) sz) (bits .and .u64 va sz)=ld:=⟨_,rfl⟩
     have hldv:leadV e va lv=ld:=by unfold leadV;rw [hfr,hn9,hn12,hsz];exact hld
     have LEAF0:Hid (leafV l p va kind e X lv=if (bits .and .u64 fr lo != 0)=true then pageF kind else if (((kind==1)&&(bitAt e 3==0))||((kind==2)&&(bitAt e 1==0)&&((bitAt e 3==0)||(bitAt x0 19==0)))||((kind==3)&&(bitAt e 2==0)))=true then pageF kind else if (((p==0)&&(bitAt e 4==0))||((p==1)&&(bitAt e 4==1)&&((kind==1)||(bitAt x0 18==0))))=true then pageF kind else if ((if (kind==3)=true then bits .or .u64 (bits .or .u64 e 64) 128 else bits .or .u64 e 64) != e)=true then (if permRest l 1 X (lastOf X 8) 3 4 0=true then ⟨ld,0,true,X,if (kind==3)=true then bits .or .u64 (bits .or .u64 e 64) 128 else bits .or .u64 e 64⟩ else faultF kind) else ⟨ld,0,false,0,0⟩):=by
      show _=_
      unfold leafV offB noKind noPriv wantV
      rw [hfr,hn9,hlo,hldv,HX0.out]
     have HWW:Hid (bitAt e 2=0∨bitAt e 2=1):=bit_two e 2
     have R1A:Hid (∀ o,(w1.alloc o).heap[g0]?=some (.cells zeroF 127 (0,0))):=fun o=>(Below.heap_alloc _ _ _ G0.out).trans R1.out
     have B1A:Hid (∀ o,Below w.heap.size w (w1.alloc o)):=fun o=>B1.out.alloc B1.out.size _
     have G0A:Hid (∀ o,g0 < (w1.alloc o).heap.size):=fun o=>by have:=G0.out;simp;omega
     have C0A:∀ o,(w1.alloc o).cell? ⟨b,off,none⟩=some (.int .u64 x0):=fun o=>(((Below.refl _ _).alloc (Nat.le_refl _) o).cell (by exact HBL.out)).trans C0
     clear STEP0 HB hX he hlo hsz hldv hfr hn9 hn12 hpr0
     generalize bitAt e 1=r at *
     generalize bitAt e 2=ww at *
     generalize bitAt e 3=x at *
     generalize bitAt e 4=u at *
     generalize bitAt x0 19=m19 at *
     generalize bitAt x0 18=m18 at *
     generalize permRest l 1 X (lastOf X 8) 3 4 0=pr3 at *
     generalize okB n X 8=ok at *
     go_wp2_with fail
     refine (HIN.out _).mono ?_
     rintro e6 wx ⟨rfl,hwx⟩
     have hwy:=hwx.symm
     subst hwy
     cases hok:ok with
     | true =>
      have hld:=HLD.out hok
      have HLD2:Hid (Calls Tryz.prog 61 #[.slice ra n rcap,.int .u64 X,.int .i64 8] w1 fun e' w'=>e'=.returned (.int .u64 e)∧w'=w1):=hld
      clear hld HLD
      go_wp2_with fail
      refine HPR.out.mono ?_
      rintro e6 wx ⟨rfl,hwx⟩
      have hwy:=hwx.symm
      subst hwy
      cases hpr:pr with
      | true =>
       go_wp2_with fail
       refine HLD2.out.mono ?_
       rintro e6 wx ⟨rfl,hwx⟩
       have hwy:=hwx.symm
       subst hwy
       go_wp2_with fail
       refine (HB1.out _).mono ?_
       rintro e6 wx ⟨rfl,hwx⟩
       have hwy:=hwx.symm
       subst hwy
       go_wp2_with fail
       refine (HB2.out _).mono ?_
       rintro e6 wx ⟨rfl,hwx⟩
       have hwy:=hwx.symm
       subst hwy
       go_wp2_with fail
       refine (HB3.out _).mono ?_
       rintro e6 wx ⟨rfl,hwx⟩
       have hwy:=hwx.symm
       subst hwy
       cases hA:(bits .and .u64 e 1==0) with
       | true =>
        have F:V=pageF kind:=by rw [STEP.out,hok,hpr,hA];rfl
        have FH:Hid (V=pageF kind):=F
        clear F
        go_wp2_with fail
        refine (PG.out _).mono ?_
        rintro e5 w5 ⟨rfl,hb5⟩
        have R5:=(hb5.block g0 G0.out).trans R1.out
        go_wp2_with (refine wpList_store_rowTo rfl 127 (.tmp 10) (.tmp 95) rfl rfl g0 (pageF kind).cells rfl rfl 127 zeroF R5 (by rw [found_size];rfl) rfl (fd_one _) ?_)
        exact bodyPost_ret (results_cell_row Tryz.results97 _ _ _ _ _ _ _ rfl (setRow_heap _ _ _ _ _ _ R5) Tryz.underlying127 rfl (by rw [found_size];rfl)) rfl ⟨by rw [FH.out],below_setRow (below_trans B1.out hb5) G1.out _⟩
       | false =>
        cases hR:(r==0) with
        | true =>
         cases hW:(ww==1) with
         | true =>
          have F:V=pageF kind:=by rw [STEP.out,hok,hpr,hA,hR,hW];rfl
          have FH:Hid (V=pageF kind):=F
          clear F
          go_wp2_with fail
          refine (PG.out _).mono ?_
          rintro e5 w5 ⟨rfl,hb5⟩
          have R5:=(hb5.block g0 G0.out).trans R1.out
          go_wp2_with (refine wpList_store_rowTo rfl 127 (.tmp 10) (.tmp 95) rfl rfl g0 (pageF kind).cells rfl rfl 127 zeroF R5 (by rw [found_size];rfl) rfl (fd_one _) ?_)
          exact bodyPost_ret (results_cell_row Tryz.results97 _ _ _ _ _ _ _ rfl (setRow_heap _ _ _ _ _ _ R5) Tryz.underlying127 rfl (by rw [found_size];rfl)) rfl ⟨by rw [FH.out],below_setRow (below_trans B1.out hb5) G1.out _⟩
         | false =>
          cases hC:(e / 18014398509481984 != 0) with
          | true =>
           have F:V=pageF kind:=by rw [STEP.out,hok,hpr,hA,hR,hW,hC];rfl
           have FH:Hid (V=pageF kind):=F
           clear F
           go_wp2_with fail
           refine (PG.out _).mono ?_
           rintro e5 w5 ⟨rfl,hb5⟩
           have R5:=(hb5.block g0 G0.out).trans R1.out
           go_wp2_with (refine wpList_store_rowTo rfl 127 (.tmp 10) (.tmp 95) rfl rfl g0 (pageF kind).cells rfl rfl 127 zeroF R5 (by rw [found_size];rfl) rfl (fd_one _) ?_)
           exact bodyPost_ret (results_cell_row Tryz.results97 _ _ _ _ _ _ _ rfl (setRow_heap _ _ _ _ _ _ R5) Tryz.underlying127 rfl (by rw [found_size];rfl)) rfl ⟨by rw [FH.out],below_setRow (below_trans B1.out hb5) G1.out _⟩
          | false =>
           cases hX3:(x==0) with
           | true =>
            cases hL:((lv:Int)==0) with
            | true =>
             have F:V=pageF kind:=by rw [STEP.out,hok,hpr,hA,hR,hW,hC,hX3,hL];rfl
             have FH:Hid (V=pageF kind):=F
             clear F
             go_wp2_with fail
             refine (PG.out _).mono ?_
             rintro e5 w5 ⟨rfl,hb5⟩
             have R5:=(hb5.block g0 G0.out).trans R1.out
             go_wp2_with (refine wpList_store_rowTo rfl 127 (.tmp 10) (.tmp 120) rfl rfl g0 (pageF kind).cells rfl rfl 127 zeroF R5 (by rw [found_size];rfl) rfl (fd_one _) ?_)
             exact bodyPost_ret (results_cell_row Tryz.results97 _ _ _ _ _ _ _ rfl (setRow_heap _ _ _ _ _ _ R5) Tryz.underlying127 rfl (by rw [found_size];rfl)) rfl ⟨by rw [FH.out],below_setRow (below_trans B1.out hb5) G1.out _⟩
            | false =>
             cases h4:(bits .and .u64 (e / 16) 1==1) with
             | true =>
              have F:V=pageF kind:=by rw [STEP.out,hok,hpr,hA,hR,hW,hC,hX3,hL,h4];rfl
              have FH:Hid (V=pageF kind):=F
              clear F
              go_wp2_with fail
              refine (PG.out _).mono ?_
              rintro e5 w5 ⟨rfl,hb5⟩
              have R5:=(hb5.block g0 G0.out).trans R1.out
              go_wp2_with (refine wpList_store_rowTo rfl 127 (.tmp 10) (.tmp 120) rfl rfl g0 (pageF kind).cells rfl rfl 127 zeroF R5 (by rw [found_size];rfl) rfl (fd_one _) ?_)
              exact bodyPost_ret (results_cell_row Tryz.results97 _ _ _ _ _ _ _ rfl (setRow_heap _ _ _ _ _ _ R5) Tryz.underlying127 rfl (by rw [found_size];rfl)) rfl ⟨by rw [FH.out],below_setRow (below_trans B1.out hb5) G1.out _⟩
             | false =>
              cases h6:(bits .and .u64 (e / 64) 3 != 0) with
              | true =>
               have F:V=pageF kind:=by rw [STEP.out,hok,hpr,hA,hR,hW,hC,hX3,hL,h4,h6];rfl
               have FH:Hid (V=pageF kind):=F
               clear F
               go_wp2_with fail
               refine (PG.out _).mono ?_
               rintro e5 w5 ⟨rfl,hb5⟩
               have R5:=(hb5.block g0 G0.out).trans R1.out
               go_wp2_with (refine wpList_store_rowTo rfl 127 (.tmp 10) (.tmp 120) rfl rfl g0 (pageF kind).cells rfl rfl 127 zeroF R5 (by rw [found_size];rfl) rfl (fd_one _) ?_)
               exact bodyPost_ret (results_cell_row Tryz.results97 _ _ _ _ _ _ _ rfl (setRow_heap _ _ _ _ _ _ R5) Tryz.underlying127 rfl (by rw [found_size];rfl)) rfl ⟨by rw [FH.out],below_setRow (below_trans B1.out hb5) G1.out _⟩
              | false =>
               have F:walkL zs n l p va kind (lv - 1) (IntKind.u64.wrap (fr*4096))=V:=by rw [STEP.out,hok,hpr,hA,hR,hW,hC,hX3,hL,h4,h6];rfl
               have FH:Hid (walkL zs n l p va kind (lv - 1) (IntKind.u64.wrap (fr*4096))=V):=F
               clear F
               have hl0:lv≠0:=by intro h;subst h;cases hL
               have hsub:IntKind.u64.wrap ((lv:Int) - 1)=((lv - 1:Nat):Int):=by rw [IntKind.wrap_u64];omega
               go_wp2_with fail
               refine ⟨?rel,?measure⟩
               case measure=>simp [intOf];omega
               case rel=>exact ⟨_,_,_,_,_,_,_,_,_,_,_,_,_,_,_,_,_,_,_,_,_,_,_,_,_,_,_,_,_,_,_,_,_,_,_,_,_,_,_,_,_,_,_,_,_,_,_,_,_,_,_,_,_,_,_,_,_,_,_,_,_,_,_,_,_,_,_,_,_,_,_,_,_,_,_,_,_,_,_,_,_,_,_,_,_,_,_,_,_,_,_,_,_,_,_,_,_,_,_,_,_,_,_,_,_,_,_,_,_,_,_,_,_,_,_,_,_,_,_,_,_,_,_,_,_,_,_,_,_,_,_,_,_,_,_,_,_,_,_,_,_,_,_,_,_,_,_,_,_,_,_,_,_,_,_,_,_,_,_,_,_,_,_,_,_,_,_,_,_,_,_,_,_,_,_,_,_,_,_,_,_,_,_,_,_,_,_,_,_,_,_,_,_,_,_,_,_,_,_,_,_,_,_,_,_,⟨lv - 1,IntKind.u64.wrap (fr*4096),by omega,rfl,rfl,wrapU _,FH,rfl⟩,rfl⟩
           | false =>
            have LEAF1:V=leafV l p va kind e X lv:=by rw [STEP.out,hok,hpr,hA,hR,hW,hC,hX3];rfl
            have LEAF:=hid_mk (LEAF1.trans LEAF0.out)
            clear LEAF0 LEAF1
            go_wp2_with fail
            refine (HB4.out _).mono ?_
            rintro e6 wx ⟨rfl,hwx⟩
            have hwy:=hwx.symm
            subst hwy
            cases hO:(bits .and .u64 fr lo != 0) with
            | true =>
             have F:V=pageF kind:=by rw [LEAF.out,hO];rfl
             have FH:Hid (V=pageF kind):=F
             clear F
             go_wp2_with fail
             refine (PG.out _).mono ?_
             rintro e5 w5 ⟨rfl,hb5⟩
             have R5:=(hb5.block g0 G0.out).trans R1.out
             go_wp2_with (refine wpList_store_rowTo rfl 127 (.tmp 10) (.tmp 135) rfl rfl g0 (pageF kind).cells rfl rfl 127 zeroF R5 (by rw [found_size];rfl) rfl (fd_one _) ?_)
             exact bodyPost_ret (results_cell_row Tryz.results97 _ _ _ _ _ _ _ rfl (setRow_heap _ _ _ _ _ _ R5) Tryz.underlying127 rfl (by rw [found_size];rfl)) rfl ⟨by rw [FH.out],below_setRow (below_trans B1.out hb5) G1.out _⟩
            | false =>
             obtain rfl:=HKK.out
             have hW0:=w_zero HWW.out hW
             have F:V=pageF 3:=by rw [LEAF.out,hO,hW0];rfl
             have FH:Hid (V=pageF 3):=F
             clear F
             go_wp2_with fail
             refine (PG.out _).mono ?_
             rintro e5 w5 ⟨rfl,hb5⟩
             have R5:=(hb5.block g0 G0.out).trans R1.out
             go_wp2_with (refine wpList_store_rowTo rfl 127 (.tmp 10) (.tmp 173) rfl rfl g0 (pageF 3).cells rfl rfl 127 zeroF R5 (by rw [found_size];rfl) rfl (fd_one _) ?_)
             exact bodyPost_ret (results_cell_row Tryz.results97 _ _ _ _ _ _ _ rfl (setRow_heap _ _ _ _ _ _ R5) Tryz.underlying127 rfl (by rw [found_size];rfl)) rfl ⟨by rw [FH.out],below_setRow (below_trans B1.out hb5) G1.out _⟩
        | false =>
         cases hC:(e / 18014398509481984 != 0) with
         | true =>
          have F:V=pageF kind:=by rw [STEP.out,hok,hpr,hA,hR,hC];rfl
          have FH:Hid (V=pageF kind):=F
          clear F
          go_wp2_with fail
          refine (PG.out _).mono ?_
          rintro e5 w5 ⟨rfl,hb5⟩
          have R5:=(hb5.block g0 G0.out).trans R1.out
          go_wp2_with (refine wpList_store_rowTo rfl 127 (.tmp 10) (.tmp 95) rfl rfl g0 (pageF kind).cells rfl rfl 127 zeroF R5 (by rw [found_size];rfl) rfl (fd_one _) ?_)
          exact bodyPost_ret (results_cell_row Tryz.results97 _ _ _ _ _ _ _ rfl (setRow_heap _ _ _ _ _ _ R5) Tryz.underlying127 rfl (by rw [found_size];rfl)) rfl ⟨by rw [FH.out],below_setRow (below_trans B1.out hb5) G1.out _⟩
         | false =>
          have LEAF1:V=leafV l p va kind e X lv:=by rw [STEP.out,hok,hpr,hA,hR,hC];rfl
          have LEAF:=hid_mk (LEAF1.trans LEAF0.out)
          clear LEAF0 LEAF1
          go_wp2_with fail
          refine (HB4.out _).mono ?_
          rintro e6 wx ⟨rfl,hwx⟩
          have hwy:=hwx.symm
          subst hwy
          cases hO:(bits .and .u64 fr lo != 0) with
          | true =>
           have F:V=pageF kind:=by rw [LEAF.out,hO];rfl
           have FH:Hid (V=pageF kind):=F
           clear F
           go_wp2_with fail
           refine (PG.out _).mono ?_
           rintro e5 w5 ⟨rfl,hb5⟩
           have R5:=(hb5.block g0 G0.out).trans R1.out
           go_wp2_with (refine wpList_store_rowTo rfl 127 (.tmp 10) (.tmp 135) rfl rfl g0 (pageF kind).cells rfl rfl 127 zeroF R5 (by rw [found_size];rfl) rfl (fd_one _) ?_)
           exact bodyPost_ret (results_cell_row Tryz.results97 _ _ _ _ _ _ _ rfl (setRow_heap _ _ _ _ _ _ R5) Tryz.underlying127 rfl (by rw [found_size];rfl)) rfl ⟨by rw [FH.out],below_setRow (below_trans B1.out hb5) G1.out _⟩
          | false =>
           obtain rfl:=HKK.out
           cases hW0:(ww==0) with
           | true =>
            have F:V=pageF 3:=by rw [LEAF.out,hO,hW0];rfl
            have FH:Hid (V=pageF 3):=F
            clear F
            go_wp2_with fail
            refine (PG.out _).mono ?_
            rintro e5 w5 ⟨rfl,hb5⟩
            have R5:=(hb5.block g0 G0.out).trans R1.out
            go_wp2_with (refine wpList_store_rowTo rfl 127 (.tmp 10) (.tmp 173) rfl rfl g0 (pageF 3).cells rfl rfl 127 zeroF R5 (by rw [found_size];rfl) rfl (fd_one _) ?_)
            exact bodyPost_ret (results_cell_row Tryz.results97 _ _ _ _ _ _ _ rfl (setRow_heap _ _ _ _ _ _ R5) Tryz.underlying127 rfl (by rw [found_size];rfl)) rfl ⟨by rw [FH.out],below_setRow (below_trans B1.out hb5) G1.out _⟩
           | false =>
            rcases HPV.out with rfl | rfl | rfl
            ·skip
             cases hU:(u==0) with
             | true =>
              have F:V=pageF 3:=by rw [LEAF.out,hO,hW0,hU];rfl
              have FH:Hid (V=pageF 3):=F
              clear F
              go_wp2_with fail
              refine (PG.out _).mono ?_
              rintro e5 w5 ⟨rfl,hb5⟩
              have R5:=(hb5.block g0 G0.out).trans R1.out
              go_wp2_with (refine wpList_store_rowTo rfl 127 (.tmp 10) (.tmp 182) rfl rfl g0 (pageF 3).cells rfl rfl 127 zeroF R5 (by rw [found_size];rfl) rfl (fd_one _) ?_)
              exact bodyPost_ret (results_cell_row Tryz.results97 _ _ _ _ _ _ _ rfl (setRow_heap _ _ _ _ _ _ R5) Tryz.underlying127 rfl (by rw [found_size];rfl)) rfl ⟨by rw [FH.out],below_setRow (below_trans B1.out hb5) G1.out _⟩
             | false =>
              cases hw:(bits .or .u64 (bits .or .u64 e 64) 128 != e) with
              | true =>
               go_wp2_with fail
               refine (HP3.out _).mono ?_
               rintro e6 wx ⟨rfl,hwx⟩
               have hwy:=hwx.symm
               subst hwy
               cases h3:pr3 with
               | true =>
                have FH:Hid (V=⟨ld,0,true,X,bits .or .u64 (bits .or .u64 e 64) 128⟩):=by show V=_;have hwK:((if ((3:Int)==3)=true then bits .or .u64 (bits .or .u64 e 64) 128 else bits .or .u64 e 64) != e)=true:=hw;rw [LEAF.out,hO,hW0,hU,hwK,h3];rfl
                go_wp2_with (first | (refine wpList_store_rowTo rfl 127 (.tmp 10) (.tmp 237) rfl rfl g0 (Fd.cells ⟨ld,0,true,X,bits .or .u64 (bits .or .u64 e 64) 128⟩) rfl rfl 127 zeroF (R1A.out _) (by rw [found_size];rfl) rfl (fd_one _) ?_))
                exact bodyPost_ret (results_cell_row Tryz.results97 _ _ _ _ _ _ _ rfl (setRow_heap _ _ _ _ _ _ (R1A.out _)) Tryz.underlying127 rfl (by rw [found_size];rfl)) rfl ⟨by rw [FH.out],below_setRow (B1A.out _) G1.out _⟩
               | false =>
                have FH:Hid (V=faultF 3):=by show V=_;have hwK:((if ((3:Int)==3)=true then bits .or .u64 (bits .or .u64 e 64) 128 else bits .or .u64 e 64) != e)=true:=hw;rw [LEAF.out,hO,hW0,hU,hwK,h3];rfl
                go_wp2_with fail
                refine (FT.out _).mono ?_
                rintro e5 w5 ⟨rfl,hb5⟩
                have R5:=(hb5.block g0 (G0A.out _)).trans (R1A.out _)
                go_wp2_with (refine wpList_store_rowTo rfl 127 (.tmp 10) (.tmp 231) rfl rfl g0 (faultF 3).cells rfl rfl 127 zeroF R5 (by rw [found_size];rfl) rfl (fd_one _) ?_)
                exact bodyPost_ret (results_cell_row Tryz.results97 _ _ _ _ _ _ _ rfl (setRow_heap _ _ _ _ _ _ R5) Tryz.underlying127 rfl (by rw [found_size];rfl)) rfl ⟨by rw [FH.out],below_setRow (below_trans (B1A.out _) hb5) G1.out _⟩
              | false =>
               have FH:Hid (V=⟨ld,0,false,0,0⟩):=by show V=_;have hwK:((if ((3:Int)==3)=true then bits .or .u64 (bits .or .u64 e 64) 128 else bits .or .u64 e 64) != e)=false:=hw;rw [LEAF.out,hO,hW0,hU,hwK];rfl
               go_wp2_with (first | (refine wpList_store_rowTo rfl 127 (.tmp 10) (.tmp 237) rfl rfl g0 (Fd.cells ⟨ld,0,false,0,0⟩) rfl rfl 127 zeroF (R1A.out _) (by rw [found_size];rfl) rfl (fd_one _) ?_))
               exact bodyPost_ret (results_cell_row Tryz.results97 _ _ _ _ _ _ _ rfl (setRow_heap _ _ _ _ _ _ (R1A.out _)) Tryz.underlying127 rfl (by rw [found_size];rfl)) rfl ⟨by rw [FH.out],below_setRow (B1A.out _) G1.out _⟩
            ·skip
             cases hU:(u==1) with
             | true =>
              go_wp2_with fail
              refine (HB18.out _).mono ?_
              rintro e6 wx ⟨rfl,hwx⟩
              have hwy:=hwx.symm
              subst hwy
              cases h18:(m18==0) with
              | true =>
               have F:V=pageF 3:=by rw [LEAF.out,hO,hW0,hU,h18];rfl
               have FH:Hid (V=pageF 3):=F
               clear F
               go_wp2_with fail
               refine (PG.out _).mono ?_
               rintro e5 w5 ⟨rfl,hb5⟩
               have R5:=(hb5.block g0 G0.out).trans R1.out
               go_wp2_with (refine wpList_store_rowTo rfl 127 (.tmp 10) (.tmp 202) rfl rfl g0 (pageF 3).cells rfl rfl 127 zeroF R5 (by rw [found_size];rfl) rfl (fd_one _) ?_)
               exact bodyPost_ret (results_cell_row Tryz.results97 _ _ _ _ _ _ _ rfl (setRow_heap _ _ _ _ _ _ R5) Tryz.underlying127 rfl (by rw [found_size];rfl)) rfl ⟨by rw [FH.out],below_setRow (below_trans B1.out hb5) G1.out _⟩
              | false =>
               cases hw:(bits .or .u64 (bits .or .u64 e 64) 128 != e) with
               | true =>
                go_wp2_with fail
                refine (HP3.out _).mono ?_
                rintro e6 wx ⟨rfl,hwx⟩
                have hwy:=hwx.symm
                subst hwy
                cases h3:pr3 with
                | true =>
                 have FH:Hid (V=⟨ld,0,true,X,bits .or .u64 (bits .or .u64 e 64) 128⟩):=by show V=_;have hwK:((if ((3:Int)==3)=true then bits .or .u64 (bits .or .u64 e 64) 128 else bits .or .u64 e 64) != e)=true:=hw;rw [LEAF.out,hO,hW0,hU,h18,hwK,h3];rfl
                 go_wp2_with (first | (refine wpList_store_rowTo rfl 127 (.tmp 10) (.tmp 237) rfl rfl g0 (Fd.cells ⟨ld,0,true,X,bits .or .u64 (bits .or .u64 e 64) 128⟩) rfl rfl 127 zeroF (R1A.out _) (by rw [found_size];rfl) rfl (fd_one _) ?_))
                 exact bodyPost_ret (results_cell_row Tryz.results97 _ _ _ _ _ _ _ rfl (setRow_heap _ _ _ _ _ _ (R1A.out _)) Tryz.underlying127 rfl (by rw [found_size];rfl)) rfl ⟨by rw [FH.out],below_setRow (B1A.out _) G1.out _⟩
                | false =>
                 have FH:Hid (V=faultF 3):=by show V=_;have hwK:((if ((3:Int)==3)=true then bits .or .u64 (bits .or .u64 e 64) 128 else bits .or .u64 e 64) != e)=true:=hw;rw [LEAF.out,hO,hW0,hU,h18,hwK,h3];rfl
                 go_wp2_with fail
                 refine (FT.out _).mono ?_
                 rintro e5 w5 ⟨rfl,hb5⟩
                 have R5:=(hb5.block g0 (G0A.out _)).trans (R1A.out _)
                 go_wp2_with (refine wpList_store_rowTo rfl 127 (.tmp 10) (.tmp 231) rfl rfl g0 (faultF 3).cells rfl rfl 127 zeroF R5 (by rw [found_size];rfl) rfl (fd_one _) ?_)
                 exact bodyPost_ret (results_cell_row Tryz.results97 _ _ _ _ _ _ _ rfl (setRow_heap _ _ _ _ _ _ R5) Tryz.underlying127 rfl (by rw [found_size];rfl)) rfl ⟨by rw [FH.out],below_setRow (below_trans (B1A.out _) hb5) G1.out _⟩
               | false =>
                have FH:Hid (V=⟨ld,0,false,0,0⟩):=by show V=_;have hwK:((if ((3:Int)==3)=true then bits .or .u64 (bits .or .u64 e 64) 128 else bits .or .u64 e 64) != e)=false:=hw;rw [LEAF.out,hO,hW0,hU,h18,hwK];rfl
                go_wp2_with (first | (refine wpList_store_rowTo rfl 127 (.tmp 10) (.tmp 237) rfl rfl g0 (Fd.cells ⟨ld,0,false,0,0⟩) rfl rfl 127 zeroF (R1A.out _) (by rw [found_size];rfl) rfl (fd_one _) ?_))
                exact bodyPost_ret (results_cell_row Tryz.results97 _ _ _ _ _ _ _ rfl (setRow_heap _ _ _ _ _ _ (R1A.out _)) Tryz.underlying127 rfl (by rw [found_size];rfl)) rfl ⟨by rw [FH.out],below_setRow (B1A.out _) G1.out _⟩
             | false =>
              cases hw:(bits .or .u64 (bits .or .u64 e 64) 128 != e) with
              | true =>
               go_wp2_with fail
               refine (HP3.out _).mono ?_
               rintro e6 wx ⟨rfl,hwx⟩
               have hwy:=hwx.symm
               subst hwy
               cases h3:pr3 with
               | true =>
                have FH:Hid (V=⟨ld,0,true,X,bits .or .u64 (bits .or .u64 e 64) 128⟩):=by show V=_;have hwK:((if ((3:Int)==3)=true then bits .or .u64 (bits .or .u64 e 64) 128 else bits .or .u64 e 64) != e)=true:=hw;rw [LEAF.out,hO,hW0,hU,hwK,h3];rfl
                go_wp2_with (first | (refine wpList_store_rowTo rfl 127 (.tmp 10) (.tmp 237) rfl rfl g0 (Fd.cells ⟨ld,0,true,X,bits .or .u64 (bits .or .u64 e 64) 128⟩) rfl rfl 127 zeroF (R1A.out _) (by rw [found_size];rfl) rfl (fd_one _) ?_))
                exact bodyPost_ret (results_cell_row Tryz.results97 _ _ _ _ _ _ _ rfl (setRow_heap _ _ _ _ _ _ (R1A.out _)) Tryz.underlying127 rfl (by rw [found_size];rfl)) rfl ⟨by rw [FH.out],below_setRow (B1A.out _) G1.out _⟩
               | false =>
                have FH:Hid (V=faultF 3):=by show V=_;have hwK:((if ((3:Int)==3)=true then bits .or .u64 (bits .or .u64 e 64) 128 else bits .or .u64 e 64) != e)=true:=hw;rw [LEAF.out,hO,hW0,hU,hwK,h3];rfl
                go_wp2_with fail
                refine (FT.out _).mono ?_
                rintro e5 w5 ⟨rfl,hb5⟩
                have R5:=(hb5.block g0 (G0A.out _)).trans (R1A.out _)
                go_wp2_with (refine wpList_store_rowTo rfl 127 (.tmp 10) (.tmp 231) rfl rfl g0 (faultF 3).cells rfl rfl 127 zeroF R5 (by rw [found_size];rfl) rfl (fd_one _) ?_)
                exact bodyPost_ret (results_cell_row Tryz.results97 _ _ _ _ _ _ _ rfl (setRow_heap _ _ _ _ _ _ R5) Tryz.underlying127 rfl (by rw [found_size];rfl)) rfl ⟨by rw [FH.out],below_setRow (below_trans (B1A.out _) hb5) G1.out _⟩
              | false =>
               have FH:Hid (V=⟨ld,0,false,0,0⟩):=by show V=_;have hwK:((if ((3:Int)==3)=true then bits .or .u64 (bits .or .u64 e 64) 128 else bits .or .u64 e 64) != e)=false:=hw;rw [LEAF.out,hO,hW0,hU,hwK];rfl
               go_wp2_with (first | (refine wpList_store_rowTo rfl 127 (.tmp 10) (.tmp 237) rfl rfl g0 (Fd.cells ⟨ld,0,false,0,0⟩) rfl rfl 127 zeroF (R1A.out _) (by rw [found_size];rfl) rfl (fd_one _) ?_))
               exact bodyPost_ret (results_cell_row Tryz.results97 _ _ _ _ _ _ _ rfl (setRow_heap _ _ _ _ _ _ (R1A.out _)) Tryz.underlying127 rfl (by rw [found_size];rfl)) rfl ⟨by rw [FH.out],below_setRow (B1A.out _) G1.out _⟩
            ·cases d3
      | false =>
       have F:V=faultF kind:=by rw [STEP.out,hok,hpr];rfl
       have FH:Hid (V=faultF kind):=F
       clear F
       go_wp2_with fail
       refine (FT.out _).mono ?_
       rintro e5 w5 ⟨rfl,hb5⟩
       have R5:=(hb5.block g0 G0.out).trans R1.out
       go_wp2_with (refine wpList_store_rowTo rfl 127 (.tmp 10) (.tmp 68) rfl rfl g0 (faultF kind).cells rfl rfl 127 zeroF R5 (by rw [found_size];rfl) rfl (fd_one _) ?_)
       exact bodyPost_ret (results_cell_row Tryz.results97 _ _ _ _ _ _ _ rfl (setRow_heap _ _ _ _ _ _ R5) Tryz.underlying127 rfl (by rw [found_size];rfl)) rfl ⟨by rw [FH.out],below_setRow (below_trans B1.out hb5) G1.out _⟩
     | false =>
      have F:V=faultF kind:=by rw [STEP.out,hok];rfl
      have FH:Hid (V=faultF kind):=F
      clear F
      go_wp2_with fail
      refine (FT.out _).mono ?_
      rintro e5 w5 ⟨rfl,hb5⟩
      have R5:=(hb5.block g0 G0.out).trans R1.out
      go_wp2_with (refine wpList_store_rowTo rfl 127 (.tmp 10) (.tmp 68) rfl rfl g0 (faultF kind).cells rfl rfl 127 zeroF R5 (by rw [found_size];rfl) rfl (fd_one _) ?_)
      exact bodyPost_ret (results_cell_row Tryz.results97 _ _ _ _ _ _ _ rfl (setRow_heap _ _ _ _ _ _ R5) Tryz.underlying127 rfl (by rw [found_size];rfl)) rfl ⟨by rw [FH.out],below_setRow (below_trans B1.out hb5) G1.out _⟩

theorem l7Walk_any (ra:Option Addr) (n rcap:Nat) (zs:List Int) (b off cap:Nat) (l:List Int) (p va kind:Int) (w:World)
 (hr:ramOkB n=true) (hz:zs.length=n) (hs:Sl .u8 w ra zs) (hw8:∀ y ∈ zs,(Lit.int .u8 y).wf=true) (hlz:l.length=22) (hl:Sl .u64 w (some ⟨b,off,none⟩) l) (hp:privB p=true) (hk1:1≤kind) (hk3:kind≤3) (hva:0≤va∧va < 18446744073709551616) :
 Calls Tryz.prog 97 #[.slice ra n rcap,.slice (some ⟨b,off,none⟩) 22 cap,.int .i64 p,.int .u64 va,.int .i64 kind] w fun e w'=>e=.returned (.agg (walkV zs n l p va kind).cells)∧Below w.heap.size w w':=by
 have hk:kind=1∨kind=2∨kind=3:=by omega
 rcases hk with h | h | h
 ·exact l7Walk_1 ra n rcap zs b off cap l p va kind w hr hz hs hw8 hlz hl hp hk1 hk3 hva h
 ·exact l7Walk_2 ra n rcap zs b off cap l p va kind w hr hz hs hw8 hlz hl hp hk1 hk3 hva h
 ·exact l7Walk_3 ra n rcap zs b off cap l p va kind w hr hz hs hw8 hlz hl hp hk1 hk3 hva h

theorem U_want (e kind:Int):U (wantV e kind):=by
 unfold wantV
 split
 ·exact U_bits _ _ _
 ·exact U_bits _ _ _

theorem leaf_mark (l:List Int) (p va kind e x:Int) (lv:Nat) (h:(leafV l p va kind e x lv).marked=true):(leafV l p va kind e x lv).at_=x∧U (leafV l p va kind e x lv).entry:=by
 unfold leafV at h ⊢
 split at h
 ·cases h
 ·rename_i h1
  split at h
  ·cases h
  ·rename_i h2
   split at h
   ·cases h
   ·rename_i h3
    rw [if_neg h1,if_neg h2,if_neg h3]
    split at h
    ·rename_i h4
     rw [if_pos h4]
     split at h
     ·rename_i h5
      rw [if_pos h5]
      exact ⟨rfl,U_want e kind⟩
     ·cases h
    ·cases h

theorem walkL_mark (zs:List Int) (n:Nat) (l:List Int) (p va kind:Int):∀ lv T,(walkL zs n l p va kind lv T).marked=true→okB n (walkL zs n l p va kind lv T).at_ 8=true∧U (walkL zs n l p va kind lv T).entry:=by
 intro lv
 induction lv with
 | zero =>
  intro T h
  rw [walkL] at h ⊢
  split at h
  ·rename_i h1
   rw [if_pos h1]
   split at h
   ·rename_i h2
    rw [if_pos h2]
    split at h
    ·cases h
    ·rename_i h3
     rw [if_neg h3]
     split at h
     ·cases h
     ·rename_i h4
      rw [if_neg h4]
      obtain ⟨e1,e2⟩:=leaf_mark _ _ _ _ _ _ _ h
      rw [e1]
      exact ⟨h1,e2⟩
   ·cases h
  ·cases h
 | succ lv ih =>
  intro T h
  rw [walkL] at h ⊢
  split at h
  ·rename_i h1
   rw [if_pos h1]
   split at h
   ·rename_i h2
    rw [if_pos h2]
    split at h
    ·cases h
    ·rename_i h3
     rw [if_neg h3]
     split at h
     ·rename_i h4
      rw [if_pos h4]
      split at h
      ·cases h
      ·rename_i h5
       rw [if_neg h5]
       exact ih _ h
     ·rename_i h4
      rw [if_neg h4]
      obtain ⟨e1,e2⟩:=leaf_mark _ _ _ _ _ _ _ h
      rw [e1]
      exact ⟨h1,e2⟩
   ·cases h
  ·cases h

theorem walk_mark (zs:List Int) (n:Nat) (l:List Int) (p va kind:Int) (h:(walkV zs n l p va kind).marked=true):okB n (walkV zs n l p va kind).at_ 8=true∧U (walkV zs n l p va kind).entry:=by
 unfold walkV at h ⊢
 split at h
 ·cases h
 ·rename_i h1
  rw [if_neg h1]
  split at h
  ·cases h
  ·rename_i h2
   rw [if_neg h2]
   exact walkL_mark _ _ _ _ _ _ _ _ h

def kindIn (kind:Int):Bool:=decide (1≤kind∧kind≤3)

def walkOk (n m:Nat) (l:List Int) (p kind:Int):Bool:=ramOkB n&&legalB m l p&&kindIn kind

def walkA (zs:List Int) (n m:Nat) (l:List Int) (p va kind:Int):Int:=if walkOk n m l p kind=true then (walkV zs n l p va kind).addr else 0

def walkC (zs:List Int) (n m:Nat) (l:List Int) (p va kind:Int):Int:=if walkOk n m l p kind=true then (walkV zs n l p va kind).code else if kindIn kind=true then faultC kind else 1

def markB (zs:List Int) (f:Fd):List Int:=if f.marked=true then put zs (f.at_ - 2147483648).toNat f.entry 8 else zs

def walkB (zs:List Int) (n m:Nat) (l:List Int) (p va kind:Int):List Int:=if walkOk n m l p kind=true then markB zs (walkV zs n l p va kind) else []

theorem mark_len (zs:List Int) (f:Fd):(markB zs f).length=zs.length:=by
 unfold markB
 split
 ·rw [put_len]
 ·rfl

theorem row_al {W:World} {g:Nat} {o:Obj} (h:W.heap[g]?=some o) (o':Obj):(W.alloc o').heap[g]?=some o:=(Below.heap_alloc W o' g (Array.getElem?_eq_some_iff.1 h).1).trans h

theorem own_emptyB (w:World) (base:Nat) (hb:base≤w.heap.size) (o:Obj) (ho:o=.cells #[] 5 (0,0)):(w.alloc o).ownsRow base 5 1 (.slice (some ⟨w.heap.size,0,none⟩) 0 0) 0 (([]:List Int).map (Value.int .u8)):=by
 subst ho
 exact World.ownsRow_lit w #[] 0 hb (by unfold maxLen;omega) rfl

def faultK (kind:Int):Int:=if kind=1 then 17 else if kind=2 then 21 else 23

def crookK (kind:Int):Int:=if kind=1 then 16 else if kind=2 then 20 else 22

def memM (M:MV) (R:List Int):MV:=⟨M.pc,M.x,M.pr,M.cs,R,M.d,M.hd,M.hl,M.wt⟩

def devM (M:MV) (D:DV):MV:=⟨M.pc,M.x,M.pr,M.cs,M.ram,D,M.hd,M.hl,M.wt⟩

def freeM (M:MV):MV:=⟨M.pc,M.x,M.pr,M.cs,M.ram,M.d,0,false,M.wt⟩

def heldB9 (M:MV) (pa:Int):Bool:=M.hl&&(bits .andNot .u64 M.hd 7==bits .andNot .u64 pa 7)

def letM (M:MV) (pa:Int):MV:=if heldB9 M pa=true then freeM M else M

def atM (M:MV) (pa size kind x:Int):Int × MV × Int :=
 if okB M.ram.length pa size=true then
  (if (kind==3)=true then (0,letM (memM M (put M.ram (pa - 2147483648).toNat x size.toNat)) pa,0) else (le M.ram (pa - 2147483648).toNat size.toNat,M,0))
 else if (kind==2)=true then
  (if (ldV M.d (sel pa size)).2.2=true then ((ldV M.d (sel pa size)).1,lineM (devM M (ldV M.d (sel pa size)).2.1),0) else (0,M,faultK kind))
 else if (kind==3)=true then
  (if (stV M.d x (sel pa size)).2=true then (0,letM (lineM (devM M (stV M.d x (sel pa size)).1)) pa,0) else (0,M,faultK kind))
 else (0,M,faultK kind)

def barB (l:List Int) (p pa size kind:Int):Bool:=decide (lastOf pa size < pa)||!permRest l p pa (lastOf pa size) kind 4 0

def accW (M:MV) (p addr size kind x:Int) (F:Fd):Int × MV × Int :=
 if (F.code != 0)=true then (0,memM M (markB M.ram F),wrap64 (F.code+16))
 else if barB M.cs p F.addr size kind=true then (0,memM M (markB M.ram F),faultK kind)
 else atM (memM M (markB M.ram F)) F.addr size kind x

def accV (M:MV) (addr size kind x:Int):Int × MV × Int :=
 if (addr % size != 0)=true then (0,M,crookK kind)
 else accW M (effV M.cs M.pr kind) addr size kind x (walkV M.ram M.ram.length M.cs (effV M.cs M.pr kind) addr kind)

set_option maxRecDepth 100000 in
set_option maxHeartbeats 1600000 in
theorem l8Load_3n (t cm:Int) (so:Bool) (g off:Nat) (n1 c1:Nat) (a2:Option Addr) (n2 c2:Nat) (ir:Int) (xs ys:List Int) (B E:Nat) (w:World) (hx:xs.length=n1) (hy:ys.length=n2) (hn0:1≤n1) (hn1:n1≤16) (hc1:n1≤c1) (hc2:c1≤9223372036854775807) (hBE:B≤E) (hE:E≤w.heap.size) (hf:Fam B E w (devF (some ⟨g,off,none⟩) n1 c1 xs a2 n2 c2 ys)) (hw:0≤xs.getD 0 0∧xs.getD 0 0≤255) :
 Calls Tryz.prog 63 #[.agg #[.int .u64 t,.int .u64 cm,.bool so,.slice (some ⟨g,off,none⟩) n1 c1,.slice a2 n2 c2,.int .i64 ir],.int .u64 268435456,.int .i64 1] w fun e w'=>∃ (b1:Option Addr) (d1:Nat),e=.returned (.tuple #[.int .u64 (xs.getD 0 0),.agg #[.int .u64 t,.int .u64 cm,.bool so,.slice b1 (n1 - 1) d1,.slice a2 n2 c2,.int .i64 ir],.bool true])∧w'.ownsRow w.heap.size 5 1 (.slice b1 (n1 - 1) d1) (n1 - 1) ((xs.drop 1).map (Value.int .u8))∧Below w.heap.size w w':=by
 have hs:=hf.in_
 obtain ⟨b',off',e,hlt,hc⟩:=hs 0 (by omega)
 simp only [Option.some.injEq,Addr.mk.injEq,and_true] at e
 obtain ⟨rfl,rfl⟩:=e
 have hB2:∀ o1 o2,Below w.heap.size w ((w.alloc o1).alloc o2):=fun o1 o2=>below2n
 have k0:∀ o1 o2,((w.alloc o1).alloc o2).cell? ⟨g,off,none⟩=some (.int .u8 (xs.getD 0 0)):=fun o1 o2=>((hB2 o1 o2).cell (by exact hlt)).trans hc
 have t0:((n1:Int)==0)=false:=by simp;omega
 have i0:(0:Int) < (n1:Int):=by omega
 have i1:(1:Int)≤(n1:Int):=by omega
 have HS:Hid (∀ w',Below w.heap.size w w'→Sl .u8 w' (some ⟨g,off+1,none⟩) (xs.drop 1)):=fun w' hb=>(hs.below hb).next
 have HX:Hid ((xs.drop 1).length=n1 - 1∧n1 - 1≤1048576):=⟨by rw [List.length_drop,hx],by omega⟩
 have HF:Hid (Fam B E w (devF (some ⟨g,off,none⟩) n1 c1 xs a2 n2 c2 ys)):=hf
 have HE2:Hid (B≤E∧E≤w.heap.size):=⟨hBE,hE⟩
 have hE:=own_empty8 ((w.alloc (.cells #[.int .u64 t,.int .u64 cm,.bool so,.slice (some ⟨g,off,none⟩) n1 c1,.slice a2 n2 c2,.int .i64 ir] 27)).alloc (.cells #[.int .u64 0,.int .u64 0,.bool false,.slice none 0 0,.slice none 0 0,.int .i64 0] 27)) (w.heap.size+1+1) (by simp) (.cells #[] 5 (0,0)) rfl
 rw [World.size_alloc,World.size_alloc] at hE
 have hwr:IntKind.u64.wrap (xs.getD 0 0)=xs.getD 0 0:=by rw [IntKind.wrap_u64];omega
 have HWR:=dhid hwr
 clear hs hc hf hBE hwr hw hx hy
 generalize xs.getD 0 0=x0 at *
 by_cases hcc:c1=1
 ·have hnn:n1=1:=by omega
  subst hcc hnn
  have hdz:xs.drop 1=[]:=List.length_eq_zero_iff.1 (by have:=HX.out.1;simpa using this)
  rw [hdz]
  clear hdz HS HX
  go_enter Tryz.func63,Tryz.ntmps63
  go_wp2_with (first | (at_builtin;refine wpList_app8 rfl (.tmp 58) (.tmp 61) rfl (w.heap.size+1+1) _ rfl hE _ 0 _ [] rfl rfl (by omega) (fun i hi=>absurd hi (Nat.not_lt_zero _)) (by simp) ?_;intro b1 d1 w1 ow1 gr1;obtain ⟨r0,r1,hb1,z1⟩:=app2 gr1;have R0:=dhid r0;have R1:=dhid r1;have B1:=dhid hb1;have Z1:=dhid z1;have O1:=dhid ow1;obtain ⟨p0,p1,p2,p3,p4,p5⟩:=cells6 r0;obtain ⟨s0,s1,s2,s3,s4,s5⟩:=cells6 r1;obtain ⟨y0,y1,y2,y3,y4,y5⟩:=froz6 r1;have f3:=froz r0 3;clear r0 r1 hb1 z1 ow1 gr1))
  go_region
  go_wp2_with fail
  rw [HWR.out]
  have T1:=row_put6 (row_far R1.out ⟨w.heap.size,3,none⟩ (.slice b1 0 d1) (by dsimp only;omega)) (.int .u64 t) (.int .u64 cm) (.bool so) (.slice b1 0 d1) (.slice a2 n2 c2) (.int .i64 ir)
  have A2:=(((Fam.nil (w.heap.size+1+1) (w.heap.size+1+1) w1).snoc (bRow b1 0 d1 []) _ w1.heap.size O1.out (Nat.le_refl _) (Nat.le_refl _) (Nat.le_refl _) (by have:=Z1.out;omega)).set ⟨w.heap.size,3,none⟩ (.slice b1 0 d1) (.inl (by dsimp only;omega))).put6 (w.heap.size+1) (.inl (by omega)) (.int .u64 t) (.int .u64 cm) (.bool so) (.slice b1 0 d1) (.slice a2 n2 c2) (.int .i64 ir)
  have B4:=below_put6 (B1.out.setCell (p:=⟨w.heap.size,3,none⟩) (Nat.le_refl _) (.slice b1 0 d1)) (g:=w.heap.size+1) (by omega) (.int .u64 t) (.int .u64 cm) (.bool so) (.slice b1 0 d1) (.slice a2 n2 c2) (.int .i64 ir)
  exact bodyPost_ret (results_tct8 Tryz.results63 _ _ _ _ _ _ _ rfl (row_drew T1) Tryz.underlying27 rfl dev_size) rfl ⟨b1,d1,rfl,own_low (ownsRow_below (A2.own _ (List.mem_singleton.2 rfl)) (Below.refl _ _).drew) (by omega),B4.drew⟩
 ·have hcc2:¬ (c1 - 1=0):=by omega
  go_enter Tryz.func63,Tryz.ntmps63
  go_wp2_with (first | (at_builtin;refine wpList_app8 rfl (.tmp 58) (.tmp 61) rfl (w.heap.size+1+1) _ rfl hE (some ⟨g,off+1,none⟩) (n1 - 1) (c1 - 1) (xs.drop 1) rfl HX.out.1 HX.out.2 (HS.out _ ((hB2 _ _).alloc (hB2 _ _).size _)) (by simp) ?_;intro b1 d1 w1 ow1 gr1;obtain ⟨r0,r1,hb1,z1⟩:=app2 gr1;have R0:=dhid r0;have R1:=dhid r1;have B1:=dhid hb1;have Z1:=dhid z1;have O1:=dhid ow1;obtain ⟨p0,p1,p2,p3,p4,p5⟩:=cells6 r0;obtain ⟨s0,s1,s2,s3,s4,s5⟩:=cells6 r1;obtain ⟨y0,y1,y2,y3,y4,y5⟩:=froz6 r1;have f3:=froz r0 3;clear r0 r1 hb1 z1 ow1 gr1))
  go_region
  go_wp2_with fail
  rw [HWR.out]
  have T1:=row_put6 (row_far R1.out ⟨w.heap.size,3,none⟩ (.slice b1 (n1 - 1) d1) (by dsimp only;omega)) (.int .u64 t) (.int .u64 cm) (.bool so) (.slice b1 (n1 - 1) d1) (.slice a2 n2 c2) (.int .i64 ir)
  have A2:=(((Fam.nil (w.heap.size+1+1) (w.heap.size+1+1) w1).snoc (bRow b1 (n1 - 1) d1 (xs.drop 1)) _ w1.heap.size O1.out (Nat.le_refl _) (Nat.le_refl _) (Nat.le_refl _) (by have:=Z1.out;omega)).set ⟨w.heap.size,3,none⟩ (.slice b1 (n1 - 1) d1) (.inl (by dsimp only;omega))).put6 (w.heap.size+1) (.inl (by omega)) (.int .u64 t) (.int .u64 cm) (.bool so) (.slice b1 (n1 - 1) d1) (.slice a2 n2 c2) (.int .i64 ir)
  have B4:=below_put6 (B1.out.setCell (p:=⟨w.heap.size,3,none⟩) (Nat.le_refl _) (.slice b1 (n1 - 1) d1)) (g:=w.heap.size+1) (by omega) (.int .u64 t) (.int .u64 cm) (.bool so) (.slice b1 (n1 - 1) d1) (.slice a2 n2 c2) (.int .i64 ir)
  exact bodyPost_ret (results_tct8 Tryz.results63 _ _ _ _ _ _ _ rfl (row_drew T1) Tryz.underlying27 rfl dev_size) rfl ⟨b1,d1,rfl,own_low (ownsRow_below (A2.own _ (List.mem_singleton.2 rfl)) (Below.refl _ _).drew) (by omega),B4.drew⟩

set_option maxRecDepth 100000 in
set_option maxHeartbeats 1600000 in
theorem l8Store_3n (t cm:Int) (so:Bool) (a1:Option Addr) (n1 c1:Nat) (a2:Option Addr) (n2 c2:Nat) (ir:Int) (x:Int) (xs ys:List Int) (B E:Nat) (w:World) (hy:ys.length=n2) (hn2:n2 < 4096) (hBE:B≤E) (hE0:E≤w.heap.size) (hf:Fam B E w (devF a1 n1 c1 xs a2 n2 c2 ys)) :
 Calls Tryz.prog 65 #[.agg #[.int .u64 t,.int .u64 cm,.bool so,.slice a1 n1 c1,.slice a2 n2 c2,.int .i64 ir],.int .u64 268435456,.int .i64 1,.int .u64 x] w fun e w'=>∃ (f1:Option Addr) (g1:Nat),e=.returned (.tuple #[.agg #[.int .u64 t,.int .u64 cm,.bool so,.slice a1 n1 c1,.slice f1 (n2+1) g1,.int .i64 ir],.bool true])∧w'.ownsRow w.heap.size 5 1 (.slice f1 (n2+1) g1) (n2+1) ((ys ++ [IntKind.u8.wrap x]).map (Value.int .u8))∧Below w.heap.size w w':=by
 have hs:=hf.out_
 have hB2:∀ o1 o2,Below w.heap.size w ((w.alloc o1).alloc o2):=fun o1 o2=>below2n
 have dd:decide ((n2:Int) < 4096)=true:=by simp;omega
 have HS:Hid (∀ w',Below w.heap.size w w'→Sl .u8 w' a2 ys):=fun w' hb=>hs.below hb
 have HX:Hid (ys.length=n2∧n2 < 4096):=⟨hy,hn2⟩
 have HF:Hid (Fam B E w (devF a1 n1 c1 xs a2 n2 c2 ys)):=hf
 have HE2:Hid (B≤E∧E≤w.heap.size):=⟨hBE,hE0⟩
 have hE:=own_empty8 ((w.alloc (.cells #[.int .u64 t,.int .u64 cm,.bool so,.slice a1 n1 c1,.slice a2 n2 c2,.int .i64 ir] 27)).alloc (.cells #[.int .u64 0,.int .u64 0,.bool false,.slice none 0 0,.slice none 0 0,.int .i64 0] 27)) (w.heap.size+1+1) (by simp) (.cells #[] 5 (0,0)) rfl
 rw [World.size_alloc,World.size_alloc] at hE
 obtain ⟨i0,hi,hz0,hz1,hz2⟩:=info_parts Tryz.info5
 clear hs hf hBE hE0 hy hn2
 rw [show IntKind.u8.wrap x=x % 256 from IntKind.wrap_u8 x]
 go_enter Tryz.func65,Tryz.ntmps65
 go_wp2_with (first
  | (at_builtin;refine wpList_app8 rfl (.tmp 51) (.tmp 53) rfl (w.heap.size+1+1) _ rfl hE a2 n2 c2 ys rfl HX.out.1 (by have:=HX.out.2;omega) (HS.out _ ((hB2 _ _).alloc (hB2 _ _).size _)) (by simp) ?_;intro b1 d1 w1 ow1 gr1;obtain ⟨r0,r1,hb1,z1⟩:=app2 gr1;have R0:=dhid r0;have R1:=dhid r1;have B1:=dhid hb1;have Z1:=dhid z1;have O1:=dhid ow1;clear r0 r1 hb1 z1 ow1 gr1)
  | (at_builtin;refine wpList_append_own _ rfl (.tmp 54) (.tmp 57) 22 rfl (w.heap.size+1+1) 5 i0 (.int .u8 0) 1 1 Tryz.underlying22 hi hz0 hz1 hz2 rfl (by decide) _ n2 (ys.map (Value.int .u8)) rfl (ownsRow_below O1.out ((Below.refl _ _).alloc (Nat.le_refl _) _)) ⟨w1.heap.size,0,none⟩ 1 1 [.int .u8 (x % 256)] rfl rfl (one_new _ _) (by simp [Value.oneCell']) (by have:=HX.out.2;unfold maxLen;omega) (by have:=HX.out.2;omega) (by have:=Z1.out;rw [World.size_alloc];omega) ?_;intro v' w2 ow2 gr2 hnil2;obtain ⟨f1,g1,rfl⟩:=own_form ow2;obtain ⟨hr0,hr1,hb2⟩:=app3 R0.out R1.out O1.out gr2;have S0:=dhid hr0;have S1:=dhid hr1;have B2:=dhid (B1.out.trans (hb2.mono (by omega)));have Z2:=dhid hb2.size;have O2:=dhid ow2;obtain ⟨p0,p1,p2,p3,p4,p5⟩:=cells6 hr0;obtain ⟨s0,s1,s2,s3,s4,s5⟩:=cells6 hr1;obtain ⟨y0,y1,y2,y3,y4,y5⟩:=froz6 hr1;have f4:=froz hr0 4;clear hr0 hr1 hb2 ow2 gr2 hnil2))
 have T1:=row_put6 (row_far S1.out ⟨w.heap.size,4,none⟩ (.slice f1 (n2+1) g1) (by dsimp only;omega)) (.int .u64 t) (.int .u64 cm) (.bool so) (.slice a1 n1 c1) (.slice f1 (n2+1) g1) (.int .i64 ir)
 have O3:w2.ownsRow (w.heap.size+1+1) 5 1 (.slice f1 (n2+1) g1) (n2+1) ((ys ++ [x % 256]).map (Value.int .u8)):=by rw [List.map_append];exact O2.out
 have A2:=(((Fam.nil (w.heap.size+1+1) (w.heap.size+1+1) w2).snoc (bRow f1 (n2+1) g1 (ys ++ [x % 256])) _ w2.heap.size O3 (Nat.le_refl _) (Nat.le_refl _) (Nat.le_refl _) (by have:=Z1.out;have:=Z2.out;omega)).set ⟨w.heap.size,4,none⟩ (.slice f1 (n2+1) g1) (.inl (by dsimp only;omega))).put6 (w.heap.size+1) (.inl (by omega)) (.int .u64 t) (.int .u64 cm) (.bool so) (.slice a1 n1 c1) (.slice f1 (n2+1) g1) (.int .i64 ir)
 have B4:=below_put6 (B2.out.setCell (p:=⟨w.heap.size,4,none⟩) (Nat.le_refl _) (.slice f1 (n2+1) g1)) (g:=w.heap.size+1) (by omega) (.int .u64 t) (.int .u64 cm) (.bool so) (.slice a1 n1 c1) (.slice f1 (n2+1) g1) (.int .i64 ir)
 exact bodyPost_ret (results_ct8 Tryz.results65 _ _ _ _ _ _ _ rfl T1 Tryz.underlying27 rfl dev_size) rfl ⟨f1,g1,rfl,own_low (A2.own _ (List.mem_singleton.2 rfl)) (by omega),B4⟩

def Renew (w w':World) (a1:Option Addr) (c1:Nat) (xs:List Int) (a2:Option Addr) (c2:Nat) (ys:List Int) (b1:Option Addr) (d1:Nat) (zs:List Int) (b2:Option Addr) (d2:Nat) (us:List Int):Prop :=
 ((b1=a1∧d1=c1∧zs=xs)∧b2=a2∧d2=c2∧us=ys) ∨
 (w'.ownsRow w.heap.size 5 1 (.slice b1 zs.length d1) zs.length (zs.map (Value.int .u8))∧b2=a2∧d2=c2∧us=ys) ∨
 ((b1=a1∧d1=c1∧zs=xs)∧w'.ownsRow w.heap.size 5 1 (.slice b2 us.length d2) us.length (us.map (Value.int .u8))) ∨
 Fam w.heap.size w'.heap.size w' (devF b1 zs.length d1 zs b2 us.length d2 us)

theorem Renew.same (w w':World) (a1:Option Addr) (c1:Nat) (xs:List Int) (a2:Option Addr) (c2:Nat) (ys:List Int):Renew w w' a1 c1 xs a2 c2 ys a1 c1 xs a2 c2 ys:=.inl ⟨⟨rfl,rfl,rfl⟩,rfl,rfl,rfl⟩

theorem Renew.below {w w1 w':World} {a1:Option Addr} {c1:Nat} {xs:List Int} {a2:Option Addr} {c2:Nat} {ys:List Int} {b1:Option Addr} {d1:Nat} {zs:List Int} {b2:Option Addr} {d2:Nat} {us:List Int} (h:Renew w w1 a1 c1 xs a2 c2 ys b1 d1 zs b2 d2 us) (hb:Below w1.heap.size w1 w'):Renew w w' a1 c1 xs a2 c2 ys b1 d1 zs b2 d2 us:=by
 rcases h with h | ⟨h1,h2⟩ | ⟨h1,h2⟩ | h
 ·exact .inl h
 ·exact .inr (.inl ⟨ownsRow_below h1 hb,h2⟩)
 ·exact .inr (.inr (.inl ⟨h1,ownsRow_below h2 hb⟩))
 ·exact .inr (.inr (.inr ((h.below hb).low (Nat.le_refl _) hb.size)))

theorem l8Load_own (D:DV) (a1:Option Addr) (c1:Nat) (a2:Option Addr) (c2:Nat) (addr size:Int) (B E:Nat) (w:World) (h16:D.xs.length≤16) (hb:bytesOk D) (hBE:B≤E) (hE:E≤w.heap.size) (hf:Fam B E w (devF a1 D.xs.length c1 D.xs a2 D.ys.length c2 D.ys)) :
 Calls Tryz.prog 63 #[.agg #[.int .u64 D.t,.int .u64 D.cm,.bool D.so,.slice a1 D.xs.length c1,.slice a2 D.ys.length c2,.int .i64 D.ir],.int .u64 addr,.int .i64 size] w fun e w'=>∃ (b1:Option Addr) (d1:Nat) (b2:Option Addr) (d2:Nat),e=.returned (.tuple #[.int .u64 (ldV D (sel addr size)).1,.agg (dvc (ldV D (sel addr size)).2.1 b1 d1 b2 d2),.bool (ldV D (sel addr size)).2.2])∧Renew w w' a1 c1 D.xs a2 c2 D.ys b1 d1 (ldV D (sel addr size)).2.1.xs b2 d2 (ldV D (sel addr size)).2.1.ys∧Below w.heap.size w w':=by
 refine sel_cases addr size (fun k=>Calls Tryz.prog 63 #[.agg #[.int .u64 D.t,.int .u64 D.cm,.bool D.so,.slice a1 D.xs.length c1,.slice a2 D.ys.length c2,.int .i64 D.ir],.int .u64 addr,.int .i64 size] w fun e w'=>∃ (b1:Option Addr) (d1:Nat) (b2:Option Addr) (d2:Nat),e=.returned (.tuple #[.int .u64 (ldV D k).1,.agg (dvc (ldV D k).2.1 b1 d1 b2 d2),.bool (ldV D k).2.2])∧Renew w w' a1 c1 D.xs a2 c2 D.ys b1 d1 (ldV D k).2.1.xs b2 d2 (ldV D k).2.1.ys∧Below w.heap.size w w') ?_ ?_ ?_ ?_ ?_ ?_ ?_
 ·rintro rfl rfl
  exact (l8Load_0 D.t D.cm D.so a1 _ c1 a2 _ c2 D.ir w).mono fun e w' h=>⟨a1,c1,a2,c2,h.1,Renew.same _ _ _ _ _ _ _ _,h.2⟩
 ·rintro rfl rfl
  exact (l8Load_1 D.t D.cm D.so a1 _ c1 a2 _ c2 D.ir w).mono fun e w' h=>⟨a1,c1,a2,c2,h.1,Renew.same _ _ _ _ _ _ _ _,h.2⟩
 ·rintro rfl rfl
  exact (l8Load_2 D.t D.cm D.so a1 _ c1 a2 _ c2 D.ir w).mono fun e w' h=>⟨a1,c1,a2,c2,h.1,Renew.same _ _ _ _ _ _ _ _,h.2⟩
 ·rintro rfl rfl
  rcases Nat.eq_zero_or_pos D.xs.length with h0 | h0
  ·have hx:D.xs=[]:=List.length_eq_zero_iff.1 h0
   have h:=l8Load_3e D.t D.cm D.so a1 c1 a2 D.ys.length c2 D.ir w
   rw [h0]
   refine h.mono fun e w' h=>⟨a1,c1,a2,c2,?_,?_,h.2⟩
   ·rw [h.1]
    simp only [ldV,dvc,hx]
    rfl
   ·simp only [ldV,hx]
    exact Renew.same _ _ _ _ _ _ _ _
  ·obtain ⟨g,rfl,hc1,hc2⟩:=fam_shape hf h0
   unfold maxLen at hc2
   have hw:=byte_bd hb.1 0
   refine (l8Load_3n D.t D.cm D.so g 0 D.xs.length c1 a2 D.ys.length c2 D.ir D.xs D.ys B E w rfl rfl h0 h16 hc1 (by omega) hBE hE hf hw).mono fun e w' h=>?_
   obtain ⟨b1,d1,h1,h2,h3⟩:=h
   refine ⟨b1,d1,a2,c2,?_,.inr (.inl ⟨?_,rfl,rfl,?_⟩),h3⟩
   ·rw [h1]
    simp only [ldV,dvc,List.length_drop]
   ·simp only [ldV,List.length_drop]
    exact h2
   ·simp only [ldV]
 ·rintro rfl rfl
  exact (l8Load_4 D.t D.cm D.so a1 _ c1 a2 _ c2 D.ir w).mono fun e w' h=>⟨a1,c1,a2,c2,h.1,Renew.same _ _ _ _ _ _ _ _,h.2⟩
 ·rintro rfl rfl
  exact (l8Load_5 D.t D.cm D.so a1 _ c1 a2 _ c2 D.ir (by omega) w).mono fun e w' h=>⟨a1,c1,a2,c2,h.1,Renew.same _ _ _ _ _ _ _ _,h.2⟩
 ·intro k0 k1 k2 k3 k4 k5
  exact (l8Load_6 D.t D.cm D.so a1 _ c1 a2 _ c2 D.ir addr size k0 k1 k2 k3 k4 k5 w).mono fun e w' h=>⟨none,0,none,0,h.1,.inr (.inr (.inr (fam_zero _ _ _))),h.2⟩

theorem l8Store_4n (D:DV) (a1:Option Addr) (c1:Nat) (a2:Option Addr) (c2:Nat) (x:Int) (w:World) (q:Int) (hq:wrap64 (bits .and .u64 x 1)=q):Calls Tryz.prog 65 #[.agg #[.int .u64 D.t,.int .u64 D.cm,.bool D.so,.slice a1 D.xs.length c1,.slice a2 D.ys.length c2,.int .i64 D.ir],.int .u64 268435457,.int .i64 1,.int .u64 x] w fun e w'=>∃ (b1:Option Addr) (d1:Nat) (b2:Option Addr) (d2:Nat),e=.returned (.tuple #[.agg (dvc ((⟨D.t,D.cm,D.so,D.xs,D.ys,q⟩,true):DV × Bool).1 b1 d1 b2 d2),.bool ((⟨D.t,D.cm,D.so,D.xs,D.ys,q⟩,true):DV × Bool).2])∧Renew w w' a1 c1 D.xs a2 c2 D.ys b1 d1 ((⟨D.t,D.cm,D.so,D.xs,D.ys,q⟩,true):DV × Bool).1.xs b2 d2 ((⟨D.t,D.cm,D.so,D.xs,D.ys,q⟩,true):DV × Bool).1.ys∧Below w.heap.size w w':=by
 have h4:=l8Store_4 D.t D.cm D.so a1 D.xs.length c1 a2 D.ys.length c2 D.ir x w
 rw [hq] at h4
 exact h4.mono fun e w' h=>⟨a1,c1,a2,c2,h.1,Renew.same _ _ _ _ _ _ _ _,h.2⟩

theorem l8Store_own (D:DV) (a1:Option Addr) (c1:Nat) (a2:Option Addr) (c2:Nat) (addr size x:Int) (B E:Nat) (w:World) (h2:D.ys.length≤4096) (hBE:B≤E) (hE:E≤w.heap.size) (hf:Fam B E w (devF a1 D.xs.length c1 D.xs a2 D.ys.length c2 D.ys)) :
 Calls Tryz.prog 65 #[.agg #[.int .u64 D.t,.int .u64 D.cm,.bool D.so,.slice a1 D.xs.length c1,.slice a2 D.ys.length c2,.int .i64 D.ir],.int .u64 addr,.int .i64 size,.int .u64 x] w fun e w'=>∃ (b1:Option Addr) (d1:Nat) (b2:Option Addr) (d2:Nat),e=.returned (.tuple #[.agg (dvc (stV D x (sel addr size)).1 b1 d1 b2 d2),.bool (stV D x (sel addr size)).2])∧Renew w w' a1 c1 D.xs a2 c2 D.ys b1 d1 (stV D x (sel addr size)).1.xs b2 d2 (stV D x (sel addr size)).1.ys∧Below w.heap.size w w':=by
 refine sel_cases addr size (fun k=>Calls Tryz.prog 65 #[.agg #[.int .u64 D.t,.int .u64 D.cm,.bool D.so,.slice a1 D.xs.length c1,.slice a2 D.ys.length c2,.int .i64 D.ir],.int .u64 addr,.int .i64 size,.int .u64 x] w fun e w'=>∃ (b1:Option Addr) (d1:Nat) (b2:Option Addr) (d2:Nat),e=.returned (.tuple #[.agg (dvc (stV D x k).1 b1 d1 b2 d2),.bool (stV D x k).2])∧Renew w w' a1 c1 D.xs a2 c2 D.ys b1 d1 (stV D x k).1.xs b2 d2 (stV D x k).1.ys∧Below w.heap.size w w') ?_ ?_ ?_ ?_ ?_ ?_ ?_
 ·rintro rfl rfl
  rw [stV_0]
  exact (l8Store_0 D.t D.cm D.so a1 _ c1 a2 _ c2 D.ir x w).mono fun e w' h=>⟨a1,c1,a2,c2,h.1,Renew.same _ _ _ _ _ _ _ _,h.2⟩
 ·rintro rfl rfl
  rw [stV_1]
  exact (l8Store_1 D.t D.cm D.so a1 _ c1 a2 _ c2 D.ir x w).mono fun e w' h=>⟨a1,c1,a2,c2,h.1,Renew.same _ _ _ _ _ _ _ _,h.2⟩
 ·rintro rfl rfl
  rw [stV_2]
  exact (l8Store_2 D.t D.cm D.so a1 _ c1 a2 _ c2 D.ir x w).mono fun e w' h=>⟨a1,c1,a2,c2,h.1,Renew.same _ _ _ _ _ _ _ _,h.2⟩
 ·rintro rfl rfl
  by_cases hl:D.ys.length < 4096
  ·rw [stV_3r D x hl]
   refine (l8Store_3n D.t D.cm D.so a1 _ c1 a2 _ c2 D.ir x D.xs D.ys B E w rfl hl hBE hE hf).mono fun e w' h=>?_
   obtain ⟨f1,g1,h1,h2,h3⟩:=h
   have el:(D.ys ++ [IntKind.u8.wrap x]).length=D.ys.length+1:=by rw [List.length_append];rfl
   refine ⟨a1,c1,f1,g1,?_,.inr (.inr (.inl ⟨⟨rfl,rfl,rfl⟩,?_⟩)),h3⟩
   ·rw [h1]
    dsimp only [dvc]
    rw [el]
   ·dsimp only
    rw [el]
    exact h2
  ·rw [stV_3f D x hl]
   exact (l8Store_3f D.t D.cm D.so a1 _ c1 a2 _ c2 D.ir x hl h2 w).mono fun e w' h=>⟨a1,c1,a2,c2,h.1,Renew.same _ _ _ _ _ _ _ _,h.2⟩
 ·rintro rfl rfl
  rw [stV_4]
  exact l8Store_4n D a1 c1 a2 c2 x w _ rfl
 ·rintro rfl rfl
  rw [stV_5]
  exact (l8Store_5 D.t D.cm D.so a1 _ c1 a2 _ c2 D.ir x w).mono fun e w' h=>⟨a1,c1,a2,c2,h.1,Renew.same _ _ _ _ _ _ _ _,h.2⟩
 ·intro k0 k1 k2 k3 k4 k5
  rw [stV_6]
  exact (l8Store_6 D.t D.cm D.so a1 _ c1 a2 _ c2 D.ir x addr size k0 k1 k2 k3 k4 k5 w).mono fun e w' h=>⟨none,0,none,0,h.1,.inr (.inr (.inr (fam_zero _ _ _))),h.2⟩

end Go.Proofs.YtkhofppmeoooaaaGreatDoor
