/- Several texts in one, each with its own head. What is proved: what the parts say. Conditions: theirs. -/
import Derived.Test.YtaomljdbndajgaaGreatDoorBtFJ
import Derived.Test.YtaomljdbndajgaaGreatDoorFold4J
import Derived.Test.YtaomljdbndajgaaGreatDoorPrsHJ
import Derived.Carry
set_option linter.unusedVariables false
set_option linter.unusedSimpArgs false
set_option maxRecDepth 100000
set_option maxHeartbeats 8000000
namespace Go.Proofs.YtaomljdbndajgaaGreatDoor
open Go.ChangeShapes Go.WideShapes Go.ChangeAt Go.RowKit
theorem samePanes_eq (L1 L2 : List Po) (u1 u2 : Value) (w : World) (h1 : RowG w u1 4 L1.length (rowOf cellsPo L1)) (v1 : ∀ o ∈ L1,RowG w o.v 2 o.vs.length (rowV o.vs)) (h2 : RowG w u2 4 L2.length (rowOf cellsPo L2)) (v2 : ∀ o ∈ L2,RowG w o.v 2 o.vs.length (rowV o.vs))
  (hl : L1.length ≤ 1000) (hvl : ∀ o ∈ L1,o.vs.length ≤ 1000) (he : L1.map outO = L2.map outO) :
  Calls Tryz.prog 12 #[u1,u2] w fun e w' => e = .returned (.bool true) ∧ Below w.heap.size w w':=by
 have hlen : L2.length = L1.length:=by
  have:=congrArg List.length he
  simp at this
  exact this.symm
 obtain ⟨a1,d1,rfl⟩:=rowG_shape h1
 obtain ⟨a2,d2,rfl⟩:=rowG_shape h2
 have H1:=hidE h1
 have H2:=hidE h2
 have V1:=hidE v1
 have V2:=hidE v2
 have HE : Hid (∀ m (a : m < L1.length) (b : m < L2.length),outO L1[m] = outO L2[m]):=fun m a b => by
  have e : (L1.map outO)[m]? = (L2.map outO)[m]?:=by rw [he]
  rw [List.getElem?_map,List.getElem?_map,List.getElem?_eq_getElem a,List.getElem?_eq_getElem b] at e
  simpa using e
 have HVL:=hidE hvl
 have HLEN:=hidE hlen
 have bne : ((L1.length : Int) != (L1.length : Int)) = false:=by simp
 rw [hlen]
 clear h1 h2 v1 v2 he hvl hlen
 go_enter Tryz.func12,Tryz.ntmps12
 go_wp2_with fail
 go_loopw [5] (fun i wr => ∃ m : Nat,m ≤ L1.length ∧ i = .int .i64 m ∧ Hid (Below w.heap.size w wr)) (fun i _ => L1.length - (intOf i).toNat)
 case atStart => exact ⟨0,Nat.zero_le _,rfl,Below.refl _ _⟩
 case round =>
  obtain ⟨m,hm,rfl,HW⟩:=hrel
  by_cases hlt : m < L1.length
  ·have hlt2 : m < L2.length:=by rw [HLEN.out];exact hlt
   obtain ⟨g1,o1,ha1,hc1,p1,p2,lg1⟩:=rowOf_val cellsPo_len H1.out m hlt
   obtain ⟨g2,o2,ha2,hc2,q1,q2,lg2⟩:=rowOf_val cellsPo_len H2.out m hlt2
   subst ha1 ha2
   have r1:=V1.out L1[m] (List.getElem_mem hlt)
   have r2:=V2.out L2[m] (List.getElem_mem hlt2)
   have ee:=HE.out m hlt hlt2
   have hv9:=HVL.out L1[m] (List.getElem_mem hlt)
   generalize L1[m] = x1 at *
   generalize L2[m] = x2 at *
   obtain ⟨st,k,n,vs,z1⟩:=x1
   obtain ⟨st2,k2,n2,vs2,z2⟩:=x2
   have ee : (st,k,n,vs) = (st2,k2,n2,vs2):=ee
   simp only [Prod.mk.injEq] at ee
   obtain ⟨rfl,rfl,rfl,rfl⟩:=ee
   obtain ⟨b1,e1,hz1⟩:=rowG_shape r1
   obtain ⟨b2,e2,hz2⟩:=rowG_shape r2
   simp only at hz1 hz2 hv9
   subst hz1 hz2
   have x0 : w.cell? ⟨g1,o1 + m * 4,none⟩ = some (.int .i64 st):=hc1 0 (by omega)
   have x1 : w.cell? ⟨g1,o1 + m * 4 + 1,none⟩ = some (.int .i64 k):=hc1 1 (by omega)
   have x2 : w.cell? ⟨g1,o1 + m * 4 + 2,none⟩ = some (.int .i64 n):=hc1 2 (by omega)
   have x3 : w.cell? ⟨g1,o1 + m * 4 + 3,none⟩ = some (.slice b1 vs.length e1):=hc1 3 (by omega)
   have y0 : w.cell? ⟨g2,o2 + m * 4,none⟩ = some (.int .i64 st):=hc2 0 (by omega)
   have y1 : w.cell? ⟨g2,o2 + m * 4 + 1,none⟩ = some (.int .i64 k):=hc2 1 (by omega)
   have y2 : w.cell? ⟨g2,o2 + m * 4 + 2,none⟩ = some (.int .i64 n):=hc2 2 (by omega)
   have y3 : w.cell? ⟨g2,o2 + m * 4 + 3,none⟩ = some (.slice b2 vs.length e2):=hc2 3 (by omega)
   have SP : Hid (∀ w',Below w.heap.size w w' → Calls Tryz.prog 29 #[.agg #[.int .i64 st,.int .i64 k,.int .i64 n,.slice b1 vs.length e1],.agg #[.int .i64 st,.int .i64 k,.int .i64 n,.slice b2 vs.length e2]] w' fun e w'' => e = .returned (.bool true) ∧ Below w'.heap.size w' w''):=fun w' hb => samePane_any st k n vs _ _ w' hv9 (rowG_below r1 hb) (rowG_below r2 hb)
   unfold maxLen at p2 q2
   rw [HLEN.out] at q1
   clear hc1 hc2 r1 r2
   go_wp2_with fail
   refine wp_region_held (S:=fun w' => Below w.heap.size w w') (by kernel_rfl) ?_
   have hS : Below w.heap.size w ({ wr with drawn:=wr.drawn + 1 } : World):=HW.out.drew
   generalize ({ wr with drawn:=wr.drawn + 1 } : World) = wd at *
   clear HW
   refine held_take (i:=0) (v:=.slice (some ⟨g1,o1,none⟩) L1.length d1) (L:=#[true,false,false,false,false,false,false,false,false,false]) rfl (by kernel_rfl) (by kernel_rfl) (by kernel_rfl) (fun c a w h => h) (Or.inl ⟨by kernel_rfl,fun wq hq => by go_simp⟩) hS (by kernel_rfl) ?_
   refine held_take (i:=1) (v:=.int .i64 (m : Int)) (L:=#[true,true,false,false,false,false,false,false,false,false]) rfl (by kernel_rfl) (by kernel_rfl) (by kernel_rfl) (fun c a w h => h) (Or.inl ⟨by kernel_rfl,fun wq hq => by go_simp⟩) hS (by kernel_rfl) ?_
   refine held_take (i:=2) (v:=.pointer (some ⟨g1,o1 + m * 4,none⟩)) (L:=#[true,true,true,false,false,false,false,false,false,false]) rfl (by kernel_rfl) (by kernel_rfl) (by kernel_rfl) (fun c a w h => h) (Or.inl ⟨by kernel_rfl,fun wq hq => by go_simp⟩) hS (by kernel_rfl) ?_
   refine held_take (i:=3) (v:=.agg #[.int .i64 st,.int .i64 k,.int .i64 n,.slice b1 vs.length e1]) (L:=#[true,true,true,true,false,false,false,false,false,false]) rfl (by kernel_rfl) (by kernel_rfl) (by kernel_rfl) (fun c a w h => h) (Or.inl ⟨by kernel_rfl,fun wq hq => by have q0:=hq.cell (p:=⟨g1,o1 + m * 4,none⟩) lg1;rw [x0] at q0;have q1:=hq.cell (p:=⟨g1,o1 + m * 4 + 1,none⟩) lg1;rw [x1] at q1;have q2:=hq.cell (p:=⟨g1,o1 + m * 4 + 2,none⟩) lg1;rw [x2] at q2;have q3:=hq.cell (p:=⟨g1,o1 + m * 4 + 3,none⟩) lg1;rw [x3] at q3;go_simp⟩) hS (by kernel_rfl) ?_
   refine held_take (i:=4) (v:=.slice (some ⟨g2,o2,none⟩) L1.length d2) (L:=#[true,true,true,true,true,false,false,false,false,false]) rfl (by kernel_rfl) (by kernel_rfl) (by kernel_rfl) (fun c a w h => h) (Or.inl ⟨by kernel_rfl,fun wq hq => by go_simp⟩) hS (by kernel_rfl) ?_
   refine held_take (i:=5) (v:=.int .i64 (m : Int)) (L:=#[true,true,true,true,true,true,false,false,false,false]) rfl (by kernel_rfl) (by kernel_rfl) (by kernel_rfl) (fun c a w h => h) (Or.inl ⟨by kernel_rfl,fun wq hq => by go_simp⟩) hS (by kernel_rfl) ?_
   refine held_take (i:=6) (v:=.pointer (some ⟨g2,o2 + m * 4,none⟩)) (L:=#[true,true,true,true,true,true,true,false,false,false]) rfl (by kernel_rfl) (by kernel_rfl) (by kernel_rfl) (fun c a w h => h) (Or.inl ⟨by kernel_rfl,fun wq hq => by go_simp⟩) hS (by kernel_rfl) ?_
   refine held_take (i:=7) (v:=.agg #[.int .i64 st,.int .i64 k,.int .i64 n,.slice b2 vs.length e2]) (L:=#[true,true,true,true,true,true,true,true,false,false]) rfl (by kernel_rfl) (by kernel_rfl) (by kernel_rfl) (fun c a w h => h) (Or.inl ⟨by kernel_rfl,fun wq hq => by have q0:=hq.cell (p:=⟨g2,o2 + m * 4,none⟩) lg2;rw [y0] at q0;have q1:=hq.cell (p:=⟨g2,o2 + m * 4 + 1,none⟩) lg2;rw [y1] at q1;have q2:=hq.cell (p:=⟨g2,o2 + m * 4 + 2,none⟩) lg2;rw [y2] at q2;have q3:=hq.cell (p:=⟨g2,o2 + m * 4 + 3,none⟩) lg2;rw [y3] at q3;go_simp⟩) hS (by kernel_rfl) ?_
   refine held_go (i:=8) (L:=#[true,true,true,true,true,true,true,true,true,false]) (by kernel_rfl) rfl (by kernel_rfl) (by kernel_rfl) ?_
   intro K' hK
   go_simp
   refine (SP.out _ hS).mono ?_
   rintro e w1 ⟨rfl,hb⟩
   have hS1:=hS.trans (hb.mono hS.size)
   refine hK _ _ ⟨hS1,?_⟩
   clear hK hb
   refine held_go (i:=9) (L:=#[true,true,true,true,true,true,true,true,true,true]) (by kernel_rfl) rfl (by kernel_rfl) (by kernel_rfl) ?_
   intro K' hK
   go_simp
   refine hK _ _ ⟨hS1,?_⟩
   clear hK
   refine wpAnyH_done (by kernel_rfl) ?_ _
   have HP:=hidE hS1
   clear hS hS1 SP
   go_wp2_with fail
   go_roundw
   case rel => exact ⟨m + 1,by omega,by go_num,HP⟩
   case measure => simp [intOf];omega
  ·have hml : m = L1.length:=by omega
   subst hml
   go_wp2_with fail
   go_ret
   exact ⟨rfl,HW.out⟩
theorem signs_any (w : World) : Calls Tryz.prog 31 #[] w fun r w' => r = .returned (.map (some w.heap.size)) ∧ Below w.heap.size w w' ∧ MapL w' w.heap.size sgL:=by
 have M0:=mapL_new w
 have B0:=below_alloc w (.map #[] 0)
 have mk : (Instr.makeMap 78 none).run Tryz.prog w = .ok (.map (some w.heap.size)) (w.alloc (.map #[] 0)):=rfl
 generalize w.heap.size = g at *
 generalize w.alloc (.map #[] 0) = w0 at *
 obtain ⟨w1,r0,M1,K0⟩:=insS M0 wOr ⟨0,10,false,false⟩ (by decide)
 have B1 : Below g w w1:=B0.trans (keptB_below K0 (Nat.le_of_lt (mapL_lt M0)) (fun k e => by omega))
 have i0 : (Instr.mapUpdate 78 (.map (some g)) (.string ⟨#[111,114]⟩) (.agg #[.int .i64 0,.int .i64 10,.bool false,.bool false])).run Tryz.prog w0 = .ok () w1:=r0
 obtain ⟨w2,r1,M2,K1⟩:=insS M1 wAnd ⟨1,9,false,false⟩ (by decide)
 have B2 : Below g w w2:=B1.trans (keptB_below K1 (Nat.le_of_lt (mapL_lt M1)) (fun k e => by omega))
 have i1 : (Instr.mapUpdate 78 (.map (some g)) (.string ⟨#[97,110,100]⟩) (.agg #[.int .i64 1,.int .i64 9,.bool false,.bool false])).run Tryz.prog w1 = .ok () w2:=r1
 obtain ⟨w3,r2,M3,K2⟩:=insS M2 wLt ⟨2,11,false,false⟩ (by decide)
 have B3 : Below g w w3:=B2.trans (keptB_below K2 (Nat.le_of_lt (mapL_lt M2)) (fun k e => by omega))
 have i2 : (Instr.mapUpdate 78 (.map (some g)) (.string ⟨#[60]⟩) (.agg #[.int .i64 2,.int .i64 11,.bool false,.bool false])).run Tryz.prog w2 = .ok () w3:=r2
 obtain ⟨w4,r3,M4,K3⟩:=insS M3 wGt ⟨2,11,true,false⟩ (by decide)
 have B4 : Below g w w4:=B3.trans (keptB_below K3 (Nat.le_of_lt (mapL_lt M3)) (fun k e => by omega))
 have i3 : (Instr.mapUpdate 78 (.map (some g)) (.string ⟨#[62]⟩) (.agg #[.int .i64 2,.int .i64 11,.bool true,.bool false])).run Tryz.prog w3 = .ok () w4:=r3
 obtain ⟨w5,r4,M5,K4⟩:=insS M4 wLe ⟨2,11,true,true⟩ (by decide)
 have B5 : Below g w w5:=B4.trans (keptB_below K4 (Nat.le_of_lt (mapL_lt M4)) (fun k e => by omega))
 have i4 : (Instr.mapUpdate 78 (.map (some g)) (.string ⟨#[60,61]⟩) (.agg #[.int .i64 2,.int .i64 11,.bool true,.bool true])).run Tryz.prog w4 = .ok () w5:=r4
 obtain ⟨w6,r5,M6,K5⟩:=insS M5 wGe ⟨2,11,false,true⟩ (by decide)
 have B6 : Below g w w6:=B5.trans (keptB_below K5 (Nat.le_of_lt (mapL_lt M5)) (fun k e => by omega))
 have i5 : (Instr.mapUpdate 78 (.map (some g)) (.string ⟨#[62,61]⟩) (.agg #[.int .i64 2,.int .i64 11,.bool false,.bool true])).run Tryz.prog w5 = .ok () w6:=r5
 obtain ⟨w7,r6,M7,K6⟩:=insS M6 wEq ⟨2,12,false,false⟩ (by decide)
 have B7 : Below g w w7:=B6.trans (keptB_below K6 (Nat.le_of_lt (mapL_lt M6)) (fun k e => by omega))
 have i6 : (Instr.mapUpdate 78 (.map (some g)) (.string ⟨#[61]⟩) (.agg #[.int .i64 2,.int .i64 12,.bool false,.bool false])).run Tryz.prog w6 = .ok () w7:=r6
 obtain ⟨w8,r7,M8,K7⟩:=insS M7 wNe ⟨2,12,false,true⟩ (by decide)
 have B8 : Below g w w8:=B7.trans (keptB_below K7 (Nat.le_of_lt (mapL_lt M7)) (fun k e => by omega))
 have i7 : (Instr.mapUpdate 78 (.map (some g)) (.string ⟨#[60,62]⟩) (.agg #[.int .i64 2,.int .i64 12,.bool false,.bool true])).run Tryz.prog w7 = .ok () w8:=r7
 obtain ⟨w9,r8,M9,K8⟩:=insS M8 wPlus ⟨3,6,false,false⟩ (by decide)
 have B9 : Below g w w9:=B8.trans (keptB_below K8 (Nat.le_of_lt (mapL_lt M8)) (fun k e => by omega))
 have i8 : (Instr.mapUpdate 78 (.map (some g)) (.string ⟨#[43]⟩) (.agg #[.int .i64 3,.int .i64 6,.bool false,.bool false])).run Tryz.prog w8 = .ok () w9:=r8
 obtain ⟨w10,r9,M10,K9⟩:=insS M9 wMinus ⟨3,7,false,false⟩ (by decide)
 have B10 : Below g w w10:=B9.trans (keptB_below K9 (Nat.le_of_lt (mapL_lt M9)) (fun k e => by omega))
 have i9 : (Instr.mapUpdate 78 (.map (some g)) (.string ⟨#[45]⟩) (.agg #[.int .i64 3,.int .i64 7,.bool false,.bool false])).run Tryz.prog w9 = .ok () w10:=r9
 obtain ⟨w11,r10,M11,K10⟩:=insS M10 wStar ⟨4,8,false,false⟩ (by decide)
 have B11 : Below g w w11:=B10.trans (keptB_below K10 (Nat.le_of_lt (mapL_lt M10)) (fun k e => by omega))
 have i10 : (Instr.mapUpdate 78 (.map (some g)) (.string ⟨#[42]⟩) (.agg #[.int .i64 4,.int .i64 8,.bool false,.bool false])).run Tryz.prog w10 = .ok () w11:=r10
 have MZ : MapL w11 g sgL:=M11
 have MM:=hidE MZ
 have BB:=hidE B11
 clear M0 B0 M1 B1 M2 B2 M3 B3 M4 B4 M5 B5 M6 B6 M7 B7 M8 B8 M9 B9 M10 B10 M11 B11 MZ K0 r0 K1 r1 K2 r2 K3 r3 K4 r4 K5 r5 K6 r6 K7 r7 K8 r8 K9 r9 K10 r10
 go_enter Tryz.func31,Tryz.ntmps31
 go_wp2_with fail
 go_ret
 exact ⟨rfl,BB.out,MM.out⟩
end Go.Proofs.YtaomljdbndajgaaGreatDoor
