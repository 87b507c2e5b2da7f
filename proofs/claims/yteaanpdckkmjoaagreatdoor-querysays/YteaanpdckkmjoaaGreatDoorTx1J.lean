/- Several texts in one, each with its own head. What is proved: what the parts say. Conditions: theirs. -/
import Derived.Test.YteaanpdckkmjoaaGreatDoorSameJ
import Derived.Test.YteaanpdckkmjoaaGreatDoorParsePureJ
import Derived.Test.YteaanpdckkmjoaaGreatDoorPrsNJ
import Derived.Lib.ItoaLen
set_option linter.unusedVariables false
set_option linter.unusedSimpArgs false
set_option maxRecDepth 100000
set_option maxHeartbeats 8000000
namespace Go.Proofs.YteaanpdckkmjoaaGreatDoor
open Go.ChangeShapes Go.WideShapes Go.ChangeAt Go.RowKit
theorem ctext_neg (v : Int) (h0 : v < 0) (h1 : -1000000000 ≤ v) (w : World) (ht : Tabs w) :
  Calls Tryz.prog 70 #[.agg #[.int .i64 1,.int .i64 v]] w fun e w' => e = .returned (.string (cstB 1 v)) ∧ Below w.heap.size w w':=by
 have ba:=below_alloc w (.cells #[.int .i64 1,.int .i64 v] 89)
 have BA:=hidE ba
 have NG:=neg_any 1 v (w.alloc (.cells #[.int .i64 1,.int .i64 v] 89)) h1 (by omega)
 have e1 : negV 1 v = (1,-v):=by unfold negV numV numK numN;rw [if_pos rfl,if_pos (by omega),if_pos (by omega)]
 rw [e1] at NG
 have NGH:=hidE NG
 have TN:=hidE (fun w' (ht : Tabs w') => text_num (-v) w' (by omega) (by omega) ht)
 have T0:=hidE (ht.below ba)
 have d0 : decide (v < 0) = true:=by simpa using h0
 have ec : Hid (cstB 1 v = ⟨#[40,48,32,45,32]⟩ ++ ⟨(Lib.itoa (-v)).toArray⟩ ++ ⟨#[41]⟩):=by show _ = _;unfold cstB;rw [if_pos h0]
 have hsz : (⟨(Lib.itoa (-v)).toArray⟩ : ByteArray).size ≤ 21:=by
  show (Lib.itoa (-v)).toArray.size ≤ 21
  rw [List.size_toArray]
  exact Lib.itoa_length_le _ (by omega) (by omega)
 generalize (⟨(Lib.itoa (-v)).toArray⟩ : ByteArray) = tx at *
 clear NG e1 ht ba h1
 go_enter Tryz.func70,Tryz.ntmps70
 go_wp2_with fail
 refine NGH.out.mono ?_
 rintro r w1 ⟨rfl,hb⟩
 have B1:=hidE (BA.out.trans (hb.mono BA.out.size))
 have TX:=hidE (TN.out w1 (T0.out.below hb))
 clear hb NGH TN T0
 go_wp2_with fail
 refine TX.out.mono ?_
 rintro r w2 ⟨rfl,hb⟩
 have B2:=hidE (B1.out.trans (hb.mono B1.out.size))
 clear hb TX
 go_wp2_with fail
 go_ret
 rw [ec.out]
 exact ⟨rfl,B2.out⟩
theorem ctext_pos (k v : Int) (h0 : 0 ≤ v) (w : World) (HT : ∀ w',Below w.heap.size w w' → Calls Tryz.prog 91 #[.agg #[.int .i64 k,.int .i64 v]] w' fun e w'' => e = .returned (.string ⟨(textB k v).toArray⟩) ∧ Below w'.heap.size w' w'') :
  Calls Tryz.prog 70 #[.agg #[.int .i64 k,.int .i64 v]] w fun e w' => e = .returned (.string (cstB k v)) ∧ Below w.heap.size w w':=by
 have ba:=below_alloc w (.cells #[.int .i64 k,.int .i64 v] 89)
 have BA:=hidE ba
 have TX:=hidE (HT _ ba)
 have d0 : ¬ v < 0:=by omega
 have ec : Hid (cstB k v = ⟨(textB k v).toArray⟩):=by show _ = _;unfold cstB;rw [if_neg d0]
 generalize (⟨(textB k v).toArray⟩ : ByteArray) = tx at *
 clear HT ba h0
 go_enter Tryz.func70,Tryz.ntmps70
 go_wp2_with fail
 refine TX.out.mono ?_
 rintro r w2 ⟨rfl,hb⟩
 have B2:=hidE (BA.out.trans (hb.mono BA.out.size))
 clear hb TX
 go_wp2_with fail
 go_ret
 rw [ec.out]
 exact ⟨rfl,B2.out⟩
theorem ctext_any (k v : Int) (hv : vokB k v = true) (w : World) (ht : Tabs w) :
  Calls Tryz.prog 70 #[.agg #[.int .i64 k,.int .i64 v]] w fun e w' => e = .returned (.string (cstB k v)) ∧ Below w.heap.size w w':=by
 have h:=of_decide_eq_true hv
 by_cases h0 : v < 0
 ·obtain rfl : k = 1:=by omega
  exact ctext_neg v h0 (by omega) w ht
 ·refine ctext_pos k v (by omega) w (fun w' hb => ?_)
  rcases h with ⟨rfl,rfl⟩ | ⟨rfl,-,h2⟩ | ⟨rfl,rfl | rfl⟩
  ·exact text_N w'
  ·exact text_num v w' (by omega) (by omega) (ht.below hb)
  ·exact text_F w'
  ·exact text_T w'
theorem sign_6 (w : World) : Calls Tryz.prog 71 #[.int .i64 6] w fun e w' => e = .returned (.string (sgnB 6)) ∧ w' = w:=by
 go_enter Tryz.func71,Tryz.ntmps71
 go_wp2_with fail
 go_ret
 exact ⟨rfl,rfl⟩
theorem sign_7 (w : World) : Calls Tryz.prog 71 #[.int .i64 7] w fun e w' => e = .returned (.string (sgnB 7)) ∧ w' = w:=by
 go_enter Tryz.func71,Tryz.ntmps71
 go_wp2_with fail
 go_ret
 exact ⟨rfl,rfl⟩
theorem sign_8 (w : World) : Calls Tryz.prog 71 #[.int .i64 8] w fun e w' => e = .returned (.string (sgnB 8)) ∧ w' = w:=by
 go_enter Tryz.func71,Tryz.ntmps71
 go_wp2_with fail
 go_ret
 exact ⟨rfl,rfl⟩
theorem sign_9 (w : World) : Calls Tryz.prog 71 #[.int .i64 9] w fun e w' => e = .returned (.string (sgnB 9)) ∧ w' = w:=by
 go_enter Tryz.func71,Tryz.ntmps71
 go_wp2_with fail
 go_ret
 exact ⟨rfl,rfl⟩
theorem sign_10 (w : World) : Calls Tryz.prog 71 #[.int .i64 10] w fun e w' => e = .returned (.string (sgnB 10)) ∧ w' = w:=by
 go_enter Tryz.func71,Tryz.ntmps71
 go_wp2_with fail
 go_ret
 exact ⟨rfl,rfl⟩
theorem sign_11 (w : World) : Calls Tryz.prog 71 #[.int .i64 11] w fun e w' => e = .returned (.string (sgnB 11)) ∧ w' = w:=by
 go_enter Tryz.func71,Tryz.ntmps71
 go_wp2_with fail
 go_ret
 exact ⟨rfl,rfl⟩
theorem sign_12 (w : World) : Calls Tryz.prog 71 #[.int .i64 12] w fun e w' => e = .returned (.string (sgnB 12)) ∧ w' = w:=by
 go_enter Tryz.func71,Tryz.ntmps71
 go_wp2_with fail
 go_ret
 exact ⟨rfl,rfl⟩
theorem two_cases {op : Int} (h : ar op = 2) : op = 6 ∨ op = 7 ∨ op = 8 ∨ op = 9 ∨ op = 10 ∨ op = 11 ∨ op = 12:=by
 unfold ar at h
 split at h
 ·omega
 ·split at h
  ·omega
  ·split at h
   ·omega
   ·omega
theorem one_cases {op : Int} (h : ar op = 1) : op = 3 ∨ op = 4 ∨ op = 5:=by
 unfold ar at h
 split at h
 ·omega
 ·split at h
  ·omega
  ·split at h
   ·omega
   ·omega
theorem sign_any (op : Int) (h : ar op = 2) (w : World) : Calls Tryz.prog 71 #[.int .i64 op] w fun e w' => e = .returned (.string (sgnB op)) ∧ w' = w:=by
 rcases two_cases h with rfl | rfl | rfl | rfl | rfl | rfl | rfl
 ·exact sign_6 w
 ·exact sign_7 w
 ·exact sign_8 w
 ·exact sign_9 w
 ·exact sign_10 w
 ·exact sign_11 w
 ·exact sign_12 w
def TxR (w : World) (v : Value) (vs : List V2) : Prop:=RowG w v 1 vs.length (vs.map fun p => Value.string (D p))
theorem txR_at {w : World} {ao : Option Addr} {cap : Nat} {vs : List V2} (h : TxR w (.slice ao vs.length cap) vs) (i : Nat) (hi : i < vs.length) : ∃ g off,ao = some ⟨g,off,none⟩ ∧ w.cell? ⟨g,off + i,none⟩ = some (.string (D vs[i])) ∧ vs.length ≤ cap ∧ cap ≤ maxLen ∧ g < w.heap.size:=by
 obtain ⟨h0,h⟩:=h
 rcases h with ⟨-,h⟩ | ⟨g,off,cap',e,h1,h2,h3,h4⟩
 ·omega
 ·simp only [Value.slice.injEq] at e
  obtain ⟨rfl,-,rfl⟩:=e
  refine ⟨g,off,rfl,?_,h1,h2,h3⟩
  rw [h4 i (by omega)]
  simp [hi]
theorem node_1 (x y nn k nv : Int) (hv : vokB k nv = true) (a : Option Addr) (n c : Nat) (w : World) (ht : Tabs w) :
  Calls Tryz.prog 46 #[.agg #[.int .i64 1,.int .i64 x,.int .i64 y,.int .i64 nn,.int .i64 k,.int .i64 nv],.slice a n c] w fun e w' => e = .returned (.string (cstB k nv)) ∧ Below w.heap.size w w':=by
 have ba:=below_alloc w (.cells #[.int .i64 1,.int .i64 x,.int .i64 y,.int .i64 nn,.int .i64 k,.int .i64 nv] 91)
 have BA:=hidE ba
 have CT:=hidE (ctext_any k nv hv _ (ht.below ba))
 generalize cstB k nv = tx at *
 clear ba ht hv
 go_enter Tryz.func46,Tryz.ntmps46
 go_wp2_with fail
 refine CT.out.mono ?_
 rintro r w1 ⟨rfl,hb⟩
 have B1:=hidE (BA.out.trans (hb.mono BA.out.size))
 clear hb CT
 go_wp2_with fail
 go_ret
 exact ⟨rfl,B1.out⟩
theorem node_20 (x y k nv : Int) (a : Option Addr) (n c : Nat) (w : World) (ht : TabQ w) :
  Calls Tryz.prog 46 #[.agg #[.int .i64 2,.int .i64 x,.int .i64 y,.int .i64 0,.int .i64 k,.int .i64 nv],.slice a n c] w fun e w' => e = .returned (.string (fldB 0)) ∧ Below w.heap.size w w':=by
 have ba:=below_alloc w (.cells #[.int .i64 2,.int .i64 x,.int .i64 y,.int .i64 0,.int .i64 k,.int .i64 nv] 91)
 have BA:=hidE ba
 have g0:=(ht.below ba).f0
 have hz:=ht.t.sz
 have hz0 : 0 < w.heap.size:=by omega
 clear ba ht
 go_enter Tryz.func46,Tryz.ntmps46
 go_wp2_with fail
 go_ret
 exact ⟨rfl,BA.out⟩
theorem node_21 (x y k nv : Int) (a : Option Addr) (n c : Nat) (w : World) (ht : TabQ w) :
  Calls Tryz.prog 46 #[.agg #[.int .i64 2,.int .i64 x,.int .i64 y,.int .i64 1,.int .i64 k,.int .i64 nv],.slice a n c] w fun e w' => e = .returned (.string (fldB 1)) ∧ Below w.heap.size w w':=by
 have ba:=below_alloc w (.cells #[.int .i64 2,.int .i64 x,.int .i64 y,.int .i64 1,.int .i64 k,.int .i64 nv] 91)
 have BA:=hidE ba
 have g1:=(ht.below ba).f1
 have hz:=ht.t.sz
 have hz0 : 0 < w.heap.size:=by omega
 clear ba ht
 go_enter Tryz.func46,Tryz.ntmps46
 go_wp2_with fail
 go_ret
 exact ⟨rfl,BA.out⟩
theorem node_22 (x y k nv : Int) (a : Option Addr) (n c : Nat) (w : World) (ht : TabQ w) :
  Calls Tryz.prog 46 #[.agg #[.int .i64 2,.int .i64 x,.int .i64 y,.int .i64 2,.int .i64 k,.int .i64 nv],.slice a n c] w fun e w' => e = .returned (.string (fldB 2)) ∧ Below w.heap.size w w':=by
 have ba:=below_alloc w (.cells #[.int .i64 2,.int .i64 x,.int .i64 y,.int .i64 2,.int .i64 k,.int .i64 nv] 91)
 have BA:=hidE ba
 have g2:=(ht.below ba).f2
 have hz:=ht.t.sz
 have hz0 : 0 < w.heap.size:=by omega
 clear ba ht
 go_enter Tryz.func46,Tryz.ntmps46
 go_wp2_with fail
 go_ret
 exact ⟨rfl,BA.out⟩
theorem node_23 (x y k nv : Int) (a : Option Addr) (n c : Nat) (w : World) (ht : TabQ w) :
  Calls Tryz.prog 46 #[.agg #[.int .i64 2,.int .i64 x,.int .i64 y,.int .i64 3,.int .i64 k,.int .i64 nv],.slice a n c] w fun e w' => e = .returned (.string (fldB 3)) ∧ Below w.heap.size w w':=by
 have ba:=below_alloc w (.cells #[.int .i64 2,.int .i64 x,.int .i64 y,.int .i64 3,.int .i64 k,.int .i64 nv] 91)
 have BA:=hidE ba
 have g3:=(ht.below ba).f3
 have hz:=ht.t.sz
 have hz0 : 0 < w.heap.size:=by omega
 clear ba ht
 go_enter Tryz.func46,Tryz.ntmps46
 go_wp2_with fail
 go_ret
 exact ⟨rfl,BA.out⟩
theorem node_3 (i : Nat) (y nn k nv : Int) (vs : List V2) (cap : Nat) (ao : Option Addr) (hi : i < vs.length) (hs : (D vs[i]).size ≤ 100000000000000) (w : World) (hr : TxR w (.slice ao vs.length cap) vs) :
  Calls Tryz.prog 46 #[.agg #[.int .i64 3,.int .i64 (i : Int),.int .i64 y,.int .i64 nn,.int .i64 k,.int .i64 nv],.slice ao vs.length cap] w fun e w' => e = .returned (.string (txO 3 (D vs[i]) ⟨#[]⟩)) ∧ Below w.heap.size w w':=by
 have ba:=below_alloc w (.cells #[.int .i64 3,.int .i64 (i : Int),.int .i64 y,.int .i64 nn,.int .i64 k,.int .i64 nv] 91)
 have BA:=hidE ba
 obtain ⟨g,off,rfl,hc,h1,h2,h3⟩:=txR_at hr i hi
 have c0:=(ba.cell (p:=⟨g,off + i,none⟩) h3).trans hc
 have hi2 : ((i : Int)) < (vs.length : Int):=by omega
 generalize D vs[i] = tx at *
 unfold maxLen at h2
 clear ba hr hc
 go_enter Tryz.func46,Tryz.ntmps46
 go_wp2_with fail
 go_ret
 exact ⟨rfl,BA.out⟩
theorem node_4 (i : Nat) (y nn k nv : Int) (vs : List V2) (cap : Nat) (ao : Option Addr) (hi : i < vs.length) (hs : (D vs[i]).size ≤ 100000000000000) (w : World) (hr : TxR w (.slice ao vs.length cap) vs) :
  Calls Tryz.prog 46 #[.agg #[.int .i64 4,.int .i64 (i : Int),.int .i64 y,.int .i64 nn,.int .i64 k,.int .i64 nv],.slice ao vs.length cap] w fun e w' => e = .returned (.string (txO 4 (D vs[i]) ⟨#[]⟩)) ∧ Below w.heap.size w w':=by
 have ba:=below_alloc w (.cells #[.int .i64 4,.int .i64 (i : Int),.int .i64 y,.int .i64 nn,.int .i64 k,.int .i64 nv] 91)
 have BA:=hidE ba
 obtain ⟨g,off,rfl,hc,h1,h2,h3⟩:=txR_at hr i hi
 have c0:=(ba.cell (p:=⟨g,off + i,none⟩) h3).trans hc
 have hi2 : ((i : Int)) < (vs.length : Int):=by omega
 generalize D vs[i] = tx at *
 unfold maxLen at h2
 clear ba hr hc
 go_enter Tryz.func46,Tryz.ntmps46
 go_wp2_with fail
 go_ret
 exact ⟨rfl,BA.out⟩
theorem node_5 (i : Nat) (y nn k nv : Int) (vs : List V2) (cap : Nat) (ao : Option Addr) (hi : i < vs.length) (hs : (D vs[i]).size ≤ 100000000000000) (w : World) (hr : TxR w (.slice ao vs.length cap) vs) :
  Calls Tryz.prog 46 #[.agg #[.int .i64 5,.int .i64 (i : Int),.int .i64 y,.int .i64 nn,.int .i64 k,.int .i64 nv],.slice ao vs.length cap] w fun e w' => e = .returned (.string (txO 5 (D vs[i]) ⟨#[]⟩)) ∧ Below w.heap.size w w':=by
 have ba:=below_alloc w (.cells #[.int .i64 5,.int .i64 (i : Int),.int .i64 y,.int .i64 nn,.int .i64 k,.int .i64 nv] 91)
 have BA:=hidE ba
 obtain ⟨g,off,rfl,hc,h1,h2,h3⟩:=txR_at hr i hi
 have c0:=(ba.cell (p:=⟨g,off + i,none⟩) h3).trans hc
 have hi2 : ((i : Int)) < (vs.length : Int):=by omega
 generalize D vs[i] = tx at *
 unfold maxLen at h2
 clear ba hr hc
 go_enter Tryz.func46,Tryz.ntmps46
 go_wp2_with fail
 go_ret
 exact ⟨rfl,BA.out⟩
theorem node_two (op : Int) (ho : ar op = 2) (i j : Nat) (nn k nv : Int) (vs : List V2) (cap : Nat) (ao : Option Addr) (hi : i < vs.length) (hj : j < vs.length) (hs : (D vs[i]).size ≤ 100000000000000) (hs2 : (D vs[j]).size ≤ 100000000000000) (w : World) (hr : TxR w (.slice ao vs.length cap) vs) :
  Calls Tryz.prog 46 #[.agg #[.int .i64 op,.int .i64 (i : Int),.int .i64 (j : Int),.int .i64 nn,.int .i64 k,.int .i64 nv],.slice ao vs.length cap] w fun e w' => e = .returned (.string (txO op (D vs[i]) (D vs[j]))) ∧ Below w.heap.size w w':=by
 have ba:=below_alloc w (.cells #[.int .i64 op,.int .i64 (i : Int),.int .i64 (j : Int),.int .i64 nn,.int .i64 k,.int .i64 nv] 91)
 have BA:=hidE ba
 have BN:=blk_alloc w [.int .i64 op,.int .i64 (i : Int),.int .i64 (j : Int),.int .i64 nn,.int .i64 k,.int .i64 nv] 91
 obtain ⟨g,off,rfl,hc,h1,h2,h3⟩:=txR_at hr i hi
 obtain ⟨g9,off9,e9,hc2,-,-,-⟩:=txR_at hr j hj
 simp only [Option.some.injEq,Addr.mk.injEq,and_true] at e9
 obtain ⟨rfl,rfl⟩:=e9
 have c0:=(ba.cell (p:=⟨g,off + i,none⟩) h3).trans hc
 have c1:=(ba.cell (p:=⟨g,off + j,none⟩) h3).trans hc2
 have hi2 : ((i : Int)) < (vs.length : Int):=by omega
 have hj2 : ((j : Int)) < (vs.length : Int):=by omega
 have n0:=BN.c 0 (by simp)
 have n1:=BN.c 1 (by simp)
 have n2:=BN.c 2 (by simp)
 simp only [List.getElem?_cons_zero,List.getElem?_cons_succ] at n0 n1 n2
 have hop : op = 6 ∨ op = 7 ∨ op = 8 ∨ op = 9 ∨ op = 10 ∨ op = 11 ∨ op = 12:=two_cases ho
 have o1 : (op == 1) = false:=by simp;omega
 have o2 : (op == 2) = false:=by simp;omega
 have o3 : (op == 3) = false:=by simp;omega
 have o4 : (op == 4) = false:=by simp;omega
 have o5 : (op == 5) = false:=by simp;omega
 have et : Hid (txO op (D vs[i]) (D vs[j]) = ⟨#[40]⟩ ++ D vs[i] ++ ⟨#[32]⟩ ++ sgnB op ++ ⟨#[32]⟩ ++ D vs[j] ++ ⟨#[41]⟩):=by
  show _ = _
  unfold txO
  rw [if_neg (by omega),if_neg (by omega),if_neg (by omega)]
 generalize D vs[i] = tx at *
 generalize D vs[j] = ty at *
 unfold maxLen at h2
 have lgn:=BN.lt
 have hsg : (sgnB op).size ≤ 3:=by rcases hop with rfl | rfl | rfl | rfl | rfl | rfl | rfl <;> decide
 have lgg : g < (w.alloc (.cells #[.int .i64 op,.int .i64 (i : Int),.int .i64 (j : Int),.int .i64 nn,.int .i64 k,.int .i64 nv] 91)).heap.size:=by have:=ba.size;omega
 clear ba hr hc hc2 BN hop
 go_enter Tryz.func46,Tryz.ntmps46
 go_wp2_with fail
 generalize w.alloc (.cells #[.int .i64 op,.int .i64 (i : Int),.int .i64 (j : Int),.int .i64 nn,.int .i64 k,.int .i64 nv] 91) = w0 at *
 have hS : Below w0.heap.size w0 ({ w0 with drawn:=w0.drawn + 1 } : World):=(Below.refl _ _).drew
 refine wp_region_held (S:=fun w' => Below w0.heap.size w0 w') (by kernel_rfl) ?_
 generalize ({ w0 with drawn:=w0.drawn + 1 } : World) = wd at *
 refine held_take (i:=0) (v:=.slice (some ⟨g,off,none⟩) vs.length cap) (L:=#[true,false,false,false,false,false,false,false,false,false,false,false,false,false,false,false,false,false,false,false]) rfl (by kernel_rfl) (by kernel_rfl) (by kernel_rfl) (fun c a w h => h) (Or.inl ⟨by kernel_rfl,fun wq hq => by go_simp⟩) hS (by kernel_rfl) ?_
 refine held_take (i:=1) (v:=.pointer (some ⟨w.heap.size,1,none⟩)) (L:=#[true,true,false,false,false,false,false,false,false,false,false,false,false,false,false,false,false,false,false,false]) rfl (by kernel_rfl) (by kernel_rfl) (by kernel_rfl) (fun c a w h => h) (Or.inl ⟨by kernel_rfl,fun wq hq => by go_simp⟩) hS (by kernel_rfl) ?_
 refine held_take (i:=2) (v:=.int .i64 (i : Int)) (L:=#[true,true,true,false,false,false,false,false,false,false,false,false,false,false,false,false,false,false,false,false]) rfl (by kernel_rfl) (by kernel_rfl) (by kernel_rfl) (fun c a w h => h) (Or.inl ⟨by kernel_rfl,fun wq hq => by have q9:=hq.cell (p:=⟨w.heap.size,1,none⟩) lgn;rw [n1] at q9;go_simp⟩) hS (by kernel_rfl) ?_
 refine held_take (i:=3) (v:=.pointer (some ⟨g,off + i,none⟩)) (L:=#[true,true,true,true,false,false,false,false,false,false,false,false,false,false,false,false,false,false,false,false]) rfl (by kernel_rfl) (by kernel_rfl) (by kernel_rfl) (fun c a w h => h) (Or.inl ⟨by kernel_rfl,fun wq hq => by go_simp⟩) hS (by kernel_rfl) ?_
 refine held_take (i:=4) (v:=.string tx) (L:=#[true,true,true,true,true,false,false,false,false,false,false,false,false,false,false,false,false,false,false,false]) rfl (by kernel_rfl) (by kernel_rfl) (by kernel_rfl) (fun c a w h => h) (Or.inl ⟨by kernel_rfl,fun wq hq => by have q9:=hq.cell (p:=⟨g,off + i,none⟩) lgg;rw [c0] at q9;go_simp⟩) hS (by kernel_rfl) ?_
 refine held_take (i:=5) (v:=.string (⟨#[40]⟩ ++ tx)) (L:=#[true,true,true,true,true,true,false,false,false,false,false,false,false,false,false,false,false,false,false,false]) rfl (by kernel_rfl) (by kernel_rfl) (by kernel_rfl) (fun c a w h => h) (Or.inl ⟨by kernel_rfl,fun wq hq => by first | (go_simp;done) | (go_simp;omega) | (go_simp;simp only [ByteArray.size_append];omega)⟩) hS (by kernel_rfl) ?_
 refine held_take (i:=6) (v:=.string (⟨#[40]⟩ ++ tx ++ ⟨#[32]⟩)) (L:=#[true,true,true,true,true,true,true,false,false,false,false,false,false,false,false,false,false,false,false,false]) rfl (by kernel_rfl) (by kernel_rfl) (by kernel_rfl) (fun c a w h => h) (Or.inl ⟨by kernel_rfl,fun wq hq => by first | (go_simp;done) | (go_simp;omega) | (go_simp;simp only [ByteArray.size_append];omega)⟩) hS (by kernel_rfl) ?_
 refine held_take (i:=7) (v:=.pointer (some ⟨w.heap.size,0,none⟩)) (L:=#[true,true,true,true,true,true,true,true,false,false,false,false,false,false,false,false,false,false,false,false]) rfl (by kernel_rfl) (by kernel_rfl) (by kernel_rfl) (fun c a w h => h) (Or.inl ⟨by kernel_rfl,fun wq hq => by go_simp⟩) hS (by kernel_rfl) ?_
 refine held_take (i:=8) (v:=.int .i64 op) (L:=#[true,true,true,true,true,true,true,true,true,false,false,false,false,false,false,false,false,false,false,false]) rfl (by kernel_rfl) (by kernel_rfl) (by kernel_rfl) (fun c a w h => h) (Or.inl ⟨by kernel_rfl,fun wq hq => by have q9:=hq.cell (p:=⟨w.heap.size,0,none⟩) lgn;rw [n0] at q9;go_simp⟩) hS (by kernel_rfl) ?_
 refine held_take (i:=12) (v:=.slice (some ⟨g,off,none⟩) vs.length cap) (L:=#[true,true,true,true,true,true,true,true,true,false,false,false,true,false,false,false,false,false,false,false]) rfl (by kernel_rfl) (by kernel_rfl) (by kernel_rfl) (fun c a w h => h) (Or.inl ⟨by kernel_rfl,fun wq hq => by go_simp⟩) hS (by kernel_rfl) ?_
 refine held_take (i:=13) (v:=.pointer (some ⟨w.heap.size,2,none⟩)) (L:=#[true,true,true,true,true,true,true,true,true,false,false,false,true,true,false,false,false,false,false,false]) rfl (by kernel_rfl) (by kernel_rfl) (by kernel_rfl) (fun c a w h => h) (Or.inl ⟨by kernel_rfl,fun wq hq => by go_simp⟩) hS (by kernel_rfl) ?_
 refine held_take (i:=14) (v:=.int .i64 (j : Int)) (L:=#[true,true,true,true,true,true,true,true,true,false,false,false,true,true,true,false,false,false,false,false]) rfl (by kernel_rfl) (by kernel_rfl) (by kernel_rfl) (fun c a w h => h) (Or.inl ⟨by kernel_rfl,fun wq hq => by have q9:=hq.cell (p:=⟨w.heap.size,2,none⟩) lgn;rw [n2] at q9;go_simp⟩) hS (by kernel_rfl) ?_
 refine held_take (i:=15) (v:=.pointer (some ⟨g,off + j,none⟩)) (L:=#[true,true,true,true,true,true,true,true,true,false,false,false,true,true,true,true,false,false,false,false]) rfl (by kernel_rfl) (by kernel_rfl) (by kernel_rfl) (fun c a w h => h) (Or.inl ⟨by kernel_rfl,fun wq hq => by go_simp⟩) hS (by kernel_rfl) ?_
 refine held_take (i:=16) (v:=.string ty) (L:=#[true,true,true,true,true,true,true,true,true,false,false,false,true,true,true,true,true,false,false,false]) rfl (by kernel_rfl) (by kernel_rfl) (by kernel_rfl) (fun c a w h => h) (Or.inl ⟨by kernel_rfl,fun wq hq => by have q9:=hq.cell (p:=⟨g,off + j,none⟩) lgg;rw [c1] at q9;go_simp⟩) hS (by kernel_rfl) ?_
 refine held_go (i:=9) (L:=#[true,true,true,true,true,true,true,true,true,true,false,false,true,true,true,true,true,false,false,false]) (by kernel_rfl) rfl (by kernel_rfl) (by kernel_rfl) ?_
 intro K' hK
 go_simp
 refine (sign_any op ho _).mono ?_
 rintro e w1 ⟨rfl,rfl⟩
 refine hK _ _ ⟨hS,?_⟩
 clear hK
 refine held_take (i:=10) (v:=.string (⟨#[40]⟩ ++ tx ++ ⟨#[32]⟩ ++ sgnB op)) (L:=#[true,true,true,true,true,true,true,true,true,true,true,false,true,true,true,true,true,false,false,false]) rfl (by kernel_rfl) (by kernel_rfl) (by kernel_rfl) (fun c a w h => h) (Or.inl ⟨by kernel_rfl,fun wq hq => by first | (go_simp;done) | (go_simp;omega) | (go_simp;simp only [ByteArray.size_append];omega)⟩) hS (by kernel_rfl) ?_
 refine held_take (i:=11) (v:=.string (⟨#[40]⟩ ++ tx ++ ⟨#[32]⟩ ++ sgnB op ++ ⟨#[32]⟩)) (L:=#[true,true,true,true,true,true,true,true,true,true,true,true,true,true,true,true,true,false,false,false]) rfl (by kernel_rfl) (by kernel_rfl) (by kernel_rfl) (fun c a w h => h) (Or.inl ⟨by kernel_rfl,fun wq hq => by first | (go_simp;done) | (go_simp;omega) | (go_simp;simp only [ByteArray.size_append];omega)⟩) hS (by kernel_rfl) ?_
 refine held_take (i:=17) (v:=.string (⟨#[40]⟩ ++ tx ++ ⟨#[32]⟩ ++ sgnB op ++ ⟨#[32]⟩ ++ ty)) (L:=#[true,true,true,true,true,true,true,true,true,true,true,true,true,true,true,true,true,true,false,false]) rfl (by kernel_rfl) (by kernel_rfl) (by kernel_rfl) (fun c a w h => h) (Or.inl ⟨by kernel_rfl,fun wq hq => by first | (go_simp;done) | (go_simp;omega) | (go_simp;simp only [ByteArray.size_append];omega)⟩) hS (by kernel_rfl) ?_
 refine held_take (i:=18) (v:=.string (⟨#[40]⟩ ++ tx ++ ⟨#[32]⟩ ++ sgnB op ++ ⟨#[32]⟩ ++ ty ++ ⟨#[41]⟩)) (L:=#[true,true,true,true,true,true,true,true,true,true,true,true,true,true,true,true,true,true,true,false]) rfl (by kernel_rfl) (by kernel_rfl) (by kernel_rfl) (fun c a w h => h) (Or.inl ⟨by kernel_rfl,fun wq hq => by first | (go_simp;done) | (go_simp;omega) | (go_simp;simp only [ByteArray.size_append];omega)⟩) hS (by kernel_rfl) ?_
 refine held_go (i:=19) (L:=#[true,true,true,true,true,true,true,true,true,true,true,true,true,true,true,true,true,true,true,true]) (by kernel_rfl) rfl (by kernel_rfl) (by kernel_rfl) ?_
 intro K' hK
 go_simp
 refine hK _ _ ⟨hS,?_⟩
 clear hK
 refine wpAnyH_done (by kernel_rfl) ?_ _
 have BZ:=hidE (BA.out.trans (hS.mono BA.out.size))
 clear hS
 go_wp2_with fail
 go_ret
 rw [et.out]
 exact ⟨rfl,BZ.out⟩
theorem nthI (vs : List V2) (i : Nat) (h : i < vs.length) : nth vs (i : Int) = vs[i]:=by
 unfold nth
 rw [if_neg (by omega),List.getD_eq_getElem?_getD,Int.toNat_natCast,List.getElem?_eq_getElem h];rfl
def BdT (vs : List V2) : Prop:=∀ i p,vs[i]? = some p → (D p).size + 10 ≤ 37 * 2 ^ i
theorem bd_max {vs : List V2} (h : BdT vs) (hl : vs.length ≤ 40) {i : Nat} (hi : i < vs.length) : (D vs[i]).size ≤ 20400000000000:=by
 have h1:=h i vs[i] (List.getElem?_eq_getElem hi)
 have h2 : 2 ^ i ≤ 2 ^ 39:=Nat.pow_le_pow_right (by decide) (by omega)
 have h3 : (2 : Nat) ^ 39 = 549755813888:=by decide
 omega
theorem mk_size (l : List UInt8) : (⟨l.toArray⟩ : ByteArray).size = l.length:=by
 show l.toArray.size = _
 simp
theorem cstB_size (k v : Int) (h : vokB k v = true) : (cstB k v).size ≤ 27:=by
 have hv:=of_decide_eq_true h
 unfold cstB
 by_cases h0 : v < 0
 ·rw [if_pos h0,ByteArray.size_append,ByteArray.size_append,mk_size (Lib.itoa (-v))]
  have:=Lib.itoa_length_le (-v) (by omega) (by omega)
  have e1 : (⟨#[40,48,32,45,32]⟩ : ByteArray).size = 5:=rfl
  have e2 : (⟨#[41]⟩ : ByteArray).size = 1:=rfl
  rw [e1,e2]
  omega
 ·rw [if_neg h0,mk_size]
  unfold textB
  split
  ·have:=Lib.itoa_length_le v (by omega) (by omega)
   omega
  ·split
   ·decide
   ·split <;> decide
theorem fldB_size (n : Int) : (fldB n).size ≤ 1:=by
 unfold fldB
 repeat' split
 all_goals decide
theorem sgnB_size (op : Int) : (sgnB op).size ≤ 3:=by
 unfold sgnB
 repeat' split
 all_goals decide
theorem txO_size (op : Int) (a b : ByteArray) : (txO op a b).size ≤ a.size + b.size + 10:=by
 unfold txO
 have h0:=sgnB_size op
 have e1 : (⟨#[40,45,32]⟩ : ByteArray).size = 3:=rfl
 have e2 : (⟨#[41]⟩ : ByteArray).size = 1:=rfl
 have e3 : (⟨#[40,110,111,116,32]⟩ : ByteArray).size = 5:=rfl
 have e4 : (⟨#[40]⟩ : ByteArray).size = 1:=rfl
 have e5 : (⟨#[32,105,115,32,110,117,108,108,41]⟩ : ByteArray).size = 9:=rfl
 have e6 : (⟨#[32]⟩ : ByteArray).size = 1:=rfl
 repeat' split
 all_goals simp only [ByteArray.size_append,e1,e2,e3,e4,e5,e6];omega
theorem ntext_any (l : List Nd) (bs : List Nat) (hg : Good l bs) (hl : l.length ≤ 40) (vs : List V2) (n : Nd) (hn : l[vs.length]? = some n) (hb : BdT vs) (cap : Nat) (ao : Option Addr) (w : World) (ht : TabQ w) (hr : TxR w (.slice ao vs.length cap) vs) :
  Calls Tryz.prog 46 #[aggN n,.slice ao vs.length cap] w (fun e w' => e = .returned (.string (D (evN oT evT4 n vs))) ∧ Below w.heap.size w w') ∧ (D (evN oT evT4 n vs)).size + 10 ≤ 37 * 2 ^ vs.length:=by
 have hlt:=(List.getElem?_eq_some_iff.1 hn).1
 obtain ⟨hok,h0,-,h1,h2⟩:=good_at hg hn
 have p0 : 1 ≤ 2 ^ vs.length:=Nat.one_le_two_pow
 by_cases c0 : ar n.op = 0
 ·rcases okN_zero hok c0 with ⟨e,hv⟩ | ⟨e,f0,f1⟩
  ·rw [e]
   generalize n.k = k at *
   generalize n.v = v at *
   have e9 : D (evN oT evT4 ⟨1,0,0,0,k,v⟩ vs) = cstB k v:=by
    show D (k,v) = _
    unfold D
    rw [if_neg (vok_ne hv)]
   rw [e9]
   exact ⟨node_1 0 0 0 k v hv _ _ _ w ht.t,by have:=cstB_size k v hv;omega⟩
  ·rw [e]
   generalize n.n = m at *
   have e9 : D (evN oT evT4 ⟨2,0,0,m,0,0⟩ vs) = fldB m:=D_fld m f0 f1
   rw [e9]
   refine ⟨?_,by have:=fldB_size m;omega⟩
   have : m = 0 ∨ m = 1 ∨ m = 2 ∨ m = 3:=by omega
   rcases this with rfl | rfl | rfl | rfl
   ·exact node_20 0 0 0 0 _ _ _ w ht
   ·exact node_21 0 0 0 0 _ _ _ w ht
   ·exact node_22 0 0 0 0 _ _ _ w ht
   ·exact node_23 0 0 0 0 _ _ _ w ht
 ·by_cases c1 : ar n.op = 1
  ·obtain ⟨q0,q1,-⟩:=h1 c1
   have hi : vs.length - 1 < vs.length:=by omega
   have hx : n.x = ((vs.length - 1 : Nat) : Int):=by omega
   have e:=okN_one hok c1
   have hnth : nth vs n.x = vs[vs.length - 1]:=by rw [hx];exact nthI vs _ hi
   have c12:=ar_12 (op:=n.op) (by omega)
   have e9 : D (evN oT evT4 n vs) = txO n.op (D vs[vs.length - 1]) ⟨#[]⟩:=by
    unfold evN
    rw [if_neg c12.1,if_neg c12.2,if_pos c1,hnth]
    show D (E _) = _
    rw [D_E]
    exact txO_one c1 _ _ _
   have hs:=Nat.le_trans (bd_max hb (by omega) hi) (by decide : 20400000000000 ≤ 100000000000000)
   rw [e9]
   constructor
   ·have e8 : aggN n = .agg #[.int .i64 n.op,.int .i64 ((vs.length - 1 : Nat) : Int),.int .i64 0,.int .i64 0,.int .i64 0,.int .i64 0]:=by
     conv => lhs;rw [e]
     rw [← hx]
     rfl
    rw [e8]
    have ho:=one_cases c1
    generalize n.op = op at *
    rcases ho with rfl | rfl | rfl
    ·exact node_3 _ 0 0 0 0 vs cap ao hi hs w hr
    ·exact node_4 _ 0 0 0 0 vs cap ao hi hs w hr
    ·exact node_5 _ 0 0 0 0 vs cap ao hi hs w hr
   ·have h3:=txO_size n.op (D vs[vs.length - 1]) ⟨#[]⟩
    have h4:=hb _ _ (List.getElem?_eq_getElem hi)
    have e7 : (⟨#[]⟩ : ByteArray).size = 0:=rfl
    have h5 : 2 ^ (vs.length - 1) * 2 = 2 ^ vs.length:=by rw [← Nat.pow_succ];congr 1;omega
    have h6 : 1 ≤ 2 ^ (vs.length - 1):=Nat.one_le_two_pow
    omega
  ·have c2 : ar n.op = 2:=by
    unfold ar at *
    repeat' split at h0
    all_goals first | omega | (simp_all;done) | (exfalso;omega)
   obtain ⟨q0,q1,q2,q3,-⟩:=h2 c2
   have hj : vs.length - 1 < vs.length:=by omega
   have hle:=good_le hg (vs.length - 1) (by omega)
   generalize bs.getD (vs.length - 1) 0 = b at *
   have hi : b - 1 < vs.length:=by omega
   have hy : n.y = ((vs.length - 1 : Nat) : Int):=by omega
   have hx : n.x = ((b - 1 : Nat) : Int):=by omega
   have e:=okN_two hok c2
   have c12:=ar_12 (op:=n.op) (by omega)
   have e9 : D (evN oT evT4 n vs) = txO n.op (D vs[b - 1]) (D vs[vs.length - 1]):=by
    unfold evN
    rw [if_neg c12.1,if_neg c12.2,if_neg c1,hx,hy,nthI vs _ hi,nthI vs _ hj]
    show D (E _) = _
    rw [D_E]
   have hs:=Nat.le_trans (bd_max hb (by omega) hi) (by decide : 20400000000000 ≤ 100000000000000)
   have hs2:=Nat.le_trans (bd_max hb (by omega) hj) (by decide : 20400000000000 ≤ 100000000000000)
   rw [e9]
   constructor
   ·have e8 : aggN n = .agg #[.int .i64 n.op,.int .i64 ((b - 1 : Nat) : Int),.int .i64 ((vs.length - 1 : Nat) : Int),.int .i64 0,.int .i64 0,.int .i64 0]:=by
     conv => lhs;rw [e]
     rw [← hx,← hy]
     rfl
    rw [e8]
    exact node_two n.op c2 _ _ 0 0 0 vs cap ao hi hj hs hs2 w hr
   ·have h3:=txO_size n.op (D vs[b - 1]) (D vs[vs.length - 1])
    have h4:=hb _ _ (List.getElem?_eq_getElem hi)
    have h4':=hb _ _ (List.getElem?_eq_getElem hj)
    have h5 : 2 ^ (vs.length - 1) * 2 = 2 ^ vs.length:=by rw [← Nat.pow_succ];congr 1;omega
    have h6 : 2 ^ (b - 1) ≤ 2 ^ (vs.length - 1):=Nat.pow_le_pow_right (by decide) (by omega)
    have h7 : 1 ≤ 2 ^ (vs.length - 1):=Nat.one_le_two_pow
    omega
theorem infoStr : (Tryz.prog.info? 9).map (fun i => (i.zero,i.size,i.bytes,(i.zero.map (·.cells.size)))) = some (some (.string ⟨#[]⟩),1,16,some 1):=by kernel_rfl
theorem txR_app {vs : List V2} {p : V2} : (vs ++ [p]).map (fun p => Value.string (D p)) = vs.map (fun p => Value.string (D p)) ++ [.string (D p)]:=by simp
theorem etext_any (l : List Nd) (v : Value) (w : World) (hc : chkE l = 0) (hr : NodG w v l) (ht : TabQ w) :
  Calls Tryz.prog 25 #[v] w fun e w' => e = .returned (.string (txL l)) ∧ Below w.heap.size w w' ∧ (txL l).size ≤ 20400000000000:=by
 obtain ⟨bs,hg,hl,h0,-⟩:=good_of_chk hc
 obtain ⟨ao,cap,rfl⟩:=rowG_shape hr
 obtain ⟨i0,hi0,hz0,hz1,hz2⟩:=info_partsA infoStr
 have HR:=hidE hr
 have HG:=hidE hg
 have HT:=hidE ht
 have hT : txL l = D (nth (evF oT evT4 l []) ((l.length : Int) - 1)):=rfl
 rw [hT]
 generalize hF : evF oT evT4 l [] = T
 have HF:=hidE hF
 clear hr hg ht hT hF hc
 go_enter Tryz.func25,Tryz.ntmps25
 go_wp2_with (at_make;go_must (refine wpList_make_own _ rfl _ _ 52 rfl w.heap.size 9 i0 (.string ⟨#[]⟩) 1 Tryz.underlying52 hi0 hz0 hz1 .i64 .i64 _ l.length rfl rfl rfl (by rw [hz2];omega) (by show _ ≤ 2 ^ 63 - 1;omega) (Nat.le_refl _) ?_))
 intro w3 ho3 hg3
 have HB3 : Hid (Below w.heap.size w w3):=(Below.refl _ _).grown hg3 (Nat.le_refl _) (fun k hk => by cases hk)
 have HO3:=hidE ho3
 clear ho3 hg3
 go_wp2_with fail
 go_loopw [3,11] (fun v i wr => ∃ (m : Nat) (vs : List V2),m ≤ l.length ∧ vs.length = m ∧ i = .int .i64 m ∧ Hid (wr.ownsRow w.heap.size 9 1 v vs.length (vs.map fun p => Value.string (D p))) ∧ Hid (Below w.heap.size w wr) ∧ Hid (BdT vs) ∧ Hid (evF oT evT4 (l.drop vs.length) vs = T)) (fun _ i _ => l.length - (intOf i).toNat)
 case atStart => exact ⟨0,[],Nat.zero_le _,rfl,rfl,HO3,HB3,fun i p h => by simp at h,HF⟩
 case round =>
  clear HF HB3 HO3
  obtain ⟨m,vs,hm,rfl,rfl,HO,HB,HD,HS⟩:=hrel
  obtain ⟨ao2,cap2,rfl⟩:=owns_shapeE HO.out
  by_cases hlt : vs.length < l.length
  ·obtain ⟨g,off,rfl,hnode,l1,l2,l3⟩:=rowN_node HR.out _ hlt
   have hS:=HS.out
   rw [List.drop_eq_getElem_cons hlt] at hS
   have hn : l[vs.length]? = some l[vs.length]:=List.getElem?_eq_getElem hlt
   generalize l[vs.length] = nd at *
   obtain ⟨n0,n1,n2,n3,n4,n5⟩:=nodeAt_below hnode HB.out l3
   clear hnode
   unfold maxLen at l2
   simp only [evF] at hS
   have HNW:=ntext_any l bs HG.out hl vs nd hn HD.out cap2 ao2 (wr.alloc (.cells #[.int .i64 nd.op,.int .i64 nd.x,.int .i64 nd.y,.int .i64 nd.n,.int .i64 nd.k,.int .i64 nd.v] 91)) ((HT.out.below HB.out).below (below_alloc wr _)) (rowG_of_owns (HO.out.alloc _))
   have HN:=hidE HNW.1
   have HBD : Hid (BdT (vs ++ [evN oT evT4 nd vs])):=fun i p h => by
    by_cases hi : i < vs.length
    ·rw [List.getElem?_append_left hi] at h
     exact HD.out i p h
    ·have hi2 : i = vs.length:=by
      have:=(List.getElem?_eq_some_iff.1 h).1
      simp at this
      omega
     subst hi2
     simp at h
     subst h
     exact HNW.2
   have HS:=hidE hS
   clear HNW hS hn HD
   unfold aggN at HN
   obtain ⟨p,hp⟩ : ∃ p,p = evN oT evT4 nd vs:=⟨_,rfl⟩
   rw [← hp] at HN HBD HS
   clear hp
   have hob : ∀ k,(Value.slice ao2 vs.length cap2).ownBlock = some k → w.heap.size ≤ k ∧ k < wr.heap.size:=own_at HO.out
   obtain ⟨hc,hf⟩:=rules HB
   obtain ⟨hc2,hf2⟩:=rules (nxta HB (.cells #[.int .i64 nd.op,.int .i64 nd.x,.int .i64 nd.y,.int .i64 nd.n,.int .i64 nd.k,.int .i64 nd.v] 91))
   go_wp2_with fail
   refine HN.out.mono ?_
   rintro e w4 ⟨rfl,hb⟩
   have HB4:=nxt (nxta HB (.cells #[.int .i64 nd.op,.int .i64 nd.x,.int .i64 nd.y,.int .i64 nd.n,.int .i64 nd.k,.int .i64 nd.v] 91)) hb
   have HO4:=hidE (own_keep (HO.out.alloc _) hb (Nat.le_refl _))
   clear hb hc hf hc2 hf2 HN
   go_wp2_with (at_builtin;go_must (refine wpList_append_own _ rfl (.tmp 15) (.tmp 19) 52 rfl w.heap.size 9 i0 (.string ⟨#[]⟩) 1 16 Tryz.underlying52 hi0 hz0 hz1 hz2 rfl (by decide) _ _ _ rfl (HO4.out.alloc _) ⟨w4.heap.size,0,none⟩ 1 1 [.string (D p)] rfl rfl (cell_one_new _ _ _) (by intro u hu;simp at hu;subst hu;rfl) (by show _ ≤ 2 ^ 63 - 1;omega) (by omega) (by have:=HB4.out.size;simp;omega) ?_))
   intro v' w5 ho5 hg5 _
   have ho6 : w5.ownsRow w.heap.size 9 1 v' (vs ++ [p]).length ((vs ++ [p]).map fun p => Value.string (D p)):=by
    rw [txR_app,List.length_append]
    exact ho5
   have HO5:=hidE ho6
   have HB5 : Hid (Below w.heap.size w w5):=(HB4.out.alloc HB4.out.size _).grown hg5 (by have:=HB4.out.size;simp;omega) (fun k hk => (HO4.out.lt k hk).1)
   clear ho5 hg5 ho6 hob
   go_wp2_with fail
   go_roundw
   case rel => exact ⟨vs.length + 1,vs ++ [p],by omega,by simp,by go_num,HO5,HB5,HBD,by
    show evF oT evT4 (l.drop (vs ++ [p]).length) (vs ++ [p]) = T
    rw [List.length_append]
    exact HS.out⟩
   case measure => simp [intOf];omega
  ·have hml : vs.length = l.length:=by omega
   have hS:=HS.out
   rw [List.drop_eq_nil_of_le (by omega)] at hS
   simp only [evF] at hS
   subst hS
   have hlast : l.length - 1 < vs.length:=by omega
   obtain ⟨g,off,e9,hcl,l1,l2,l3⟩:=txR_at (vs:=vs) (rowG_of_owns HO.out) (l.length - 1) hlast
   have hq : nth vs ((l.length : Int) - 1) = vs[l.length - 1]:=by
    rw [show (l.length : Int) - 1 = ((l.length - 1 : Nat) : Int) by omega]
    exact nthI vs _ hlast
   have HQ:=hidE hq
   have HZ:=hidE (bd_max HD.out (by omega) hlast)
   subst e9
   generalize vs[l.length - 1] = q at *
   have HML:=hidE hml
   have ww : IntKind.i64.wrap ((l.length : Int) - 1) = (l.length : Int) - 1:=wrapIn2 _ (by omega) (by omega)
   have hge : ¬ ((vs.length : Int) < (l.length : Int)):=by omega
   have hin : (0 : Int) ≤ (l.length : Int) - 1 ∧ (l.length : Int) - 1 < (vs.length : Int):=by omega
   unfold maxLen at l2
   clear HS HO hlt hm hq
   go_wp2_with fail
   go_ret
   rw [HQ.out]
   exact ⟨rfl,HB.out,HZ.out⟩
end Go.Proofs.YteaanpdckkmjoaaGreatDoor
