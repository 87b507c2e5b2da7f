/- Several texts in one, each with its own head. What is proved: what the parts say. Conditions: theirs. -/
import Derived.Test.YteaanpdckkmjoaaGreatDoorExpr2J
import Derived.Test.YteaanpdckkmjoaaGreatDoorLexPureJ
import Derived.OrdersHeld
import Derived.OwnWalk
import Derived.Maps.AppendAt
import Derived.OneCell
set_option linter.unusedVariables false
set_option linter.unusedSimpArgs false
set_option maxRecDepth 100000
set_option maxHeartbeats 8000000
namespace Go.Proofs.YteaanpdckkmjoaaGreatDoor
open Go.ChangeShapes Go.WideShapes Go.ChangeAt Go.RowKit
theorem own_mono {w : World} {base base' : Nat} {e : TypeId} {size n : Nat} {v : Value} {xs : List Value} (h : w.ownsRow base e size v n xs) (hb : base' ≤ base) : w.ownsRow base' e size v n xs :=
 ⟨h.1,h.2.imp id fun ⟨g,cap,cur,a,b,c⟩ => ⟨g,cap,cur,a,Nat.le_trans hb b,c⟩⟩
theorem rowG_lo {w : World} {size n : Nat} {v : Value} {xs : List Value} (h : RowG w v size n xs) : ∀ g off m c,v = .slice (some ⟨g,off,none⟩) m c → 0 < m → g < w.heap.size:=by
 intro g off m c e hm
 rcases h.2 with ⟨⟨ao,cap,h1⟩,-⟩ | ⟨g',off',cap,h1,-,-,h4,-⟩
 ·rw [h1] at e
  simp only [Value.slice.injEq] at e
  omega
 ·rw [h1] at e
  simp only [Value.slice.injEq,Option.some.injEq,Addr.mk.injEq] at e
  omega
theorem join_two (op : Int) (l m : List Nd) (u v : Value) (w : World) (hl : l.length ≤ 100) (hm : m.length ≤ 100) (hu : RowG w u 6 l.length (rowN l)) (hv : RowG w v 6 m.length (rowN m)) (h1 : ∀ n ∈ l,Mvb n) (h2 : ∀ n ∈ m,Mvb n) (ha : ar op = 2) :
  Calls Tryz.prog 124 #[.int .i64 op,u,v] w fun e w' => ∃ u',e = .returned u' ∧ w'.ownsRow w.heap.size 91 6 u' (joinL op l m).length (rowN (joinL op l m)) ∧ Below w.heap.size w w':=by
 obtain ⟨ao,cap,rfl⟩:=rowG_shape hu
 obtain ⟨ao2,cap2,rfl⟩:=rowG_shape hv
 obtain ⟨i0,hi0,hz0,hz1,hz2⟩:=info_parts infoN
 have HU:=hidE hu
 have HV:=hidE hv
 have H1:=hidE h1
 have H2:=hidE h2
 clear hu hv h1 h2
 have b1 : (ar op == 1) = false:=by simp [ha]
 have b2 : (ar op == 2) = true:=by simp [ha]
 have HA:=hidE (fun w => arity_any op w)
 clear ha
 have HW : Hid (Below w.heap.size w (w.alloc (.cells #[.int .i64 op,.int .i64 ((l.length : Int) - 1),.int .i64 ((l.length : Int) + (m.length : Int) - 1),.int .i64 0,.int .i64 0,.int .i64 0] 91))):=(Below.refl _ _).alloc (Nat.le_refl _) _
 have hsz : (w.alloc (.cells #[.int .i64 op,.int .i64 ((l.length : Int) - 1),.int .i64 ((l.length : Int) + (m.length : Int) - 1),.int .i64 0,.int .i64 0,.int .i64 0] 91)).heap.size = w.heap.size + 1:=by simp
 go_enter Tryz.func124,Tryz.ntmps124
 go_wp2_with (first | (go_at_call 103;refine (HA.out _).mono ?_;rintro e w' ⟨rfl,rfl⟩) | (at_make;go_must (refine wpList_make_own _ rfl _ _ 23 rfl (w.heap.size + 1) 91 i0 (.agg #[.int .i64 0,.int .i64 0,.int .i64 0,.int .i64 0,.int .i64 0,.int .i64 0]) 6 Tryz.underlying23 hi0 hz0 hz1 .i64 .i64 _ (l.length + m.length + 1) rfl rfl (by omega) (by rw [hz2];omega) (by show _ ≤ 2 ^ 63 - 1;omega) (by simp) ?_)))
 intro w2 ho2 hg2
 have HB2 : Hid (Below (w.heap.size + 1) (w.alloc (.cells #[.int .i64 op,.int .i64 ((l.length : Int) - 1),.int .i64 ((l.length : Int) + (m.length : Int) - 1),.int .i64 0,.int .i64 0,.int .i64 0] 91)) w2):=(Below.refl _ _).grown hg2 (by simp) (fun k hk => by cases hk)
 have HBw : Hid (Below w.heap.size w w2):=HW.out.trans (HB2.out.mono (by omega))
 have HL:=hidE (moved_any (w.heap.size + 1) [] l _ (.slice ao l.length cap) 0 w2 (by have:=HB2.out.size;rw [hsz] at this;omega) ho2 (by omega) (by simp) (rowG_below HU.out HBw.out) (fun g off n c e hn => Nat.lt_succ_of_lt (rowG_lo HU.out g off n c e hn)) H1.out (by decide) (by decide))
 clear ho2 hg2
 go_wp2_with fail
 refine HL.out.mono ?_
 rintro e w3 ⟨u1,rfl,ho3,hb3⟩
 simp only [List.nil_append,map_mv_zero] at ho3
 obtain ⟨ao3,cap3,rfl⟩:=owns_shapeE ho3
 have HB3:=hidE (HB2.out.trans hb3)
 have HBw:=hidE (HBw.out.trans (hb3.mono (by omega)))
 have HM:=hidE (moved_any (w.heap.size + 1) l m _ (.slice ao2 m.length cap2) (l.length : Int) w3 (by have:=HB3.out.size;rw [hsz] at this;omega) ho3 (by omega) (by omega) (rowG_below HV.out HBw.out) (fun g off n c e hn => Nat.lt_succ_of_lt (rowG_lo HV.out g off n c e hn)) H2.out (by omega) (by omega))
 clear ho3 hb3 HL HB2
 go_wp2_with fail
 refine HM.out.mono ?_
 rintro e w4 ⟨u2,rfl,ho4,hb4⟩
 have HB4:=hidE (HB3.out.trans hb4)
 have HO4:=hidE ho4
 obtain ⟨ao4,cap4,rfl⟩:=owns_shapeE ho4
 clear ho4 hb4 HM HB3 HBw
 have hs4 : w.heap.size + 1 ≤ w4.heap.size:=by have:=HB4.out.size;rw [hsz] at this;omega
 have hcc : ∀ o,w4.cell? ⟨w.heap.size,o,none⟩ = (w.alloc (.cells #[.int .i64 op,.int .i64 ((l.length : Int) - 1),.int .i64 ((l.length : Int) + (m.length : Int) - 1),.int .i64 0,.int .i64 0,.int .i64 0] 91)).cell? ⟨w.heap.size,o,none⟩:=fun o => HB4.out.cell (p:=⟨w.heap.size,o,none⟩) (by simp)
 have c0 : w4.cell? ⟨w.heap.size,0,none⟩ = some (.int .i64 op):=by rw [hcc];go_simp
 have c1 : w4.cell? ⟨w.heap.size,1,none⟩ = some (.int .i64 ((l.length : Int) - 1)):=by rw [hcc];go_simp
 have c2 : w4.cell? ⟨w.heap.size,2,none⟩ = some (.int .i64 ((l.length : Int) + (m.length : Int) - 1)):=by rw [hcc];go_simp
 have c3 : w4.cell? ⟨w.heap.size,3,none⟩ = some (.int .i64 0):=by rw [hcc];go_simp
 have c4 : w4.cell? ⟨w.heap.size,4,none⟩ = some (.int .i64 0):=by rw [hcc];go_simp
 have c5 : w4.cell? ⟨w.heap.size,5,none⟩ = some (.int .i64 0):=by rw [hcc];go_simp
 have hus : (l ++ m.map (mv (l.length : Int))).length ≤ 200:=by simp;omega
 have HJ : Hid (joinL op l m = (l ++ m.map (mv (l.length : Int))) ++ [⟨op,(l.length : Int) - 1,((l.length : Int) + (m.length : Int) - 1),0,0,0⟩]):=rfl
 clear hcc
 generalize (l ++ m.map (mv (l.length : Int))) = us at *
 go_wp2_with (at_builtin;go_must (refine wpList_append_own _ rfl (.tmp 47) (.tmp 49) 23 rfl (w.heap.size + 1) 91 i0 (.agg #[.int .i64 0,.int .i64 0,.int .i64 0,.int .i64 0,.int .i64 0,.int .i64 0]) 6 48 Tryz.underlying23 hi0 hz0 hz1 hz2 rfl (by decide) _ _ _ rfl (HO4.out.alloc _) ⟨w4.heap.size,0,none⟩ 1 1 [.int .i64 op,.int .i64 ((l.length : Int) - 1),.int .i64 ((l.length : Int) + (m.length : Int) - 1),.int .i64 0,.int .i64 0,.int .i64 0] rfl rfl (cell_six_newE _ _ _ _ _ _ _ _) (by intro u hu;simp at hu;rcases hu with rfl | rfl | rfl | rfl <;> rfl) (by show _ ≤ 2 ^ 63 - 1;omega) (by omega) (by simp;omega) ?_))
 intro v' w5 ho5 hg5 _
 have HB5 : Hid (Below (w.heap.size + 1) (w.alloc (.cells #[.int .i64 op,.int .i64 ((l.length : Int) - 1),.int .i64 ((l.length : Int) + (m.length : Int) - 1),.int .i64 0,.int .i64 0,.int .i64 0] 91)) w5):=(HB4.out.alloc (by omega) _).grown hg5 (by simp;omega) (fun k hk => (HO4.out.lt k hk).1)
 have ho6 : w5.ownsRow w.heap.size 91 6 v' (joinL op l m).length (rowN (joinL op l m)):=by
  rw [HJ.out,rowN_app,List.length_append]
  exact own_mono ho5 (by omega)
 have HO6:=hidE ho6
 have HBf:=hidE (HW.out.trans (HB5.out.mono (by omega)))
 clear ho5 hg5 ho6 HB5 HB4 HO4
 go_wp2_with fail
 go_ret
 exact ⟨v',rfl,HO6.out,HBf.out⟩
theorem join_one (op : Int) (l m : List Nd) (u v : Value) (w : World) (hl : l.length ≤ 100) (hu : RowG w u 6 l.length (rowN l)) (hv : RowG w v 6 m.length (rowN m)) (h1 : ∀ n ∈ l,Mvb n) (ha : ar op = 1) :
  Calls Tryz.prog 124 #[.int .i64 op,u,v] w fun e w' => ∃ u',e = .returned u' ∧ w'.ownsRow w.heap.size 91 6 u' (join1 op l).length (rowN (join1 op l)) ∧ Below w.heap.size w w':=by
 obtain ⟨ao,cap,rfl⟩:=rowG_shape hu
 obtain ⟨ao2,cap2,rfl⟩:=rowG_shape hv
 obtain ⟨i0,hi0,hz0,hz1,hz2⟩:=info_parts infoN
 have HU:=hidE hu
 have H1:=hidE h1
 clear hu hv h1
 have b1 : (ar op == 1) = true:=by simp [ha]
 have HA:=hidE (fun w => arity_any op w)
 clear ha
 have HW : Hid (Below w.heap.size w (w.alloc (.cells #[.int .i64 op,.int .i64 ((l.length : Int) - 1),.int .i64 0,.int .i64 0,.int .i64 0,.int .i64 0] 91))):=(Below.refl _ _).alloc (Nat.le_refl _) _
 have hsz : (w.alloc (.cells #[.int .i64 op,.int .i64 ((l.length : Int) - 1),.int .i64 0,.int .i64 0,.int .i64 0,.int .i64 0] 91)).heap.size = w.heap.size + 1:=by simp
 go_enter Tryz.func124,Tryz.ntmps124
 go_wp2_with (first | (go_at_call 103;refine (HA.out _).mono ?_;rintro e w' ⟨rfl,rfl⟩) | (at_make;go_must (refine wpList_make_own _ rfl _ _ 23 rfl (w.heap.size + 1) 91 i0 (.agg #[.int .i64 0,.int .i64 0,.int .i64 0,.int .i64 0,.int .i64 0,.int .i64 0]) 6 Tryz.underlying23 hi0 hz0 hz1 .i64 .i64 _ (l.length + 1) rfl rfl (by omega) (by rw [hz2];omega) (by show _ ≤ 2 ^ 63 - 1;omega) (by simp) ?_)))
 intro w2 ho2 hg2
 have HB2 : Hid (Below (w.heap.size + 1) (w.alloc (.cells #[.int .i64 op,.int .i64 ((l.length : Int) - 1),.int .i64 0,.int .i64 0,.int .i64 0,.int .i64 0] 91)) w2):=(Below.refl _ _).grown hg2 (by simp) (fun k hk => by cases hk)
 have HBw : Hid (Below w.heap.size w w2):=HW.out.trans (HB2.out.mono (by omega))
 have HL:=hidE (moved_any (w.heap.size + 1) [] l _ (.slice ao l.length cap) 0 w2 (by have:=HB2.out.size;rw [hsz] at this;omega) ho2 (by omega) (by simp) (rowG_below HU.out HBw.out) (fun g off n c e hn => Nat.lt_succ_of_lt (rowG_lo HU.out g off n c e hn)) H1.out (by decide) (by decide))
 clear ho2 hg2
 go_wp2_with fail
 refine HL.out.mono ?_
 rintro e w3 ⟨u1,rfl,ho3,hb3⟩
 simp only [List.nil_append,map_mv_zero] at ho3
 obtain ⟨ao3,cap3,rfl⟩:=owns_shapeE ho3
 have HB3:=hidE (HB2.out.trans hb3)
 have HBw:=hidE (HBw.out.trans (hb3.mono (by omega)))
 have HM:=hidE (moved_any (w.heap.size + 1) l [] _ (.slice none 0 0) (l.length : Int) w3 (by have:=HB3.out.size;rw [hsz] at this;omega) ho3 (by simp) (by omega) ⟨rfl,.inl ⟨⟨_,_,rfl⟩,rfl⟩⟩ (fun g off n c e => by cases e) (fun n hn => by cases hn) (by omega) (by omega))
 clear ho3 hb3 HL HB2
 go_wp2_with fail
 refine HM.out.mono ?_
 rintro e w4 ⟨u2,rfl,ho4,hb4⟩
 have HB4:=hidE (HB3.out.trans hb4)
 have HO4:=hidE ho4
 obtain ⟨ao4,cap4,rfl⟩:=owns_shapeE ho4
 clear ho4 hb4 HM HB3 HBw
 have hs4 : w.heap.size + 1 ≤ w4.heap.size:=by have:=HB4.out.size;rw [hsz] at this;omega
 have hcc : ∀ o,w4.cell? ⟨w.heap.size,o,none⟩ = (w.alloc (.cells #[.int .i64 op,.int .i64 ((l.length : Int) - 1),.int .i64 0,.int .i64 0,.int .i64 0,.int .i64 0] 91)).cell? ⟨w.heap.size,o,none⟩:=fun o => HB4.out.cell (p:=⟨w.heap.size,o,none⟩) (by simp)
 have c0 : w4.cell? ⟨w.heap.size,0,none⟩ = some (.int .i64 op):=by rw [hcc];go_simp
 have c1 : w4.cell? ⟨w.heap.size,1,none⟩ = some (.int .i64 ((l.length : Int) - 1)):=by rw [hcc];go_simp
 have c2 : w4.cell? ⟨w.heap.size,2,none⟩ = some (.int .i64 0):=by rw [hcc];go_simp
 have c3 : w4.cell? ⟨w.heap.size,3,none⟩ = some (.int .i64 0):=by rw [hcc];go_simp
 have c4 : w4.cell? ⟨w.heap.size,4,none⟩ = some (.int .i64 0):=by rw [hcc];go_simp
 have c5 : w4.cell? ⟨w.heap.size,5,none⟩ = some (.int .i64 0):=by rw [hcc];go_simp
 have hus : (l ++ ([] : List Nd).map (mv (l.length : Int))).length ≤ 200:=by simp;omega
 have HJ : Hid (join1 op l = (l ++ ([] : List Nd).map (mv (l.length : Int))) ++ [⟨op,(l.length : Int) - 1,0,0,0,0⟩]):=by show _ = _;simp [join1]
 clear hcc
 generalize (l ++ ([] : List Nd).map (mv (l.length : Int))) = us at *
 go_wp2_with (at_builtin;go_must (refine wpList_append_own _ rfl (.tmp 47) (.tmp 49) 23 rfl (w.heap.size + 1) 91 i0 (.agg #[.int .i64 0,.int .i64 0,.int .i64 0,.int .i64 0,.int .i64 0,.int .i64 0]) 6 48 Tryz.underlying23 hi0 hz0 hz1 hz2 rfl (by decide) _ _ _ rfl (HO4.out.alloc _) ⟨w4.heap.size,0,none⟩ 1 1 [.int .i64 op,.int .i64 ((l.length : Int) - 1),.int .i64 0,.int .i64 0,.int .i64 0,.int .i64 0] rfl rfl (cell_six_newE _ _ _ _ _ _ _ _) (by intro u hu;simp at hu;rcases hu with rfl | rfl | rfl | rfl <;> rfl) (by show _ ≤ 2 ^ 63 - 1;omega) (by omega) (by simp;omega) ?_))
 intro v' w5 ho5 hg5 _
 have HB5 : Hid (Below (w.heap.size + 1) (w.alloc (.cells #[.int .i64 op,.int .i64 ((l.length : Int) - 1),.int .i64 0,.int .i64 0,.int .i64 0,.int .i64 0] 91)) w5):=(HB4.out.alloc (by omega) _).grown hg5 (by simp;omega) (fun k hk => (HO4.out.lt k hk).1)
 have ho6 : w5.ownsRow w.heap.size 91 6 v' (join1 op l).length (rowN (join1 op l)):=by
  rw [HJ.out,rowN_app,List.length_append]
  exact own_mono ho5 (by omega)
 have HO6:=hidE ho6
 have HBf:=hidE (HW.out.trans (HB5.out.mono (by omega)))
 clear ho5 hg5 ho6 HB5 HB4 HO4
 go_wp2_with fail
 go_ret
 exact ⟨v',rfl,HO6.out,HBf.out⟩
theorem all_one {P : Nat → Prop} {k : Nat} (h : P k) : ∀ i ∈ [k],P i:=fun i hi => by rw [List.mem_singleton.1 hi];exact h
section
variable {P : Program} {md : Region.Mode} {ops : Array Oper} {Q : Exit → Act → World → Prop} {S : World → Prop}
theorem held_take {i : Nat} {oi : Oper} {v : Value} {fuel : Nat} {listed L : Array Bool} {a : Act} {w : World} (hi : ops[i]? = some oi)
  (hs : Region.noSelect ops = true) (hf : Region.free md ops listed i = true) (hr : (Region.ready md ops listed).contains i = true)
  (hQ : ∀ c a w,Q (.panic c) (a.put oi.dst v) w → Q (.panic c) a w) (hy : YieldsIf P ops S oi v a) (hS : S w) (hL : listed.setIfInBounds i true = L)
  (h : wpAnyH P md ops Q S fuel L (a.put oi.dst v) w) : wpAnyH P md ops Q S (fuel + 1) listed a w :=
 wpAnyH_take hi hs hf hr hQ hy hS (by rw [hL];exact h)
theorem held_go {i : Nat} {o : Oper} {fuel : Nat} {listed L : Array Bool} {a : Act} {w : World} (hr : Region.ready md ops listed = [i]) (ho : ops[i]? = some o)
  (hw : Region.wanted o (yielded ops a.tmps) = true) (hL : listed.setIfInBounds i true = L)
  (h : ∀ K' : Act → World → Prop,(∀ a' w',(S w' ∧ wpAnyH P md ops Q S fuel L a' w') → K' a' w') → Oper.wp P o a w K' Q) : wpAnyH P md ops Q S (fuel + 1) listed a w :=
 wpAnyH_all hr (by simp) (all_one (wpOp_step ho (fun K' hK => by rw [if_pos hw];exact h K' (fun a' w' q => hK a' w' ⟨q.1,by rw [hL];exact q.2⟩))))
theorem held_two {i j : Nat} {oi oj : Oper} {fuel : Nat} {listed Li Lj : Array Bool} {a : Act} {w : World} (hr : Region.ready md ops listed = [i,j]) (hoi : ops[i]? = some oi) (hoj : ops[j]? = some oj)
  (hwi : Region.wanted oi (yielded ops a.tmps) = true) (hwj : Region.wanted oj (yielded ops a.tmps) = true) (hLi : listed.setIfInBounds i true = Li) (hLj : listed.setIfInBounds j true = Lj)
  (hi : ∀ K' : Act → World → Prop,(∀ a' w',(S w' ∧ wpAnyH P md ops Q S fuel Li a' w') → K' a' w') → Oper.wp P oi a w K' Q)
  (hj : ∀ K' : Act → World → Prop,(∀ a' w',(S w' ∧ wpAnyH P md ops Q S fuel Lj a' w') → K' a' w') → Oper.wp P oj a w K' Q) : wpAnyH P md ops Q S (fuel + 1) listed a w :=
 wpAnyH_all hr (by simp) (fun x hx => by
  rcases List.mem_cons.1 hx with rfl | hx
  ·exact wpOp_step hoi (fun K' hK => by rw [if_pos hwi];exact hi K' (fun a' w' q => hK a' w' ⟨q.1,by rw [hLi];exact q.2⟩))
  ·rw [List.mem_singleton] at hx
   subst hx
   exact wpOp_step hoj (fun K' hK => by rw [if_pos hwj];exact hj K' (fun a' w' q => hK a' w' ⟨q.1,by rw [hLj];exact q.2⟩)))
end
section
variable {P : Program} {md : Region.Mode} {ops : Array Oper} {Q : Exit → Act → World → Prop} {S : World → Prop} {k : Nat}
def wpAnyK (P : Program) (md : Region.Mode) (ops : Array Oper) (Q : Exit → Act → World → Prop) (S : World → Prop) (k : Nat) : Nat → Array Bool → Act → World → Prop
 | 0,listed,a,w => Region.ready md ops listed = [] ∧ Q .normal a w
 | fuel + 1,listed,a,w =>
  (Region.ready md ops listed = [] → Q .normal a w) ∧
  ∀ i ∈ Region.ready md ops listed,wpOp P ops Q i (fun a' w' => (i ≠ k → S w') ∧ wpAnyK P md ops Q S k fuel (listed.setIfInBounds i true) a' w') a w
theorem wpAny_of_last : ∀ (fuel : Nat) (listed : Array Bool) (a : Act) (w : World),wpAnyK P md ops Q S k fuel listed a w → wpAny P md ops Q fuel listed a w
 | 0,_,_,_,h => h
 | fuel + 1,_,_,_,h => ⟨h.1,fun i hi => wpOp_mono (fun a' w' h' => wpAny_of_last fuel _ a' w' h'.2) (h.2 i hi)⟩
def waits (md : Region.Mode) (ops : Array Oper) (listed : Array Bool) (i : Nat) (D : List Nat) : Bool :=
 D.all fun d => !listed.getD d true && match ops[d]? with
  | some o => o.after.any fun e => Region.binds md e && (e.on == i || D.contains e.on)
  | none => false
theorem waits_not {listed : Array Bool} {i : Nat} {D : List Nat} (h : waits md ops listed i D = true) (hi : listed.getD i true = false) {j : Nat} (hj : j ∈ Region.ready md ops listed) : j ∉ D:=fun hd => by
 unfold waits at h
 rw [List.all_eq_true] at h
 have h1:=h j hd
 obtain ⟨h0,o,ho,hall⟩:=mem_ready.1 hj
 rw [ho] at h1
 simp only [Bool.and_eq_true,Array.any_eq_true'] at h1
 obtain ⟨-,e,he,hb,hor⟩:=h1
 have h2:=hall e he hb
 have h3 : listed.getD e.on true = false:=by
  rw [Bool.or_eq_true] at hor
  rcases hor with hor | hor
  ·rw [beq_iff_eq] at hor
   rw [hor];exact hi
  ·have h4:=h e.on (by simpa using hor)
   simp only [Bool.and_eq_true,Bool.not_eq_true'] at h4
   exact h4.1
 rcases Nat.lt_or_ge e.on listed.size with h' | h'
 ·simp [h'] at h2 h3;rw [h2] at h3;cases h3
 ·simp [Array.getElem?_eq_none h'] at h2
theorem waits_set {listed : Array Bool} {i j : Nat} {D : List Nat} (h : waits md ops listed i D = true) (hj : j ∉ D) : waits md ops (listed.setIfInBounds j true) i D = true:=by
 unfold waits at *
 rw [List.all_eq_true] at *
 intro d hd
 have h1:=h d hd
 have hne : j ≠ d:=fun e => by subst e;exact hj hd
 rw [getD_set_ne true hne]
 exact h1
theorem last_first {i : Nat} {oi : Oper} {v : Value} {D : List Nat} (hi : ops[i]? = some oi) (hsel : ∀ (j : Nat) (o : Oper) cs b,ops[j]? = some o → o.op ≠ .select cs b)
  (hQ : ∀ c a w,Q (.panic c) (a.put oi.dst v) w → Q (.panic c) a w) (hkD : k ∈ D) :
  ∀ (fuel : Nat) (listed : Array Bool) (a : Act) (w : World),
   (∀ j oj,ops[j]? = some oj → j ≠ i → listed.getD j true = false → (∀ e ∈ oj.after,Region.binds md e = true → e.on ≠ i) → oi.apart ops oj = true) →
   i ∈ Region.ready md ops listed → waits md ops listed i D = true → YieldsIf P ops S oi v a → S w →
   wpAnyK P md ops Q S k fuel (listed.setIfInBounds i true) (a.put oi.dst v) w → wpAnyK P md ops Q S k (fuel + 1) listed a w:=by
 intro fuel
 induction fuel with
 | zero =>
  intro listed a w _ hr _ hy hS H
  refine ⟨fun h => (by rw [h] at hr;cases hr),fun j hj => ?_⟩
  by_cases hji : j = i
  ·subst hji;exact hy.wpOp hi hS ⟨fun _ => hS,H⟩
  ·have:=ready_mono hj hji
   rw [H.1] at this
   cases this
 | succ fuel ih =>
  intro listed a w hfree hr hD hy hS H
  refine ⟨fun h => (by rw [h] at hr;cases hr),fun j hj => ?_⟩
  by_cases hji : j = i
  ·subst hji;exact hy.wpOp hi hS ⟨fun _ => hS,H⟩
  ·have h1:=H.2 j (ready_mono hj hji)
   have hi0:=(mem_ready.1 hr).1
   have hjD:=waits_not hD hi0 hj
   have hjk : j ≠ k:=fun e => hjD (e ▸ hkD)
   obtain ⟨hjun,oj,hoj,hall⟩:=mem_ready.1 hj
   have hnot : ∀ e ∈ oj.after,Region.binds md e = true → e.on ≠ i:=fun e he hb heq => by
    have h1:=hall e he hb
    have h0:=(mem_ready.1 hr).1
    rw [heq] at h1
    rcases Nat.lt_or_ge i listed.size with h' | h'
    ·simp [h'] at h0 h1;rw [h0] at h1;cases h1
    ·simp [Array.getElem?_eq_none h'] at h1
   have h2:=wpOp_putIf hoj (hfree j oj hoj hji hjun hnot) (fun cs b => hsel i oi cs b hi) (fun cs b => hsel j oj cs b hoj) hQ hy h1
   have hfree' : ∀ k ok,ops[k]? = some ok → k ≠ i → (listed.setIfInBounds j true).getD k true = false →
     (∀ e ∈ ok.after,Region.binds md e = true → e.on ≠ i) → oi.apart ops ok = true:=fun k ok hk hki hun hno => by
    refine hfree k ok hk hki ?_ hno
    by_cases hjk : j = k
    ·subst hjk;exact hjun
    ·rw [getD_set_ne true hjk] at hun;exact hun
   refine wpOp_mono (fun a' w' h3 => ⟨fun _ => h3.2.1 hjk,ih (listed.setIfInBounds j true) a' w' hfree' (ready_mono hr (Ne.symm hji)) (waits_set hD hjD) h3.1 (h3.2.1 hjk) ?_⟩) h2
   rw [Array.setIfInBounds_comm _ _ hji]
   exact h3.2.2
theorem last_take {i : Nat} {oi : Oper} {v : Value} {fuel : Nat} {listed L : Array Bool} {a : Act} {w : World} (D : List Nat) (hi : ops[i]? = some oi)
  (hs : Region.noSelect ops = true) (hf : Region.free md ops listed i = true) (hr : (Region.ready md ops listed).contains i = true) (hkD : D.contains k = true) (hD : waits md ops listed i D = true)
  (hQ : ∀ c a w,Q (.panic c) (a.put oi.dst v) w → Q (.panic c) a w) (hy : YieldsIf P ops S oi v a) (hS : S w) (hL : listed.setIfInBounds i true = L)
  (h : wpAnyK P md ops Q S k fuel L (a.put oi.dst v) w) : wpAnyK P md ops Q S k (fuel + 1) listed a w :=
 last_first hi (Region.noSelect_spec hs) hQ (by simpa using hkD) fuel listed a w (Region.free_spec hi hf) (by simpa using hr) hD hy hS (by rw [hL];exact h)
theorem last_go {i : Nat} {o : Oper} {fuel : Nat} {listed L : Array Bool} {a : Act} {w : World} (hr : Region.ready md ops listed = [i]) (ho : ops[i]? = some o)
  (hw : Region.wanted o (yielded ops a.tmps) = true) (hL : listed.setIfInBounds i true = L)
  (h : ∀ K' : Act → World → Prop,(∀ a' w',((i ≠ k → S w') ∧ wpAnyK P md ops Q S k fuel L a' w') → K' a' w') → Oper.wp P o a w K' Q) : wpAnyK P md ops Q S k (fuel + 1) listed a w:=by
 refine ⟨fun h0 => (by rw [hr] at h0;cases h0),?_⟩
 rw [hr]
 refine all_one (wpOp_step ho (fun K' hK => by rw [if_pos hw];exact h K' (fun a' w' q => hK a' w' ⟨q.1,by rw [hL];exact q.2⟩)))
theorem last_done {listed : Array Bool} {a : Act} {w : World} (hr : Region.ready md ops listed = []) (h : Q .normal a w) : ∀ fuel,wpAnyK P md ops Q S k fuel listed a w
 | 0 => ⟨hr,h⟩
 | _ + 1 => ⟨fun _ => h,by rw [hr];simp⟩
theorem wp_region_last {id : Nat} {a : Act} {w : World} (S : World → Prop) (k : Nat) (hm : P.follows .mixedOrders = true)
  (h : wpAnyK P .any ops Q S k ops.size (Array.replicate ops.size false) a { w with drawn:=w.drawn + 1 }) : (Code.region id ops true).wp P Q a w :=
 wp_region_any hm (wpAny_of_last _ _ _ _ h)
end
theorem op_append_own {P : Program} {Q : Exit → Act → World → Prop} {K : Act → World → Prop} {o : Oper} {a : Act} {w : World} (s x : Operand) (t : TypeId) (hop : o.op = Op.call { callee:=Callee.builtin Builtin.append,args:=#[s,x],argTypes:=#[t,t] })
  (base : Nat) (e : TypeId) (i : TypeInfo) (z : Value) (size bytes : Nat) (ht : P.underlying t = some (.slice e)) (hi : P.info? e = some i) (hz : i.zero = some z) (hsize : i.size = size) (hby : i.bytes = bytes) (hzs : z.cells.size = size) (hsz : 0 < size)
  (v : Value) (n : Nat) (xs : List Value) (hs : a.eval s = v) (hown : w.ownsRow base e size v n xs)
  (ad : Addr) (m c : Nat) (news : List Value) (hx : a.eval x = .slice (some ad) m c) (hl : news.length = m * size) (hnews : ∀ j u,news[j]? = some u → w.cell? (ad.add j) = some u) (h1 : ∀ u ∈ news,u.oneCell' = true)
  (h63 : n + m ≤ maxLen) (hbytes : (n + m) * bytes ≤ 140737488355328) (hbase : base ≤ w.heap.size)
  (hK : ∀ v' w',w'.ownsRow base e size v' (n + m) (xs ++ news) → w.grownBy w' v.ownBlock → (v'.ownBlock = v.ownBlock ∨ v'.ownBlock = some w.heap.size) → K (a.put o.dst v') w') : Oper.wp P o a w K Q:=by
 obtain ⟨v',w',hrun,r1,r2,_,r3⟩:=run_append_own_at (P:=P) w base t o.type e i z size bytes ht hi hz hsize hby hzs hsz v n xs hown ad m c news hl hnews h1 h63 hbytes hbase
 unfold Oper.wp
 simp [execOp,hop,resolve,invoke,builtin,hs,hx,hrun,Result.andThen]
 exact hK v' w' r1 r2 r3
structure BlkAt (w : World) (g : Nat) (C : List Value) : Prop where
 c : ∀ j,j < C.length → w.cell? ⟨g,j,none⟩ = C[j]?
 fz : ∀ o,w.frozen? ⟨g,o,none⟩ = false
 lt : g < w.heap.size
theorem blk_below {w w' : World} {B g : Nat} {C : List Value} (h : BlkAt w g C) (hb : Below B w w') (hg : g < B) : BlkAt w' g C :=
 ⟨fun j hj => (hb.cell (p:=⟨g,j,none⟩) hg).trans (h.c j hj),fun o => (hb.frozen (p:=⟨g,o,none⟩) hg).trans (h.fz o),Nat.lt_of_lt_of_le h.lt hb.size⟩
theorem blk_set {w : World} {g : Nat} {C : List Value} (h : BlkAt w g C) (k : Nat) (v : Value) (hk : k < C.length) : BlkAt (w.setCell ⟨g,k,none⟩ v) g (C.set k v):=by
 refine ⟨fun j hj => ?_,fun o => (World.frozen?_setCell _ _ _ _).trans (h.fz o),by simpa [World.setCell] using h.lt⟩
 rw [List.length_set] at hj
 rw [List.getElem?_set]
 by_cases e : k = j
 ·subst e
  have h1:=h.c k hk
  rw [List.getElem?_eq_getElem hk] at h1
  rw [World.cell?_setCell_same _ _ _ h1]
  simp [hk]
 ·rw [World.cell?_setCell_other _ _ _ _ (by simp)]
  simp [e,h.c j hj]
theorem blk_grown {w w' : World} {g : Nat} {C : List Value} {row : Option Nat} (h : BlkAt w g C) (hg : w.grownBy w' row) (hr : row ≠ some g) : BlkAt w' g C :=
 ⟨fun j hj => (World.cell?_of_block (w:=w) (hg.block g h.lt hr.symm)).trans (h.c j hj),fun o => (World.frozen?_of_block (w:=w) (hg.block g h.lt hr.symm)).trans (h.fz o),Nat.lt_of_lt_of_le h.lt hg.size⟩
structure KeptB (w w' : World) (bad : Nat → Prop) : Prop where
 b0 : Below 0 w w'
 block : ∀ k,k < w.heap.size → ¬ bad k → w'.heap[k]? = w.heap[k]?
theorem keptB_of_below {w w' : World} {bad : Nat → Prop} (h : Below w.heap.size w w') : KeptB w w' bad:=⟨h.mono (Nat.zero_le _),fun k hk _ => h.block k hk⟩
theorem keptB_trans {a b c : World} {bad : Nat → Prop} (h : KeptB a b bad) (k : KeptB b c bad) : KeptB a c bad :=
 ⟨h.b0.trans k.b0,fun i hi hn => (k.block i (Nat.lt_of_lt_of_le hi h.b0.size) hn).trans (h.block i hi hn)⟩
theorem keptB_mono {a b : World} {bad bad' : Nat → Prop} (h : KeptB a b bad) (hm : ∀ k,bad k → bad' k) : KeptB a b bad':=⟨h.b0,fun i hi hn => h.block i hi (fun hb => hn (hm i hb))⟩
theorem keptB_set {a b : World} {bad : Nat → Prop} (h : KeptB a b bad) {g : Nat} (hg : bad g) (o : Nat) (v : Value) : KeptB a (b.setCell ⟨g,o,none⟩ v) bad :=
 ⟨h.b0.setCell (p:=⟨g,o,none⟩) (Nat.zero_le _) v,fun i hi hn => (Below.heap_setCell b _ v i (fun e => hn (e ▸ hg))).trans (h.block i hi hn)⟩
theorem keptB_grown {a b c : World} {bad : Nat → Prop} {row : Option Nat} (h : KeptB a b bad) (hg : b.grownBy c row) (hr : ∀ k,row = some k → k < a.heap.size → bad k) : KeptB a c bad :=
 ⟨h.b0.grown hg (Nat.zero_le _) (fun k _ => Nat.zero_le k),fun i hi hn => (hg.block i (Nat.lt_of_lt_of_le hi h.b0.size) (fun e => hn (hr i e.symm hi))).trans (h.block i hi hn)⟩
theorem keptB_below {w w' : World} {bad : Nat → Prop} (h : KeptB w w' bad) {B : Nat} (hB : B ≤ w.heap.size) (hb : ∀ k,bad k → B ≤ k) : Below B w w' :=
 ⟨h.b0.os,h.b0.tape,h.b0.output,h.b0.size,fun k hk => h.block k (by omega) (fun hbk => by have:=hb k hbk;omega)⟩
theorem blk_kept {w w' : World} {g : Nat} {C : List Value} {bad : Nat → Prop} (h : BlkAt w g C) (hk : KeptB w w' bad) (hb : ¬ bad g) : BlkAt w' g C :=
 ⟨fun j hj => (World.cell?_of_block (w:=w) (hk.block g h.lt hb)).trans (h.c j hj),fun o => (World.frozen?_of_block (w:=w) (hk.block g h.lt hb)).trans (h.fz o),Nat.lt_of_lt_of_le h.lt hk.b0.size⟩
theorem kept_cell {w w' : World} {bad : Nat → Prop} (h : KeptB w w' bad) {g : Nat} (o : Nat) (hg : g < w.heap.size) (hb : ¬ bad g) : w'.cell? ⟨g,o,none⟩ = w.cell? ⟨g,o,none⟩:=World.cell?_of_block (w:=w) (h.block g hg hb)
theorem own_kept {w w' : World} {base size n : Nat} {e : TypeId} {v : Value} {xs : List Value} {bad : Nat → Prop} (h : w.ownsRow base e size v n xs) (hk : KeptB w w' bad) (hb : ∀ k,v.ownBlock = some k → ¬ bad k) : w'.ownsRow base e size v n xs:=by
 obtain ⟨h0,h1⟩:=h
 refine ⟨h0,?_⟩
 rcases h1 with h1 | ⟨g,cap,cur,e1,hb',hg,hle,hm,hs,ht⟩
 ·exact .inl h1
 ·have hsz : g < w.heap.size:=(Array.getElem?_eq_some_iff.1 hg).1
  exact .inr ⟨g,cap,cur,e1,hb',by rw [hk.block g hsz (hb g (by rw [e1];rfl))];exact hg,hle,hm,hs,ht⟩
theorem own_at {w : World} {base size n : Nat} {e : TypeId} {v : Value} {xs : List Value} (h : w.ownsRow base e size v n xs) : ∀ k,v.ownBlock = some k → base ≤ k ∧ k < w.heap.size:=by
 intro k hk
 rcases h.2 with ⟨rfl,-⟩ | ⟨g,cap,cur,rfl,hb,hg,-⟩
 ·simp [Value.ownBlock] at hk
 ·simp only [Value.ownBlock,Option.some.injEq] at hk
  subst hk
  exact ⟨hb,(Array.getElem?_eq_some_iff.1 hg).1⟩
theorem owns_baseG {w : World} {base base' n size : Nat} {e : TypeId} {v : Value} {xs : List Value} (h : w.ownsRow base e size v n xs) (hb : base' ≤ base) : w.ownsRow base' e size v n xs:=by
 obtain ⟨h0,h1⟩:=h
 refine ⟨h0,?_⟩
 rcases h1 with h1 | ⟨g,cap,cur,e1,hb',hg',hle,hm,hs,ht⟩
 ·exact .inl h1
 ·exact .inr ⟨g,cap,cur,e1,by omega,hg',hle,hm,hs,ht⟩
section
variable {α : Type} {S : Nat} {f : α → List Value}
def rowOf (f : α → List Value) (l : List α) : List Value:=l.flatMap f
theorem rowOf_cons (a : α) (l : List α) : rowOf f (a :: l) = f a ++ rowOf f l:=rfl
theorem rowOf_len (hf : ∀ a,(f a).length = S) (l : List α) : (rowOf f l).length = l.length * S:=by
 induction l with
 | nil => simp [rowOf]
 | cons a l ih =>
  rw [rowOf_cons,List.length_append,ih,hf,List.length_cons,Nat.add_mul,Nat.one_mul,Nat.add_comm]
theorem rowOf_at (hf : ∀ a,(f a).length = S) : ∀ (l : List α) (i j : Nat) (n : α),l[i]? = some n → j < S → (rowOf f l)[i * S + j]? = (f n)[j]?
 | [],i,j,n,h,_ => by simp at h
 | a :: l,0,j,n,h,hj => by
  simp at h
  subst h
  rw [rowOf_cons,Nat.zero_mul,Nat.zero_add,List.getElem?_append_left (by rw [hf];exact hj)]
 | a :: l,i + 1,j,n,h,hj => by
  simp at h
  have e : (i + 1) * S + j = S + (i * S + j):=by rw [Nat.add_mul,Nat.one_mul];omega
  rw [rowOf_cons,e,List.getElem?_append_right (by rw [hf];omega),hf,show S + (i * S + j) - S = i * S + j from by omega]
  exact rowOf_at hf l i j n h hj
theorem idx_lt {i j n S : Nat} (hi : i < n) (hj : j < S) : i * S + j < n * S:=by
 have h : (i + 1) * S ≤ n * S:=Nat.mul_le_mul_right S hi
 rw [Nat.add_mul,Nat.one_mul] at h
 omega
theorem rowOf_val (hf : ∀ a,(f a).length = S) {w : World} {l : List α} {ao : Option Addr} {cap : Nat} (h : RowG w (.slice ao l.length cap) S l.length (rowOf f l)) (i : Nat) (hi : i < l.length) :
  ∃ g off,ao = some ⟨g,off,none⟩ ∧ (∀ j,j < S → w.cell? ⟨g,off + (i * S + j),none⟩ = (f l[i])[j]?) ∧ l.length ≤ cap ∧ cap ≤ maxLen ∧ g < w.heap.size:=by
 obtain ⟨h0,h⟩:=h
 rcases h with ⟨-,h⟩ | ⟨g,off,cap',e,h1,h2,h3,h4⟩
 ·omega
 ·simp only [Value.slice.injEq] at e
  obtain ⟨rfl,-,rfl⟩:=e
  exact ⟨g,off,rfl,fun j hj => by rw [h4 (i * S + j) (idx_lt hi hj),rowOf_at hf l i j l[i] (List.getElem?_eq_getElem hi) hj],h1,h2,h3⟩
end
end Go.Proofs.YteaanpdckkmjoaaGreatDoor
