/- Several texts in one, each with its own head. What is proved: what the parts say. Conditions: theirs. -/
import Derived.Test.YteaanpdckkmjoaaGreatDoorNumPureJ
import Derived.Maps.AppendAt
import Derived.Test.YteaanpdckkmjoaaGreatDoorLexPureJ
import Derived.Test.YteaanpdckkmjoaaGreatDoorPrs0J
set_option linter.unusedVariables false
set_option linter.unusedSimpArgs false
set_option maxRecDepth 100000
set_option maxHeartbeats 8000000
namespace Go.Proofs.YteaanpdckkmjoaaGreatDoor
open Go.ChangeShapes Go.WideShapes Go.ChangeAt Go.RowKit
theorem one_nodes (l : List Nd) : ∀ u ∈ rowN l,u.oneCell' = true:=by
 intro u hu
 unfold rowN at hu
 obtain ⟨n,-,hn⟩:=List.mem_flatMap.1 hu
 simp [cellsN] at hn
 rcases hn with rfl | rfl | rfl | rfl | rfl | rfl <;> rfl
def putN (op : Int) (l m : List Nd) : List Nd:=(l ++ m.map (mv (l.length : Int))) ++ [⟨op,(l.length : Int) - 1,if m.length = 0 then 0 else ((l ++ m.map (mv (l.length : Int))).length : Int) - 1,0,0,0⟩]
theorem rput_ok (g : Nat) (op : Int) (u v wv : Value) (all : Ws) (n : Nat) (ws : Ws) (d : Int) (w : World) (h : RD w g wv all n ws d 0) (l m : List Nd) (hl0 : 0 < l.length) (hlm : l.length + m.length + 1 ≤ 40)
  (hu : RowG w u 6 l.length (rowN l)) (hv : RowG w v 6 m.length (rowN m)) (h2 : ∀ n ∈ m,Mvb n) :
  Calls Tryz.prog 59 #[.pointer (some ⟨g,0,none⟩),.int .i64 op,u,v] w fun r w' => ∃ u',r = .returned u' ∧ w'.ownsRow w.heap.size 91 6 u' (putN op l m).length (rowN (putN op l m)) ∧ Below w.heap.size w w':=by
 have c3 : w.cell? ⟨g,3,none⟩ = some (.int .i64 0):=h.bd.c 3 (by simp)
 obtain ⟨i0,hi0,hz0,hz1,hz2⟩:=info_parts infoN
 obtain ⟨a2,c2,rfl⟩:=rowG_shape hv
 obtain ⟨g1,o1,c1,rfl,k1,k2,k3,k4⟩ : ∃ g1 o1 c1,u = .slice (some ⟨g1,o1,none⟩) l.length c1 ∧ l.length ≤ c1 ∧ c1 ≤ maxLen ∧ g1 < w.heap.size ∧ ∀ j,j < l.length * 6 → w.cell? ⟨g1,o1 + j,none⟩ = (rowN l)[j]?:=by
  rcases hu.2 with ⟨-,h9⟩ | h9
  ·omega
  ·exact h9
 have CN : Hid (∀ j x,(rowN l)[j]? = some x → w.cell? ((⟨g1,o1,none⟩ : Addr).add j) = some x):=fun j x hx => by
  have hj : j < l.length * 6:=by have:=(List.getElem?_eq_some_iff.1 hx).1;rw [rowN_len] at this;exact this
  rw [add_at,k4 j hj]
  exact hx
 have HV:=hidE hv
 have H2:=hidE h2
 have q0 : decide ((40 : Int) < (l.length : Int) + (m.length : Int) + 1) = false:=by simp;omega
 have q00 : ¬ (40 : Int) < (l.length : Int) + (m.length : Int) + 1:=by omega
 have HA:=hidE (fun w => rarity_any op w)
 unfold maxLen at k2
 clear h hu hv h2 k4 k3
 go_enter Tryz.func59,Tryz.ntmps59
 go_wp2_with (at_builtin;go_must (refine wpList_append_own_at _ rfl (.const (.slice none 0 0)) (.tmp 30) 23 rfl w.heap.size 91 i0 (.agg #[.int .i64 0,.int .i64 0,.int .i64 0,.int .i64 0,.int .i64 0,.int .i64 0]) 6 48 Tryz.underlying23 hi0 hz0 hz1 hz2 rfl (by decide) _ 0 [] rfl (World.ownsRow_nil _ _ _ _) ⟨g1,o1,none⟩ l.length c1 (rowN l) rfl (by rw [rowN_len]) CN.out (one_nodes l) (by show _ ≤ 2 ^ 63 - 1;omega) (by omega) (Nat.le_refl _) ?_))
 intro v' w1 ho1 hg1 _ _
 have HB1 : Hid (Below w.heap.size w w1):=(Below.refl w.heap.size w).grown hg1 (Nat.le_refl _) (fun k hk => by cases hk)
 have HO1 : Hid (w1.ownsRow w.heap.size 91 6 v' l.length (rowN l)):=by
  show w1.ownsRow w.heap.size 91 6 v' l.length (rowN l)
  simpa using ho1
 obtain ⟨a9,c9,rfl⟩:=owns_shapeE HO1.out
 clear ho1 hg1 CN
 go_wp2_with fail
 go_loopw [9,10] (fun v i wr => ∃ (k : Nat) (us : List Nd),k ≤ m.length ∧ i = .int .i64 k ∧ us.length ≤ l.length + k ∧ Hid (wr.ownsRow w.heap.size 91 6 v us.length (rowN us)) ∧ Hid (Below w.heap.size w wr) ∧ Hid (us = l ++ (m.take k).map (mv (l.length : Int)))) (fun _ i _ => m.length - (intOf i).toNat)
 case atStart => exact ⟨0,l,Nat.zero_le _,rfl,Nat.le_refl _,HO1,HB1,by show _ = _;simp⟩
 case round =>
  clear HO1 HB1
  obtain ⟨k,us,hk,rfl,hus,HO,HB,HU⟩:=hrel
  obtain ⟨ao3,cap3,rfl⟩:=owns_shapeE HO.out
  by_cases hlt : k < m.length
  ·obtain ⟨g,off,rfl,hnode,l1,l2,l3⟩:=rowN_node HV.out _ hlt
   obtain ⟨m1,m2,m3,m4⟩:=H2.out _ (List.getElem_mem hlt)
   have HTK : Hid (m.take (k + 1) = m.take k ++ [m[k]]):=by show _ = _;simp
   generalize m[k] = nd at *
   obtain ⟨n0,n1,n2,n3,n4,n5⟩:=nodeAt_below hnode HB.out l3
   clear hnode
   unfold maxLen at l2
   obtain ⟨op2,x,y,nn,kk,nv⟩:=nd
   simp only at n0 n1 n2 n3 n4 n5 m1 m2 m3 m4
   have HAR:=hidE (fun w => rarity_any op2 w)
   by_cases a1 : ar op2 = 1
   ·have q1 : decide ((0 : Int) < ar op2) = true:=by simp;omega
    have q2 : decide ((1 : Int) < ar op2) = false:=by simp;omega
    have HMV : Hid (mv (l.length : Int) ⟨op2,x,y,nn,kk,nv⟩ = ⟨op2,x + (l.length : Int),y,nn,kk,nv⟩):=by show _ = _;unfold mv;rw [if_pos a1]
    clear a1
    generalize ar op2 = aa at *
    go_wp2_with (first | (go_at_call 63;refine (HAR.out _).mono ?_;rintro e w' ⟨rfl,rfl⟩) | (at_builtin;go_must (refine wpList_append_own _ rfl (.tmp 61) (.tmp 63) 23 rfl w.heap.size 91 i0 (.agg #[.int .i64 0,.int .i64 0,.int .i64 0,.int .i64 0,.int .i64 0,.int .i64 0]) 6 48 Tryz.underlying23 hi0 hz0 hz1 hz2 rfl (by decide) _ _ _ rfl ((HO.out.alloc _).alloc _) ⟨wr.heap.size + 1,0,none⟩ 1 1 (cellsN (⟨op2,x + (l.length : Int),y,nn,kk,nv⟩ : Nd)) rfl rfl (by have q:=cell_six_newE (wr.alloc (.cells (cellsN (⟨op2,x + (l.length : Int),y,nn,kk,nv⟩ : Nd)).toArray 91)) (.int .i64 ((⟨op2,x + (l.length : Int),y,nn,kk,nv⟩ : Nd)).op) (.int .i64 ((⟨op2,x + (l.length : Int),y,nn,kk,nv⟩ : Nd)).x) (.int .i64 ((⟨op2,x + (l.length : Int),y,nn,kk,nv⟩ : Nd)).y) (.int .i64 ((⟨op2,x + (l.length : Int),y,nn,kk,nv⟩ : Nd)).n) (.int .i64 ((⟨op2,x + (l.length : Int),y,nn,kk,nv⟩ : Nd)).k) (.int .i64 ((⟨op2,x + (l.length : Int),y,nn,kk,nv⟩ : Nd)).v) 91;simpa [cellsN] using q) (by intro u hu;simp [cellsN] at hu;rcases hu with rfl | rfl | rfl | rfl | rfl | rfl <;> rfl) (by show _ ≤ 2 ^ 63 - 1;omega) (by omega) (by have:=HB.out.size;simp;omega) ?_)))
    intro v' w5 ho5 hg5 _
    have ho6 : w5.ownsRow w.heap.size 91 6 v' (us ++ [(⟨op2,x + (l.length : Int),y,nn,kk,nv⟩ : Nd)]).length (rowN (us ++ [(⟨op2,x + (l.length : Int),y,nn,kk,nv⟩ : Nd)])):=by
     rw [rowN_app,List.length_append]
     exact ho5
    have HO5:=hidE ho6
    have HB5 : Hid (Below w.heap.size w w5):=((HB.out.alloc (by have:=HB.out.size;omega) _).alloc (by have:=HB.out.size;simp;omega) _).grown hg5 (by have:=HB.out.size;simp;omega) (fun k hk => (HO.out.lt k hk).1)
    clear ho5 hg5 ho6
    go_wp2_with fail
    go_roundw
    case rel => exact ⟨k + 1,us ++ [(⟨op2,x + (l.length : Int),y,nn,kk,nv⟩ : Nd)],by omega,by go_num,by simp;omega,HO5,HB5,by show _ = _;rw [HU.out,HTK.out];simp [HMV.out]⟩
    case measure => simp [intOf];omega
   ·by_cases a2 : ar op2 = 2
    ·have q1 : decide ((0 : Int) < ar op2) = true:=by simp;omega
     have q2 : decide ((1 : Int) < ar op2) = true:=by simp;omega
     have HMV : Hid (mv (l.length : Int) ⟨op2,x,y,nn,kk,nv⟩ = ⟨op2,x + (l.length : Int),y + (l.length : Int),nn,kk,nv⟩):=by show _ = _;unfold mv;rw [if_neg a1,if_pos a2]
     clear a1 a2
     generalize ar op2 = aa at *
     go_wp2_with (first | (go_at_call 63;refine (HAR.out _).mono ?_;rintro e w' ⟨rfl,rfl⟩) | (at_builtin;go_must (refine wpList_append_own _ rfl (.tmp 61) (.tmp 63) 23 rfl w.heap.size 91 i0 (.agg #[.int .i64 0,.int .i64 0,.int .i64 0,.int .i64 0,.int .i64 0,.int .i64 0]) 6 48 Tryz.underlying23 hi0 hz0 hz1 hz2 rfl (by decide) _ _ _ rfl ((HO.out.alloc _).alloc _) ⟨wr.heap.size + 1,0,none⟩ 1 1 (cellsN (⟨op2,x + (l.length : Int),y + (l.length : Int),nn,kk,nv⟩ : Nd)) rfl rfl (by have q:=cell_six_newE (wr.alloc (.cells (cellsN (⟨op2,x + (l.length : Int),y + (l.length : Int),nn,kk,nv⟩ : Nd)).toArray 91)) (.int .i64 ((⟨op2,x + (l.length : Int),y + (l.length : Int),nn,kk,nv⟩ : Nd)).op) (.int .i64 ((⟨op2,x + (l.length : Int),y + (l.length : Int),nn,kk,nv⟩ : Nd)).x) (.int .i64 ((⟨op2,x + (l.length : Int),y + (l.length : Int),nn,kk,nv⟩ : Nd)).y) (.int .i64 ((⟨op2,x + (l.length : Int),y + (l.length : Int),nn,kk,nv⟩ : Nd)).n) (.int .i64 ((⟨op2,x + (l.length : Int),y + (l.length : Int),nn,kk,nv⟩ : Nd)).k) (.int .i64 ((⟨op2,x + (l.length : Int),y + (l.length : Int),nn,kk,nv⟩ : Nd)).v) 91;simpa [cellsN] using q) (by intro u hu;simp [cellsN] at hu;rcases hu with rfl | rfl | rfl | rfl | rfl | rfl <;> rfl) (by show _ ≤ 2 ^ 63 - 1;omega) (by omega) (by have:=HB.out.size;simp;omega) ?_)))
     intro v' w5 ho5 hg5 _
     have ho6 : w5.ownsRow w.heap.size 91 6 v' (us ++ [(⟨op2,x + (l.length : Int),y + (l.length : Int),nn,kk,nv⟩ : Nd)]).length (rowN (us ++ [(⟨op2,x + (l.length : Int),y + (l.length : Int),nn,kk,nv⟩ : Nd)])):=by
      rw [rowN_app,List.length_append]
      exact ho5
     have HO5:=hidE ho6
     have HB5 : Hid (Below w.heap.size w w5):=((HB.out.alloc (by have:=HB.out.size;omega) _).alloc (by have:=HB.out.size;simp;omega) _).grown hg5 (by have:=HB.out.size;simp;omega) (fun k hk => (HO.out.lt k hk).1)
     clear ho5 hg5 ho6
     go_wp2_with fail
     go_roundw
     case rel => exact ⟨k + 1,us ++ [(⟨op2,x + (l.length : Int),y + (l.length : Int),nn,kk,nv⟩ : Nd)],by omega,by go_num,by simp;omega,HO5,HB5,by show _ = _;rw [HU.out,HTK.out];simp [HMV.out]⟩
     case measure => simp [intOf];omega
    ·have a3 : ar op2 ≤ 0:=by have:=ar_le op2;omega
     have q1 : decide ((0 : Int) < ar op2) = false:=by simp;omega
     have q2 : decide ((1 : Int) < ar op2) = false:=by simp;omega
     have HMV : Hid (mv (l.length : Int) ⟨op2,x,y,nn,kk,nv⟩ = ⟨op2,x,y,nn,kk,nv⟩):=by show _ = _;unfold mv;rw [if_neg a1,if_neg a2]
     clear a1 a2 a3
     generalize ar op2 = aa at *
     go_wp2_with (first | (go_at_call 63;refine (HAR.out _).mono ?_;rintro e w' ⟨rfl,rfl⟩) | (at_builtin;go_must (refine wpList_append_own _ rfl (.tmp 61) (.tmp 63) 23 rfl w.heap.size 91 i0 (.agg #[.int .i64 0,.int .i64 0,.int .i64 0,.int .i64 0,.int .i64 0,.int .i64 0]) 6 48 Tryz.underlying23 hi0 hz0 hz1 hz2 rfl (by decide) _ _ _ rfl ((HO.out.alloc _).alloc _) ⟨wr.heap.size + 1,0,none⟩ 1 1 (cellsN (⟨op2,x,y,nn,kk,nv⟩ : Nd)) rfl rfl (by have q:=cell_six_newE (wr.alloc (.cells (cellsN (⟨op2,x,y,nn,kk,nv⟩ : Nd)).toArray 91)) (.int .i64 ((⟨op2,x,y,nn,kk,nv⟩ : Nd)).op) (.int .i64 ((⟨op2,x,y,nn,kk,nv⟩ : Nd)).x) (.int .i64 ((⟨op2,x,y,nn,kk,nv⟩ : Nd)).y) (.int .i64 ((⟨op2,x,y,nn,kk,nv⟩ : Nd)).n) (.int .i64 ((⟨op2,x,y,nn,kk,nv⟩ : Nd)).k) (.int .i64 ((⟨op2,x,y,nn,kk,nv⟩ : Nd)).v) 91;simpa [cellsN] using q) (by intro u hu;simp [cellsN] at hu;rcases hu with rfl | rfl | rfl | rfl | rfl | rfl <;> rfl) (by show _ ≤ 2 ^ 63 - 1;omega) (by omega) (by have:=HB.out.size;simp;omega) ?_)))
     intro v' w5 ho5 hg5 _
     have ho6 : w5.ownsRow w.heap.size 91 6 v' (us ++ [(⟨op2,x,y,nn,kk,nv⟩ : Nd)]).length (rowN (us ++ [(⟨op2,x,y,nn,kk,nv⟩ : Nd)])):=by
      rw [rowN_app,List.length_append]
      exact ho5
     have HO5:=hidE ho6
     have HB5 : Hid (Below w.heap.size w w5):=((HB.out.alloc (by have:=HB.out.size;omega) _).alloc (by have:=HB.out.size;simp;omega) _).grown hg5 (by have:=HB.out.size;simp;omega) (fun k hk => (HO.out.lt k hk).1)
     clear ho5 hg5 ho6
     go_wp2_with fail
     go_roundw
     case rel => exact ⟨k + 1,us ++ [(⟨op2,x,y,nn,kk,nv⟩ : Nd)],by omega,by go_num,by simp;omega,HO5,HB5,by show _ = _;rw [HU.out,HTK.out];simp [HMV.out]⟩
     case measure => simp [intOf];omega
  ·have hml : k = m.length:=by omega
   have hU:=HU.out
   rw [hml,List.take_length] at hU
   have hge : ¬ ((k : Int) < (m.length : Int)):=by omega
   by_cases hm0 : m.length = 0
   ·have HJ : Hid (putN op l m = us ++ [⟨op,(l.length : Int) - 1,0,0,0,0⟩]):=by show _ = _;unfold putN;rw [← hU,if_pos hm0]
    have q3 : decide ((0 : Int) < (m.length : Int)) = false:=decide_eq_false (by omega)
    have q4 : ¬ (0 : Int) < (m.length : Int):=by omega
    clear hU HU
    go_wp2_with (at_builtin;go_must (refine wpList_append_own _ rfl (.tmp 77) (.tmp 79) 23 rfl w.heap.size 91 i0 (.agg #[.int .i64 0,.int .i64 0,.int .i64 0,.int .i64 0,.int .i64 0,.int .i64 0]) 6 48 Tryz.underlying23 hi0 hz0 hz1 hz2 rfl (by decide) _ _ _ rfl ((HO.out.alloc _).alloc _) ⟨wr.heap.size + 1,0,none⟩ 1 1 (cellsN (⟨op,(l.length : Int) - 1,0,0,0,0⟩ : Nd)) rfl rfl (by have q:=cell_six_newE (wr.alloc (.cells (cellsN (⟨op,(l.length : Int) - 1,0,0,0,0⟩ : Nd)).toArray 91)) (.int .i64 ((⟨op,(l.length : Int) - 1,0,0,0,0⟩ : Nd)).op) (.int .i64 ((⟨op,(l.length : Int) - 1,0,0,0,0⟩ : Nd)).x) (.int .i64 ((⟨op,(l.length : Int) - 1,0,0,0,0⟩ : Nd)).y) (.int .i64 ((⟨op,(l.length : Int) - 1,0,0,0,0⟩ : Nd)).n) (.int .i64 ((⟨op,(l.length : Int) - 1,0,0,0,0⟩ : Nd)).k) (.int .i64 ((⟨op,(l.length : Int) - 1,0,0,0,0⟩ : Nd)).v) 91;simpa [cellsN] using q) (by intro u hu;simp [cellsN] at hu;rcases hu with rfl | rfl | rfl | rfl | rfl | rfl <;> rfl) (by show _ ≤ 2 ^ 63 - 1;omega) (by omega) (by have:=HB.out.size;simp;omega) ?_))
    intro v' w5 ho5 hg5 _
    have ho6 : w5.ownsRow w.heap.size 91 6 v' (putN op l m).length (rowN (putN op l m)):=by
     rw [HJ.out,rowN_app,List.length_append]
     exact ho5
    have HO5:=hidE ho6
    have HB5 : Hid (Below w.heap.size w w5):=((HB.out.alloc (by have:=HB.out.size;omega) _).alloc (by have:=HB.out.size;simp;omega) _).grown hg5 (by have:=HB.out.size;simp;omega) (fun k hk => (HO.out.lt k hk).1)
    clear ho5 hg5 ho6
    go_wp2_with fail
    go_ret
    exact ⟨v',rfl,HO5.out,HB5.out⟩
   ·have HJ : Hid (putN op l m = us ++ [⟨op,(l.length : Int) - 1,(us.length : Int) - 1,0,0,0⟩]):=by show _ = _;unfold putN;rw [← hU,if_neg hm0]
    have q3 : decide ((0 : Int) < (m.length : Int)) = true:=decide_eq_true (by omega)
    have q4 : (0 : Int) < (m.length : Int):=by omega
    clear hU HU
    go_wp2_with (at_builtin;go_must (refine wpList_append_own _ rfl (.tmp 77) (.tmp 79) 23 rfl w.heap.size 91 i0 (.agg #[.int .i64 0,.int .i64 0,.int .i64 0,.int .i64 0,.int .i64 0,.int .i64 0]) 6 48 Tryz.underlying23 hi0 hz0 hz1 hz2 rfl (by decide) _ _ _ rfl ((HO.out.alloc _).alloc _) ⟨wr.heap.size + 1,0,none⟩ 1 1 (cellsN (⟨op,(l.length : Int) - 1,(us.length : Int) - 1,0,0,0⟩ : Nd)) rfl rfl (by have q:=cell_six_newE (wr.alloc (.cells (cellsN (⟨op,(l.length : Int) - 1,(us.length : Int) - 1,0,0,0⟩ : Nd)).toArray 91)) (.int .i64 ((⟨op,(l.length : Int) - 1,(us.length : Int) - 1,0,0,0⟩ : Nd)).op) (.int .i64 ((⟨op,(l.length : Int) - 1,(us.length : Int) - 1,0,0,0⟩ : Nd)).x) (.int .i64 ((⟨op,(l.length : Int) - 1,(us.length : Int) - 1,0,0,0⟩ : Nd)).y) (.int .i64 ((⟨op,(l.length : Int) - 1,(us.length : Int) - 1,0,0,0⟩ : Nd)).n) (.int .i64 ((⟨op,(l.length : Int) - 1,(us.length : Int) - 1,0,0,0⟩ : Nd)).k) (.int .i64 ((⟨op,(l.length : Int) - 1,(us.length : Int) - 1,0,0,0⟩ : Nd)).v) 91;simpa [cellsN] using q) (by intro u hu;simp [cellsN] at hu;rcases hu with rfl | rfl | rfl | rfl | rfl | rfl <;> rfl) (by show _ ≤ 2 ^ 63 - 1;omega) (by omega) (by have:=HB.out.size;simp;omega) ?_))
    intro v' w5 ho5 hg5 _
    have ho6 : w5.ownsRow w.heap.size 91 6 v' (putN op l m).length (rowN (putN op l m)):=by
     rw [HJ.out,rowN_app,List.length_append]
     exact ho5
    have HO5:=hidE ho6
    have HB5 : Hid (Below w.heap.size w w5):=((HB.out.alloc (by have:=HB.out.size;omega) _).alloc (by have:=HB.out.size;simp;omega) _).grown hg5 (by have:=HB.out.size;simp;omega) (fun k hk => (HO.out.lt k hk).1)
    clear ho5 hg5 ho6
    go_wp2_with fail
    go_ret
    exact ⟨v',rfl,HO5.out,HB5.out⟩
theorem truthQ_T (w : World) : Calls Tryz.prog 102 #[.bool true] w fun e w' => e = .returned (.agg #[.int .i64 2,.int .i64 1]) ∧ w' = w.alloc (.cells #[.int .i64 2,.int .i64 1] 89):=by
 go_enter Tryz.func102,Tryz.ntmps102
 go_wp2_with fail
 exact bodyPost_ret (v:=.agg #[.int .i64 2,.int .i64 1]) (by simp [results,Tryz.results102,go_sem]) rfl ⟨rfl,rfl⟩
theorem truthQ_F (w : World) : Calls Tryz.prog 102 #[.bool false] w fun e w' => e = .returned (.agg #[.int .i64 2,.int .i64 0]) ∧ w' = w.alloc (.cells #[.int .i64 2,.int .i64 0] 89):=by
 go_enter Tryz.func102,Tryz.ntmps102
 go_wp2_with fail
 exact bodyPost_ret (v:=.agg #[.int .i64 2,.int .i64 0]) (by simp [results,Tryz.results102,go_sem]) rfl ⟨rfl,rfl⟩
theorem voQ_null (s : ByteArray) (w : World) (tN : (s.toList == [110,117,108,108]) = true) :
  Calls Tryz.prog 83 #[.string s] w fun e w' => e = .returned (.tuple #[.agg #[.int .i64 0,.int .i64 0],.int .i64 0]) ∧ Below w.heap.size w w':=by
 go_enter Tryz.func83,Tryz.ntmps83
 go_wp2_with fail
 refine bodyPost_ret (v:=.tuple #[.agg #[.int .i64 0,.int .i64 0],.int .i64 0]) (by simp [results,Tryz.results83,go_sem]) rfl ⟨rfl,?_⟩
 repeat (first | exact Below.refl _ _ | refine Below.alloc ?_ (by simp <;> omega) _ | refine Below.setCell ?_ (by simp <;> omega) _)
theorem voQ_true (s : ByteArray) (w : World) (tN : (s.toList == [110,117,108,108]) = false) (tT : (s.toList == [116,114,117,101]) = true) :
  Calls Tryz.prog 83 #[.string s] w fun e w' => e = .returned (.tuple #[.agg #[.int .i64 2,.int .i64 1],.int .i64 0]) ∧ Below w.heap.size w w':=by
 go_enter Tryz.func83,Tryz.ntmps83
 go_wp2_with (go_at_call 102;refine (truthQ_T _).mono ?_;rintro e w' ⟨rfl,rfl⟩)
 refine bodyPost_ret (v:=.tuple #[.agg #[.int .i64 2,.int .i64 1],.int .i64 0]) (by simp [results,Tryz.results83,go_sem]) rfl ⟨rfl,?_⟩
 repeat (first | exact Below.refl _ _ | refine Below.alloc ?_ (by simp <;> omega) _ | refine Below.setCell ?_ (by simp <;> omega) _)
theorem voQ_false (s : ByteArray) (w : World) (tN : (s.toList == [110,117,108,108]) = false) (tT : (s.toList == [116,114,117,101]) = false) (tF : (s.toList == [102,97,108,115,101]) = true) :
  Calls Tryz.prog 83 #[.string s] w fun e w' => e = .returned (.tuple #[.agg #[.int .i64 2,.int .i64 0],.int .i64 0]) ∧ Below w.heap.size w w':=by
 go_enter Tryz.func83,Tryz.ntmps83
 go_wp2_with (go_at_call 102;refine (truthQ_F _).mono ?_;rintro e w' ⟨rfl,rfl⟩)
 refine bodyPost_ret (v:=.tuple #[.agg #[.int .i64 2,.int .i64 0],.int .i64 0]) (by simp [results,Tryz.results83,go_sem]) rfl ⟨rfl,?_⟩
 repeat (first | exact Below.refl _ _ | refine Below.alloc ?_ (by simp <;> omega) _ | refine Below.setCell ?_ (by simp <;> omega) _)
def lead : Code → Option Nat
 | .region id _ _ => some id
 | .seq a _ => lead a
 | .cond _ a _ => lead a
 | .block _ b => lead b
 | .loop b => lead b
 | .scope b => lead b
 | _ => none
def stm (n : Nat) : Code → Option Code
 | .seq a b => (stm n a).or (stm n b)
 | .region id ops d => if id = n then some (.region id ops d) else none
 | .cond c a b => if lead a = some n then some (.cond c a b) else (stm n a).or (stm n b)
 | .block i b => if lead b = some n then some (.block i b) else stm n b
 | .loop b => if lead b = some n then some (.loop b) else stm n b
 | .scope b => if lead b = some n then some (.scope b) else stm n b
 | _ => none
def rgn (n : Nat) : Code → Option Code
 | .region id ops d => if id = n then some (.region id ops d) else none
 | .seq a b => (rgn n a).or (rgn n b)
 | .cond _ a b => (rgn n a).or (rgn n b)
 | .block _ b => rgn n b
 | .loop b => rgn n b
 | .scope b => rgn n b
 | _ => none
theorem then_normal {next : Act → World → Prop} {Q : Exit → Act → World → Prop} {a : Act} {w : World} (h : next a w) : Exit.then next Q .normal a w:=h
theorem in_normal {Q : Exit → Act → World → Prop} {id : Nat} {a : Act} {w : World} (h : Q .normal a w) : Exit.inBlock id Q .normal a w:=h
theorem then_exit {K : Act → World → Prop} {Q : Exit → Act → World → Prop} {id : Nat} {a : Act} {w : World} (h : Q (.exit id) a w) : Exit.then K Q (.exit id) a w:=h
theorem in_exit {Q : Exit → Act → World → Prop} {id : Nat} {a : Act} {w : World} (h : Q .normal a w) : Exit.inBlock id Q (.exit id) a w:=by
 simp only [Exit.inBlock,if_true]
 exact h
theorem some_at {t : List Value} {f : Nat → Value} {i : Nat} {v : Value} (h : t[i]? = some (f i)) (hv : t[i]? = some v) : f i = v:=Option.some.inj (h.symm.trans hv)
theorem pan_put {Q : Exit → Act → World → Prop} (h : ∀ c (a a' : Act) w,a.defers = a'.defers → Q (.panic c) a w → Q (.panic c) a' w) : ∀ c (a : Act) o v w,Q (.panic c) (a.put o v) w → Q (.panic c) a w:=fun c a o v w hq => h c _ _ w (by cases o <;> rfl) hq
theorem pan_body {P : Program} {fn : Func} {R : Ending → World → Prop} : ∀ c (a : Act) o v w,bodyPost P fn R (.panic c) (a.put o v) w → bodyPost P fn R (.panic c) a w:=pan_put (fun c a a' w he h => ⟨he ▸ h.1,h.2⟩)
theorem pan_then {K : Act → World → Prop} {Q : Exit → Act → World → Prop} (h : ∀ c (a : Act) o v w,Q (.panic c) (a.put o v) w → Q (.panic c) a w) : ∀ c (a : Act) o v w,Exit.then K Q (.panic c) (a.put o v) w → Exit.then K Q (.panic c) a w:=h
theorem pan_block {id : Nat} {Q : Exit → Act → World → Prop} (h : ∀ c (a : Act) o v w,Q (.panic c) (a.put o v) w → Q (.panic c) a w) : ∀ c (a : Act) o v w,Exit.inBlock id Q (.panic c) (a.put o v) w → Exit.inBlock id Q (.panic c) a w:=h
theorem listed30 (t : List Value) (h : t.length = 30) : ∃ f : Nat → Value,t = f 0 :: f 1 :: f 2 :: f 3 :: f 4 :: f 5 :: f 6 :: f 7 :: f 8 :: f 9 :: f 10 :: f 11 :: f 12 :: f 13 :: f 14 :: f 15 :: f 16 :: f 17 :: f 18 :: f 19 :: f 20 :: f 21 :: f 22 :: f 23 :: f 24 :: f 25 :: f 26 :: f 27 :: f 28 :: f 29 :: [] ∧ ∀ i,i < 30 → t[i]? = some (f i):=by
 have e1 : t = (List.range 30).map (fun i => t.getD i undef):=by
  apply List.ext_getElem
  ·simp [h]
  ·intro i h1 h2
   simp [List.getD,h1]
 refine ⟨fun i => t.getD i undef,?_,fun i hi => ?_⟩
 ·have e2 : ∀ g : Nat → Value,(List.range 30).map g = g 0 :: g 1 :: g 2 :: g 3 :: g 4 :: g 5 :: g 6 :: g 7 :: g 8 :: g 9 :: g 10 :: g 11 :: g 12 :: g 13 :: g 14 :: g 15 :: g 16 :: g 17 :: g 18 :: g 19 :: g 20 :: g 21 :: g 22 :: g 23 :: g 24 :: g 25 :: g 26 :: g 27 :: g 28 :: g 29 :: []:=fun _ => rfl
  exact e1.trans (e2 _)
 ·simp [List.getD,h,hi]
theorem takeSign_r1 (Q : Exit → Act → World → Prop) (C1 : Code) (h1 : rgn 1 (Tryz.f98.body.getD .skip) = some C1) (t : List Value) (gp gm g4 : Nat) (wv : Value) (ws : Ws) (d e rank : Int) (w : World) (ht : t.length = 30) (k0 : t[0]? = some (.pointer (some ⟨gp,0,none⟩))) (k1 : t[1]? = some (.int .i64 rank)) (k4 : t[4]? = some (.pointer (some ⟨g4,0,none⟩)))
  (h : PS w gp gm wv ws d e)
  (hpan : ∀ c (a : Act) o v w,Q (.panic c) (a.put o v) w → Q (.panic c) a w)
  (hQ : ∀ (t' : List Value) (gs : Nat) (s : Sg) (b : Bool) (w' : World),t'.length = 30 → t'[0]? = some (.pointer (some ⟨gp,0,none⟩)) → t'[1]? = some (.int .i64 rank) → t'[4]? = some (.pointer (some ⟨g4,0,none⟩)) → t'[6]? = some (.pointer (some ⟨gs,0,none⟩)) → t'[7]? = some (.bool b) → (sgIn sgL (hdW ws)).getD sg0 = s ∧ (sgIn sgL (hdW ws)).isSome = b ∧ BlkAt w' gs [.int .i64 s.rank,.int .i64 s.op,.bool s.turned,.bool s.denied] ∧ w.heap.size ≤ gs ∧ Below w.heap.size w w' → Q .normal { tmps:=t'.toArray,defers:=[] } w') :
  Code.wp Tryz.prog C1 Q { tmps:=t.toArray,defers:=[] } w:=by
 have HQ:=hidE hQ
 have HPN:=hidE hpan
 have dd : Below w.heap.size w ({ w with drawn:=w.drawn + 1 } : World):=(Below.refl _ _).drew
 have H:=hidE h
 have hS:=dd
 obtain ⟨s,hs⟩ : ∃ s,(sgIn sgL (hdW ws)).getD sg0 = s:=⟨_,rfl⟩
 obtain ⟨b,hb⟩ : ∃ b,(sgIn sgL (hdW ws)).isSome = b:=⟨_,rfl⟩
 have HS:=hidE hs
 have HBL:=hidE hb
 clear hQ hpan h dd hs hb
 obtain ⟨f,hf,hi⟩:=listed30 t ht
 have e0:=some_at (hi 0 (by decide)) k0
 have e1:=some_at (hi 1 (by decide)) k1
 have e4:=some_at (hi 4 (by decide)) k4
 rw [e0,e1,e4] at hf
 clear hi ht k0 e0 k1 e1 k4 e4
 subst hf
 unfold Tryz.f98 at h1
 simp [rgn] at h1
 subst h1
 refine wp_region_held (S:=fun w' => Below w.heap.size w w') (by kernel_rfl) ?_
 generalize ({ w with drawn:=w.drawn + 1 } : World) = wd at *
 refine held_take (i:=0) (v:=.pointer (some ⟨gp,0,none⟩)) (L:=#[true,false,false,false,false,false,false,false,false,false,false,false,false]) rfl (by kernel_rfl) (by kernel_rfl) (by kernel_rfl) (fun c a w h => HPN.out c a _ _ w h) (Or.inl ⟨by kernel_rfl,fun wq hq => by go_simp⟩) hS (by kernel_rfl) ?_
 refine held_take (i:=1) (v:=.pointer (some ⟨gp,0,none⟩)) (L:=#[true,true,false,false,false,false,false,false,false,false,false,false,false]) rfl (by kernel_rfl) (by kernel_rfl) (by kernel_rfl) (fun c a w h => HPN.out c a _ _ w h) (Or.inl ⟨by kernel_rfl,fun wq hq => by go_simp⟩) hS (by kernel_rfl) ?_
 refine held_take (i:=2) (v:=.pointer (some ⟨gp,1,none⟩)) (L:=#[true,true,true,false,false,false,false,false,false,false,false,false,false]) rfl (by kernel_rfl) (by kernel_rfl) (by kernel_rfl) (fun c a w h => HPN.out c a _ _ w h) (Or.inl ⟨by kernel_rfl,fun wq hq => by go_simp⟩) hS (by kernel_rfl) ?_
 refine held_take (i:=3) (v:=.map (some gm)) (L:=#[true,true,true,true,false,false,false,false,false,false,false,false,false]) rfl (by kernel_rfl) (by kernel_rfl) (by kernel_rfl) (fun c a w h => HPN.out c a _ _ w h) (Or.inl ⟨by kernel_rfl,fun wq hq => by have q:=(ps_kept H.out hq).bd.c 1 (by simp);go_simp⟩) hS (by kernel_rfl) ?_
 refine held_take (i:=4) (v:=.pointer (some ⟨gp,0,none⟩)) (L:=#[true,true,true,true,true,false,false,false,false,false,false,false,false]) rfl (by kernel_rfl) (by kernel_rfl) (by kernel_rfl) (fun c a w h => HPN.out c a _ _ w h) (Or.inl ⟨by kernel_rfl,fun wq hq => by go_simp⟩) hS (by kernel_rfl) ?_
 refine held_two (i:=5) (j:=10) (Li:=#[true,true,true,true,true,true,false,false,false,false,false,false,false]) (Lj:=#[true,true,true,true,true,false,false,false,false,false,true,false,false]) (by kernel_rfl) rfl rfl (by kernel_rfl) (by kernel_rfl) (by kernel_rfl) (by kernel_rfl) ?_ ?_
 ·intro K' hK
  go_simp
  refine (next_any gp gm wv ws d e _ (ps_kept H.out hS)).mono ?_
  rintro x w1 ⟨rfl,hb⟩
  have hS1:=hS.trans (hb.mono (by have:=hS.size;first | exact this | exact Nat.le_refl _))
  refine hK _ _ ⟨hS1,?_⟩
  clear hK hb
  refine held_take (i:=6) (v:=.tuple #[.agg #[.int .i64 s.rank,.int .i64 s.op,.bool s.turned,.bool s.denied],.bool b]) (L:=#[true,true,true,true,true,true,true,false,false,false,false,false,false]) rfl (by kernel_rfl) (by kernel_rfl) (by kernel_rfl) (fun c a w h => HPN.out c a _ _ w h) (Or.inl ⟨by kernel_rfl,fun wq hq => by have q:=lookS (ps_kept H.out hq).sg (hdW ws);rw [HS.out,HBL.out] at q;unfold sgV at q;go_simp⟩) hS1 (by kernel_rfl) ?_
  refine held_take (i:=7) (v:=.tuple #[.agg #[.int .i64 s.rank,.int .i64 s.op,.bool s.turned,.bool s.denied],.bool b]) (L:=#[true,true,true,true,true,true,true,true,false,false,false,false,false]) rfl (by kernel_rfl) (by kernel_rfl) (by kernel_rfl) (fun c a w h => HPN.out c a _ _ w h) (Or.inl ⟨by kernel_rfl,fun wq hq => by go_simp⟩) hS1 (by kernel_rfl) ?_
  refine held_take (i:=8) (v:=.agg #[.int .i64 s.rank,.int .i64 s.op,.bool s.turned,.bool s.denied]) (L:=#[true,true,true,true,true,true,true,true,true,false,false,false,false]) rfl (by kernel_rfl) (by kernel_rfl) (by kernel_rfl) (fun c a w h => HPN.out c a _ _ w h) (Or.inl ⟨by kernel_rfl,fun wq hq => by go_simp⟩) hS1 (by kernel_rfl) ?_
  refine held_take (i:=9) (v:=.bool b) (L:=#[true,true,true,true,true,true,true,true,true,true,false,false,false]) rfl (by kernel_rfl) (by kernel_rfl) (by kernel_rfl) (fun c a w h => HPN.out c a _ _ w h) (Or.inl ⟨by kernel_rfl,fun wq hq => by go_simp⟩) hS1 (by kernel_rfl) ?_
  have BZ:=hidE (blk_alloc w1 [.int .i64 0,.int .i64 0,.bool false,.bool false] 96)
  have hgs : Hid (w.heap.size ≤ w1.heap.size):=hS1.size
  have hS2:=hS1.alloc hS1.size (.cells #[.int .i64 0,.int .i64 0,.bool false,.bool false] 96)
  refine held_go (i:=10) (L:=#[true,true,true,true,true,true,true,true,true,true,true,false,false]) (by kernel_rfl) rfl (by kernel_rfl) (by kernel_rfl) ?_
  intro K' hK
  go_simp
  refine hK _ _ ⟨hS2,?_⟩
  clear hK
  generalize hg : w1.heap.size = gs at *
  have hS2 : Hid (Below w.heap.size w (w1.alloc (.cells #[.int .i64 0,.int .i64 0,.bool false,.bool false] 96))):=hS2
  generalize w1.alloc (.cells #[.int .i64 0,.int .i64 0,.bool false,.bool false] 96) = w2 at *
  have hS2:=hS2.out
  clear hg
  have f0:=BZ.out.fz 0
  have f1:=BZ.out.fz 1
  have f2:=BZ.out.fz 2
  have f3:=BZ.out.fz 3
  have z0:=BZ.out.c 0 (by simp)
  have z1:=BZ.out.c 1 (by simp)
  have z2:=BZ.out.c 2 (by simp)
  have z3:=BZ.out.c 3 (by simp)
  have B4:=hidE (blk_set (blk_set (blk_set (blk_set BZ.out 0 (.int .i64 s.rank) (by simp)) 1 (.int .i64 s.op) (by simp)) 2 (.bool s.turned) (by simp)) 3 (.bool s.denied) (by simp))
  have hSz:=((((hS2.setCell (p:=⟨gs,0,none⟩) hgs.out (.int .i64 s.rank)).setCell (p:=⟨gs,1,none⟩) hgs.out (.int .i64 s.op)).setCell (p:=⟨gs,2,none⟩) hgs.out (.bool s.turned)).setCell (p:=⟨gs,3,none⟩) hgs.out (.bool s.denied))
  refine held_go (i:=11) (L:=#[true,true,true,true,true,true,true,true,true,true,true,true,false]) (by kernel_rfl) rfl (by kernel_rfl) (by kernel_rfl) ?_
  intro K' hK
  go_simp
  refine hK _ _ ⟨hSz,?_⟩
  clear hK
  refine held_go (i:=12) (L:=#[true,true,true,true,true,true,true,true,true,true,true,true,true]) (by kernel_rfl) rfl (by kernel_rfl) (by kernel_rfl) ?_
  intro K' hK
  go_simp
  refine hK _ _ ⟨hSz,?_⟩
  clear hK
  refine wpAnyH_done (by kernel_rfl) ?_ _
  exact HQ.out _ gs s b _ rfl rfl rfl rfl rfl rfl ⟨HS.out,HBL.out,by simpa using B4.out,hgs.out,hSz⟩
 ·intro K' hK
  have BZ0:=hidE (blk_alloc wd [.int .i64 0,.int .i64 0,.bool false,.bool false] 96)
  have hgs : Hid (w.heap.size ≤ wd.heap.size):=hS.size
  have hS2:=hS.alloc hS.size (.cells #[.int .i64 0,.int .i64 0,.bool false,.bool false] 96)
  go_simp
  refine hK _ _ ⟨hS2,?_⟩
  clear hK
  generalize hg : wd.heap.size = gs at *
  generalize wd.alloc (.cells #[.int .i64 0,.int .i64 0,.bool false,.bool false] 96) = w2 at *
  clear hg
  refine held_go (i:=5) (L:=#[true,true,true,true,true,true,false,false,false,false,true,false,false]) (by kernel_rfl) rfl (by kernel_rfl) (by kernel_rfl) ?_
  intro K' hK
  go_simp
  refine (next_any gp gm wv ws d e _ (ps_kept H.out hS2)).mono ?_
  rintro x w1 ⟨rfl,hb⟩
  have hS3:=hS2.trans (hb.mono (by have:=hS2.size;first | exact this | exact Nat.le_refl _))
  have BZ:=hidE (blk_below BZ0.out hb BZ0.out.lt)
  refine hK _ _ ⟨hS3,?_⟩
  clear hK hb
  refine held_take (i:=6) (v:=.tuple #[.agg #[.int .i64 s.rank,.int .i64 s.op,.bool s.turned,.bool s.denied],.bool b]) (L:=#[true,true,true,true,true,true,true,false,false,false,true,false,false]) rfl (by kernel_rfl) (by kernel_rfl) (by kernel_rfl) (fun c a w h => HPN.out c a _ _ w h) (Or.inl ⟨by kernel_rfl,fun wq hq => by have q:=lookS (ps_kept H.out hq).sg (hdW ws);rw [HS.out,HBL.out] at q;unfold sgV at q;go_simp⟩) hS3 (by kernel_rfl) ?_
  refine held_take (i:=7) (v:=.tuple #[.agg #[.int .i64 s.rank,.int .i64 s.op,.bool s.turned,.bool s.denied],.bool b]) (L:=#[true,true,true,true,true,true,true,true,false,false,true,false,false]) rfl (by kernel_rfl) (by kernel_rfl) (by kernel_rfl) (fun c a w h => HPN.out c a _ _ w h) (Or.inl ⟨by kernel_rfl,fun wq hq => by go_simp⟩) hS3 (by kernel_rfl) ?_
  refine held_take (i:=8) (v:=.agg #[.int .i64 s.rank,.int .i64 s.op,.bool s.turned,.bool s.denied]) (L:=#[true,true,true,true,true,true,true,true,true,false,true,false,false]) rfl (by kernel_rfl) (by kernel_rfl) (by kernel_rfl) (fun c a w h => HPN.out c a _ _ w h) (Or.inl ⟨by kernel_rfl,fun wq hq => by go_simp⟩) hS3 (by kernel_rfl) ?_
  refine held_take (i:=9) (v:=.bool b) (L:=#[true,true,true,true,true,true,true,true,true,true,true,false,false]) rfl (by kernel_rfl) (by kernel_rfl) (by kernel_rfl) (fun c a w h => HPN.out c a _ _ w h) (Or.inl ⟨by kernel_rfl,fun wq hq => by go_simp⟩) hS3 (by kernel_rfl) ?_
  have f0:=BZ.out.fz 0
  have f1:=BZ.out.fz 1
  have f2:=BZ.out.fz 2
  have f3:=BZ.out.fz 3
  have z0:=BZ.out.c 0 (by simp)
  have z1:=BZ.out.c 1 (by simp)
  have z2:=BZ.out.c 2 (by simp)
  have z3:=BZ.out.c 3 (by simp)
  have B4:=hidE (blk_set (blk_set (blk_set (blk_set BZ.out 0 (.int .i64 s.rank) (by simp)) 1 (.int .i64 s.op) (by simp)) 2 (.bool s.turned) (by simp)) 3 (.bool s.denied) (by simp))
  have hSz:=((((hS3.setCell (p:=⟨gs,0,none⟩) hgs.out (.int .i64 s.rank)).setCell (p:=⟨gs,1,none⟩) hgs.out (.int .i64 s.op)).setCell (p:=⟨gs,2,none⟩) hgs.out (.bool s.turned)).setCell (p:=⟨gs,3,none⟩) hgs.out (.bool s.denied))
  refine held_go (i:=11) (L:=#[true,true,true,true,true,true,true,true,true,true,true,true,false]) (by kernel_rfl) rfl (by kernel_rfl) (by kernel_rfl) ?_
  intro K' hK
  go_simp
  refine hK _ _ ⟨hSz,?_⟩
  clear hK
  refine held_go (i:=12) (L:=#[true,true,true,true,true,true,true,true,true,true,true,true,true]) (by kernel_rfl) rfl (by kernel_rfl) (by kernel_rfl) ?_
  intro K' hK
  go_simp
  refine hK _ _ ⟨hSz,?_⟩
  clear hK
  refine wpAnyH_done (by kernel_rfl) ?_ _
  exact HQ.out _ gs s b _ rfl rfl rfl rfl rfl rfl ⟨HS.out,HBL.out,by simpa using B4.out,hgs.out,hSz⟩
end Go.Proofs.YteaanpdckkmjoaaGreatDoor
