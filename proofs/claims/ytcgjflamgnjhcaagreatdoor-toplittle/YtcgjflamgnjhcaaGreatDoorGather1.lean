/- The contracts of gather.New and of Add and Value of what is gathered, over this seat's translation. Conditions: a kind from 1 to 5, and few values by now. -/
import Derived.Test.YtcgjflamgnjhcaaGreatDoorKinJ
import Derived.Test.YtcgjflamgnjhcaaGreatDoorVals2J
import Derived.Test.YtcgjflamgnjhcaaGreatDoorVals4J
import Derived.Test.YtcgjflamgnjhcaaGreatDoorExpr1J
import Derived.Test.YtcgjflamgnjhcaaGreatDoorSrc1J
set_option linter.unusedVariables false
set_option linter.unusedSimpArgs false
set_option maxRecDepth 100000
set_option maxHeartbeats 8000000
namespace Go.Proofs.YtcgjflamgnjhcaaGreatDoor
open Go.ChangeShapes Go.WideShapes Go.ChangeAt Go.RowKit
attribute [local go_sem ↓] eql_value neq_value
def aggA (k : Int) (a : Int × Int × Int) : Value:=.agg #[.int .i64 k,.int .i64 a.1,.int .i64 a.2.1,.int .i64 a.2.2]
theorem gnew_any (k : Int) (w : World) :
  Calls Tryz.prog 138 #[.int .i64 k] w fun e w' => e = .returned (aggA k (0,0,0)) ∧ Below w.heap.size w w':=by
 unfold aggA
 go_enter Tryz.func138,Tryz.ntmps138
 go_wp2
 refine bodyPost_ret (v:=.agg #[.int .i64 k,.int .i64 0,.int .i64 0,.int .i64 0]) (by simp [results,Tryz.results138,go_sem]) rfl ⟨rfl,?_⟩
 repeat (first | exact Below.refl _ _ | refine Below.alloc ?_ (by first | (simp;done) | (simp;omega)) _ | refine Below.setCell ?_ (by first | (simp;done) | (simp;omega)) _)
theorem gadd3 (n s b v1 v2 : Int) (w : World) (hv : ¬ v1 = 0) (n0 : 0 ≤ n) (n1 : n ≤ 1000) (hb : (v1 == 0) = false) :
  Calls Tryz.prog 139 #[.agg #[.int .i64 3,.int .i64 n,.int .i64 s,.int .i64 b],.agg #[.int .i64 v1,.int .i64 v2]] w fun e w' => e = .returned (.agg #[.int .i64 3,.int .i64 1,.int .i64 (RowKit.wrap64 (s + v2)),.int .i64 b]) ∧ Below w.heap.size w w':=by
 go_enter Tryz.func139,Tryz.ntmps139
 go_wp2_with fail
 have hS0 : SKeep (((w.alloc (.cells #[.int .i64 3,.int .i64 n,.int .i64 s,.int .i64 b] 192)).alloc (.cells #[.int .i64 v1,.int .i64 v2] 41)).alloc (.cells #[.int .i64 0,.int .i64 0,.int .i64 0,.int .i64 0] 192)) w.heap.size { (((w.alloc (.cells #[.int .i64 3,.int .i64 n,.int .i64 s,.int .i64 b] 192)).alloc (.cells #[.int .i64 v1,.int .i64 v2] 41)).alloc (.cells #[.int .i64 0,.int .i64 0,.int .i64 0,.int .i64 0] 192)) with drawn:=(((w.alloc (.cells #[.int .i64 3,.int .i64 n,.int .i64 s,.int .i64 b] 192)).alloc (.cells #[.int .i64 v1,.int .i64 v2] 41)).alloc (.cells #[.int .i64 0,.int .i64 0,.int .i64 0,.int .i64 0] 192)).drawn + 1 }:=fun _ _ _ _ => rfl
 have c1 : (((w.alloc (.cells #[.int .i64 3,.int .i64 n,.int .i64 s,.int .i64 b] 192)).alloc (.cells #[.int .i64 v1,.int .i64 v2] 41)).alloc (.cells #[.int .i64 0,.int .i64 0,.int .i64 0,.int .i64 0] 192)).cell? ⟨w.heap.size + 1,1,none⟩ = some (.int .i64 v2):=by go_simp
 have zz : (((w.alloc (.cells #[.int .i64 3,.int .i64 n,.int .i64 s,.int .i64 b] 192)).alloc (.cells #[.int .i64 v1,.int .i64 v2] 41)).alloc (.cells #[.int .i64 0,.int .i64 0,.int .i64 0,.int .i64 0] 192)).heap.size = w.heap.size + 3:=by simp
 have HB0 : Hid (Below (((w.alloc (.cells #[.int .i64 3,.int .i64 n,.int .i64 s,.int .i64 b] 192)).alloc (.cells #[.int .i64 v1,.int .i64 v2] 41)).alloc (.cells #[.int .i64 0,.int .i64 0,.int .i64 0,.int .i64 0] 192)).heap.size (((w.alloc (.cells #[.int .i64 3,.int .i64 n,.int .i64 s,.int .i64 b] 192)).alloc (.cells #[.int .i64 v1,.int .i64 v2] 41)).alloc (.cells #[.int .i64 0,.int .i64 0,.int .i64 0,.int .i64 0] 192)) { (((w.alloc (.cells #[.int .i64 3,.int .i64 n,.int .i64 s,.int .i64 b] 192)).alloc (.cells #[.int .i64 v1,.int .i64 v2] 41)).alloc (.cells #[.int .i64 0,.int .i64 0,.int .i64 0,.int .i64 0] 192)) with drawn:=(((w.alloc (.cells #[.int .i64 3,.int .i64 n,.int .i64 s,.int .i64 b] 192)).alloc (.cells #[.int .i64 v1,.int .i64 v2] 41)).alloc (.cells #[.int .i64 0,.int .i64 0,.int .i64 0,.int .i64 0] 192)).drawn + 1 }):=(Below.refl _ _).drew
 have H3 : Hid (Below w.heap.size w (((w.alloc (.cells #[.int .i64 3,.int .i64 n,.int .i64 s,.int .i64 b] 192)).alloc (.cells #[.int .i64 v1,.int .i64 v2] 41)).alloc (.cells #[.int .i64 0,.int .i64 0,.int .i64 0,.int .i64 0] 192))):=(((Below.refl _ _).alloc (Nat.le_refl _) _).alloc (by simp) _).alloc (by simp;omega) _
 refine wp_region_held (S:=SKeep (((w.alloc (.cells #[.int .i64 3,.int .i64 n,.int .i64 s,.int .i64 b] 192)).alloc (.cells #[.int .i64 v1,.int .i64 v2] 41)).alloc (.cells #[.int .i64 0,.int .i64 0,.int .i64 0,.int .i64 0] 192)) w.heap.size) (by kernel_rfl) ?_
 generalize hw0 : ({ (((w.alloc (.cells #[.int .i64 3,.int .i64 n,.int .i64 s,.int .i64 b] 192)).alloc (.cells #[.int .i64 v1,.int .i64 v2] 41)).alloc (.cells #[.int .i64 0,.int .i64 0,.int .i64 0,.int .i64 0] 192)) with drawn:=(((w.alloc (.cells #[.int .i64 3,.int .i64 n,.int .i64 s,.int .i64 b] 192)).alloc (.cells #[.int .i64 v1,.int .i64 v2] 41)).alloc (.cells #[.int .i64 0,.int .i64 0,.int .i64 0,.int .i64 0] 192)).drawn + 1 } : World) = w0 at *
 clear hw0
 obtain ⟨hc,hf⟩:=rules HB0
 have HBf : Hid (Below w.heap.size w w0):=H3.out.trans (HB0.out.mono H3.out.size)
 have d0 : w0.cell? ⟨w.heap.size,0,none⟩ = some (.int .i64 3):=by rw [hc _ _ (by simp;omega)];go_simp
 have d1 : w0.cell? ⟨w.heap.size,1,none⟩ = some (.int .i64 n):=by rw [hc _ _ (by simp;omega)];go_simp
 have d2 : w0.cell? ⟨w.heap.size,2,none⟩ = some (.int .i64 s):=by rw [hc _ _ (by simp;omega)];go_simp
 have d3 : w0.cell? ⟨w.heap.size,3,none⟩ = some (.int .i64 b):=by rw [hc _ _ (by simp;omega)];go_simp
 have e0 : w0.cell? ⟨w.heap.size + 1 + 1,0,none⟩ = some (.int .i64 0):=by rw [hc _ _ (by simp)];go_simp
 have e1 : w0.cell? ⟨w.heap.size + 1 + 1,1,none⟩ = some (.int .i64 0):=by rw [hc _ _ (by simp)];go_simp
 have e2 : w0.cell? ⟨w.heap.size + 1 + 1,2,none⟩ = some (.int .i64 0):=by rw [hc _ _ (by simp)];go_simp
 have e3 : w0.cell? ⟨w.heap.size + 1 + 1,3,none⟩ = some (.int .i64 0):=by rw [hc _ _ (by simp)];go_simp
 refine held_take (i:=2) (v:=.pointer (some ⟨w.heap.size + 1,1,none⟩)) (L:=#[false,false,true,false,false,false,false,false,false]) rfl (by kernel_rfl) (by kernel_rfl) (by kernel_rfl) (fun c a w h => h) (Or.inl ⟨by kernel_rfl,fun wq h => by go_simp⟩) hS0 (by kernel_rfl) ?_
 refine held_take (i:=3) (v:=.int .i64 v2) (L:=#[false,false,true,true,false,false,false,false,false]) rfl (by kernel_rfl) (by kernel_rfl) (by kernel_rfl) (fun c a w h => h) (Or.inl ⟨by kernel_rfl,fun wq h => by have q:=h (w.heap.size + 1) 1 (by rw [zz];omega) (by omega);rw [c1] at q;go_simp⟩) hS0 (by kernel_rfl) ?_
 refine held_go (i:=0) (L:=#[true,false,true,true,false,false,false,false,false]) (by kernel_rfl) rfl (by kernel_rfl) (by kernel_rfl) ?_
 intro K' hK
 go_simp
 refine hK _ _ ⟨hS0,?_⟩
 clear hK
 refine held_go (i:=1) (L:=#[true,true,true,true,false,false,false,false,false]) (by kernel_rfl) rfl (by kernel_rfl) (by kernel_rfl) ?_
 intro K' hK
 go_simp
 refine hK _ _ ⟨hS0,?_⟩
 clear hK
 refine held_take (i:=4) (v:=.int .i64 (RowKit.wrap64 (s + v2))) (L:=#[true,true,true,true,true,false,false,false,false]) rfl (by kernel_rfl) (by kernel_rfl) (by kernel_rfl) (fun c a w h => h) (Or.inl ⟨by kernel_rfl,fun wq h => by go_simp;unfold RowKit.wrap64;exact IntKind.wrap_i64 _⟩) hS0 (by kernel_rfl) ?_
 refine held_go (i:=5) (L:=#[true,true,true,true,true,true,false,false,false]) (by kernel_rfl) rfl (by kernel_rfl) (by kernel_rfl) ?_
 intro K' hK
 go_simp
 refine hK _ _ ⟨hS0,?_⟩
 clear hK
 refine held_go (i:=6) (L:=#[true,true,true,true,true,true,true,false,false]) (by kernel_rfl) rfl (by kernel_rfl) (by kernel_rfl) ?_
 intro K' hK
 go_simp
 refine hK _ _ ⟨keep_set hS0 _ _,?_⟩
 clear hK
 refine held_go (i:=7) (L:=#[true,true,true,true,true,true,true,true,false]) (by kernel_rfl) rfl (by kernel_rfl) (by kernel_rfl) ?_
 intro K' hK
 go_simp
 refine hK _ _ ⟨keep_set hS0 _ _,?_⟩
 clear hK
 refine held_go (i:=8) (L:=#[true,true,true,true,true,true,true,true,true]) (by kernel_rfl) rfl (by kernel_rfl) (by kernel_rfl) ?_
 intro K' hK
 go_simp
 refine hK _ _ ⟨keep_set (keep_set hS0 _ _) _ _,?_⟩
 clear hK
 refine wpAnyH_done (by kernel_rfl) ?_ _
 have HBz : Hid (Below w.heap.size w ((w0.setCell ⟨w.heap.size,1,none⟩ (.int .i64 1)).setCell ⟨w.heap.size,2,none⟩ (.int .i64 (RowKit.wrap64 (s + v2))))):=(HBf.out.setCell (p:=⟨w.heap.size,1,none⟩) (Nat.le_refl _) _).setCell (p:=⟨w.heap.size,2,none⟩) (Nat.le_refl _) _
 have f0 : ((w0.setCell ⟨w.heap.size,1,none⟩ (.int .i64 1)).setCell ⟨w.heap.size,2,none⟩ (.int .i64 (RowKit.wrap64 (s + v2)))).cell? ⟨w.heap.size,0,none⟩ = some (.int .i64 3):=(World.cell?_setCell_other _ _ _ _ (by simp)).trans ((World.cell?_setCell_other _ _ _ _ (by simp)).trans d0)
 have f1 : ((w0.setCell ⟨w.heap.size,1,none⟩ (.int .i64 1)).setCell ⟨w.heap.size,2,none⟩ (.int .i64 (RowKit.wrap64 (s + v2)))).cell? ⟨w.heap.size,1,none⟩ = some (.int .i64 1):=(World.cell?_setCell_other _ _ _ _ (by simp)).trans (World.cell?_setCell_same _ _ _ d1)
 have f2 : ((w0.setCell ⟨w.heap.size,1,none⟩ (.int .i64 1)).setCell ⟨w.heap.size,2,none⟩ (.int .i64 (RowKit.wrap64 (s + v2)))).cell? ⟨w.heap.size,2,none⟩ = some (.int .i64 (RowKit.wrap64 (s + v2))):=World.cell?_setCell_same _ _ _ (by rw [World.cell?_setCell_other _ _ _ _ (by simp)];exact d2)
 have f3 : ((w0.setCell ⟨w.heap.size,1,none⟩ (.int .i64 1)).setCell ⟨w.heap.size,2,none⟩ (.int .i64 (RowKit.wrap64 (s + v2)))).cell? ⟨w.heap.size,3,none⟩ = some (.int .i64 b):=(World.cell?_setCell_other _ _ _ _ (by simp)).trans ((World.cell?_setCell_other _ _ _ _ (by simp)).trans d3)
 have r0 : ((w0.setCell ⟨w.heap.size,1,none⟩ (.int .i64 1)).setCell ⟨w.heap.size,2,none⟩ (.int .i64 (RowKit.wrap64 (s + v2)))).cell? ⟨w.heap.size + 1 + 1,0,none⟩ = some (.int .i64 0):=(World.cell?_setCell_other _ _ _ _ (by simp)).trans ((World.cell?_setCell_other _ _ _ _ (by simp)).trans e0)
 have r1 : ((w0.setCell ⟨w.heap.size,1,none⟩ (.int .i64 1)).setCell ⟨w.heap.size,2,none⟩ (.int .i64 (RowKit.wrap64 (s + v2)))).cell? ⟨w.heap.size + 1 + 1,1,none⟩ = some (.int .i64 0):=(World.cell?_setCell_other _ _ _ _ (by simp)).trans ((World.cell?_setCell_other _ _ _ _ (by simp)).trans e1)
 have r2 : ((w0.setCell ⟨w.heap.size,1,none⟩ (.int .i64 1)).setCell ⟨w.heap.size,2,none⟩ (.int .i64 (RowKit.wrap64 (s + v2)))).cell? ⟨w.heap.size + 1 + 1,2,none⟩ = some (.int .i64 0):=(World.cell?_setCell_other _ _ _ _ (by simp)).trans ((World.cell?_setCell_other _ _ _ _ (by simp)).trans e2)
 have r3 : ((w0.setCell ⟨w.heap.size,1,none⟩ (.int .i64 1)).setCell ⟨w.heap.size,2,none⟩ (.int .i64 (RowKit.wrap64 (s + v2)))).cell? ⟨w.heap.size + 1 + 1,3,none⟩ = some (.int .i64 0):=(World.cell?_setCell_other _ _ _ _ (by simp)).trans ((World.cell?_setCell_other _ _ _ _ (by simp)).trans e3)
 have z0 : ((w0.setCell ⟨w.heap.size,1,none⟩ (.int .i64 1)).setCell ⟨w.heap.size,2,none⟩ (.int .i64 (RowKit.wrap64 (s + v2)))).frozen? ⟨w.heap.size + 1 + 1,0,none⟩ = false:=by go_simp
 have z1 : ((w0.setCell ⟨w.heap.size,1,none⟩ (.int .i64 1)).setCell ⟨w.heap.size,2,none⟩ (.int .i64 (RowKit.wrap64 (s + v2)))).frozen? ⟨w.heap.size + 1 + 1,1,none⟩ = false:=by go_simp
 have z2 : ((w0.setCell ⟨w.heap.size,1,none⟩ (.int .i64 1)).setCell ⟨w.heap.size,2,none⟩ (.int .i64 (RowKit.wrap64 (s + v2)))).frozen? ⟨w.heap.size + 1 + 1,2,none⟩ = false:=by go_simp
 have z3 : ((w0.setCell ⟨w.heap.size,1,none⟩ (.int .i64 1)).setCell ⟨w.heap.size,2,none⟩ (.int .i64 (RowKit.wrap64 (s + v2)))).frozen? ⟨w.heap.size + 1 + 1,3,none⟩ = false:=by go_simp
 generalize ((w0.setCell ⟨w.heap.size,1,none⟩ (.int .i64 1)).setCell ⟨w.heap.size,2,none⟩ (.int .i64 (RowKit.wrap64 (s + v2)))) = wz at *
 clear d0 d1 d2 d3 e0 e1 e2 e3 hc HB0 HBf hS0 c1
 go_wp2_with fail
 refine bodyPost_ret (v:=.agg #[.int .i64 3,.int .i64 1,.int .i64 (RowKit.wrap64 (s + v2)),.int .i64 b]) (by simp [results,Tryz.results139,go_sem,r0,r1,r2,r3]) rfl ⟨rfl,?_⟩
 repeat (first | exact HBz.out | refine Below.setCell ?_ (by first | (simp;done) | (simp;omega)) _)
theorem gadd4a (s b v1 v2 : Int) (w : World) (hv : ¬ v1 = 0) (hb : (v1 == 0) = false) :
  Calls Tryz.prog 139 #[.agg #[.int .i64 4,.int .i64 0,.int .i64 s,.int .i64 b],.agg #[.int .i64 v1,.int .i64 v2]] w fun e w' => e = .returned (.agg #[.int .i64 4,.int .i64 1,.int .i64 s,.int .i64 v2]) ∧ Below w.heap.size w w':=by
 go_enter Tryz.func139,Tryz.ntmps139
 go_wp2_with fail
 have hS0 : SKeep (((w.alloc (.cells #[.int .i64 4,.int .i64 0,.int .i64 s,.int .i64 b] 192)).alloc (.cells #[.int .i64 v1,.int .i64 v2] 41)).alloc (.cells #[.int .i64 0,.int .i64 0,.int .i64 0,.int .i64 0] 192)) w.heap.size { (((w.alloc (.cells #[.int .i64 4,.int .i64 0,.int .i64 s,.int .i64 b] 192)).alloc (.cells #[.int .i64 v1,.int .i64 v2] 41)).alloc (.cells #[.int .i64 0,.int .i64 0,.int .i64 0,.int .i64 0] 192)) with drawn:=(((w.alloc (.cells #[.int .i64 4,.int .i64 0,.int .i64 s,.int .i64 b] 192)).alloc (.cells #[.int .i64 v1,.int .i64 v2] 41)).alloc (.cells #[.int .i64 0,.int .i64 0,.int .i64 0,.int .i64 0] 192)).drawn + 1 }:=fun _ _ _ _ => rfl
 have c1 : (((w.alloc (.cells #[.int .i64 4,.int .i64 0,.int .i64 s,.int .i64 b] 192)).alloc (.cells #[.int .i64 v1,.int .i64 v2] 41)).alloc (.cells #[.int .i64 0,.int .i64 0,.int .i64 0,.int .i64 0] 192)).cell? ⟨w.heap.size + 1,1,none⟩ = some (.int .i64 v2):=by go_simp
 have zz : (((w.alloc (.cells #[.int .i64 4,.int .i64 0,.int .i64 s,.int .i64 b] 192)).alloc (.cells #[.int .i64 v1,.int .i64 v2] 41)).alloc (.cells #[.int .i64 0,.int .i64 0,.int .i64 0,.int .i64 0] 192)).heap.size = w.heap.size + 3:=by simp
 have HB0 : Hid (Below (((w.alloc (.cells #[.int .i64 4,.int .i64 0,.int .i64 s,.int .i64 b] 192)).alloc (.cells #[.int .i64 v1,.int .i64 v2] 41)).alloc (.cells #[.int .i64 0,.int .i64 0,.int .i64 0,.int .i64 0] 192)).heap.size (((w.alloc (.cells #[.int .i64 4,.int .i64 0,.int .i64 s,.int .i64 b] 192)).alloc (.cells #[.int .i64 v1,.int .i64 v2] 41)).alloc (.cells #[.int .i64 0,.int .i64 0,.int .i64 0,.int .i64 0] 192)) { (((w.alloc (.cells #[.int .i64 4,.int .i64 0,.int .i64 s,.int .i64 b] 192)).alloc (.cells #[.int .i64 v1,.int .i64 v2] 41)).alloc (.cells #[.int .i64 0,.int .i64 0,.int .i64 0,.int .i64 0] 192)) with drawn:=(((w.alloc (.cells #[.int .i64 4,.int .i64 0,.int .i64 s,.int .i64 b] 192)).alloc (.cells #[.int .i64 v1,.int .i64 v2] 41)).alloc (.cells #[.int .i64 0,.int .i64 0,.int .i64 0,.int .i64 0] 192)).drawn + 1 }):=(Below.refl _ _).drew
 have H3 : Hid (Below w.heap.size w (((w.alloc (.cells #[.int .i64 4,.int .i64 0,.int .i64 s,.int .i64 b] 192)).alloc (.cells #[.int .i64 v1,.int .i64 v2] 41)).alloc (.cells #[.int .i64 0,.int .i64 0,.int .i64 0,.int .i64 0] 192))):=(((Below.refl _ _).alloc (Nat.le_refl _) _).alloc (by simp) _).alloc (by simp;omega) _
 refine wp_region_held (S:=SKeep (((w.alloc (.cells #[.int .i64 4,.int .i64 0,.int .i64 s,.int .i64 b] 192)).alloc (.cells #[.int .i64 v1,.int .i64 v2] 41)).alloc (.cells #[.int .i64 0,.int .i64 0,.int .i64 0,.int .i64 0] 192)) w.heap.size) (by kernel_rfl) ?_
 generalize hw0 : ({ (((w.alloc (.cells #[.int .i64 4,.int .i64 0,.int .i64 s,.int .i64 b] 192)).alloc (.cells #[.int .i64 v1,.int .i64 v2] 41)).alloc (.cells #[.int .i64 0,.int .i64 0,.int .i64 0,.int .i64 0] 192)) with drawn:=(((w.alloc (.cells #[.int .i64 4,.int .i64 0,.int .i64 s,.int .i64 b] 192)).alloc (.cells #[.int .i64 v1,.int .i64 v2] 41)).alloc (.cells #[.int .i64 0,.int .i64 0,.int .i64 0,.int .i64 0] 192)).drawn + 1 } : World) = w0 at *
 clear hw0
 obtain ⟨hc,hf⟩:=rules HB0
 have HBf : Hid (Below w.heap.size w w0):=H3.out.trans (HB0.out.mono H3.out.size)
 have d0 : w0.cell? ⟨w.heap.size,0,none⟩ = some (.int .i64 4):=by rw [hc _ _ (by simp;omega)];go_simp
 have d1 : w0.cell? ⟨w.heap.size,1,none⟩ = some (.int .i64 0):=by rw [hc _ _ (by simp;omega)];go_simp
 have d2 : w0.cell? ⟨w.heap.size,2,none⟩ = some (.int .i64 s):=by rw [hc _ _ (by simp;omega)];go_simp
 have d3 : w0.cell? ⟨w.heap.size,3,none⟩ = some (.int .i64 b):=by rw [hc _ _ (by simp;omega)];go_simp
 have e0 : w0.cell? ⟨w.heap.size + 1 + 1,0,none⟩ = some (.int .i64 0):=by rw [hc _ _ (by simp)];go_simp
 have e1 : w0.cell? ⟨w.heap.size + 1 + 1,1,none⟩ = some (.int .i64 0):=by rw [hc _ _ (by simp)];go_simp
 have e2 : w0.cell? ⟨w.heap.size + 1 + 1,2,none⟩ = some (.int .i64 0):=by rw [hc _ _ (by simp)];go_simp
 have e3 : w0.cell? ⟨w.heap.size + 1 + 1,3,none⟩ = some (.int .i64 0):=by rw [hc _ _ (by simp)];go_simp
 refine held_take (i:=2) (v:=.pointer (some ⟨w.heap.size,1,none⟩)) (L:=#[false,false,true,false,false,false]) rfl (by kernel_rfl) (by kernel_rfl) (by kernel_rfl) (fun c a w h => h) (Or.inl ⟨by kernel_rfl,fun wq h => by go_simp⟩) hS0 (by kernel_rfl) ?_
 refine held_take (i:=0) (v:=.pointer (some ⟨w.heap.size + 1,1,none⟩)) (L:=#[true,false,true,false,false,false]) rfl (by kernel_rfl) (by kernel_rfl) (by kernel_rfl) (fun c a w h => h) (Or.inl ⟨by kernel_rfl,fun wq h => by go_simp⟩) hS0 (by kernel_rfl) ?_
 refine held_take (i:=1) (v:=.int .i64 v2) (L:=#[true,true,true,false,false,false]) rfl (by kernel_rfl) (by kernel_rfl) (by kernel_rfl) (fun c a w h => h) (Or.inl ⟨by kernel_rfl,fun wq h => by have q:=h (w.heap.size + 1) 1 (by rw [zz];omega) (by omega);rw [c1] at q;go_simp⟩) hS0 (by kernel_rfl) ?_
 refine held_go (i:=3) (L:=#[true,true,true,true,false,false]) (by kernel_rfl) rfl (by kernel_rfl) (by kernel_rfl) ?_
 intro K' hK
 go_simp
 refine hK _ _ ⟨keep_set hS0 _ _,?_⟩
 clear hK
 refine held_go (i:=4) (L:=#[true,true,true,true,true,false]) (by kernel_rfl) rfl (by kernel_rfl) (by kernel_rfl) ?_
 intro K' hK
 go_simp
 refine hK _ _ ⟨keep_set hS0 _ _,?_⟩
 clear hK
 refine held_go (i:=5) (L:=#[true,true,true,true,true,true]) (by kernel_rfl) rfl (by kernel_rfl) (by kernel_rfl) ?_
 intro K' hK
 go_simp
 refine hK _ _ ⟨keep_set (keep_set hS0 _ _) _ _,?_⟩
 clear hK
 refine wpAnyH_done (by kernel_rfl) ?_ _
 have HBz : Hid (Below w.heap.size w ((w0.setCell ⟨w.heap.size,1,none⟩ (.int .i64 1)).setCell ⟨w.heap.size,3,none⟩ (.int .i64 v2))):=(HBf.out.setCell (p:=⟨w.heap.size,1,none⟩) (Nat.le_refl _) _).setCell (p:=⟨w.heap.size,3,none⟩) (Nat.le_refl _) _
 have f0 : ((w0.setCell ⟨w.heap.size,1,none⟩ (.int .i64 1)).setCell ⟨w.heap.size,3,none⟩ (.int .i64 v2)).cell? ⟨w.heap.size,0,none⟩ = some (.int .i64 4):=(World.cell?_setCell_other _ _ _ _ (by simp)).trans ((World.cell?_setCell_other _ _ _ _ (by simp)).trans d0)
 have f1 : ((w0.setCell ⟨w.heap.size,1,none⟩ (.int .i64 1)).setCell ⟨w.heap.size,3,none⟩ (.int .i64 v2)).cell? ⟨w.heap.size,1,none⟩ = some (.int .i64 1):=(World.cell?_setCell_other _ _ _ _ (by simp)).trans (World.cell?_setCell_same _ _ _ d1)
 have f2 : ((w0.setCell ⟨w.heap.size,1,none⟩ (.int .i64 1)).setCell ⟨w.heap.size,3,none⟩ (.int .i64 v2)).cell? ⟨w.heap.size,2,none⟩ = some (.int .i64 s):=(World.cell?_setCell_other _ _ _ _ (by simp)).trans ((World.cell?_setCell_other _ _ _ _ (by simp)).trans d2)
 have f3 : ((w0.setCell ⟨w.heap.size,1,none⟩ (.int .i64 1)).setCell ⟨w.heap.size,3,none⟩ (.int .i64 v2)).cell? ⟨w.heap.size,3,none⟩ = some (.int .i64 v2):=World.cell?_setCell_same _ _ _ (by rw [World.cell?_setCell_other _ _ _ _ (by simp)];exact d3)
 have r0 : ((w0.setCell ⟨w.heap.size,1,none⟩ (.int .i64 1)).setCell ⟨w.heap.size,3,none⟩ (.int .i64 v2)).cell? ⟨w.heap.size + 1 + 1,0,none⟩ = some (.int .i64 0):=(World.cell?_setCell_other _ _ _ _ (by simp)).trans ((World.cell?_setCell_other _ _ _ _ (by simp)).trans e0)
 have r1 : ((w0.setCell ⟨w.heap.size,1,none⟩ (.int .i64 1)).setCell ⟨w.heap.size,3,none⟩ (.int .i64 v2)).cell? ⟨w.heap.size + 1 + 1,1,none⟩ = some (.int .i64 0):=(World.cell?_setCell_other _ _ _ _ (by simp)).trans ((World.cell?_setCell_other _ _ _ _ (by simp)).trans e1)
 have r2 : ((w0.setCell ⟨w.heap.size,1,none⟩ (.int .i64 1)).setCell ⟨w.heap.size,3,none⟩ (.int .i64 v2)).cell? ⟨w.heap.size + 1 + 1,2,none⟩ = some (.int .i64 0):=(World.cell?_setCell_other _ _ _ _ (by simp)).trans ((World.cell?_setCell_other _ _ _ _ (by simp)).trans e2)
 have r3 : ((w0.setCell ⟨w.heap.size,1,none⟩ (.int .i64 1)).setCell ⟨w.heap.size,3,none⟩ (.int .i64 v2)).cell? ⟨w.heap.size + 1 + 1,3,none⟩ = some (.int .i64 0):=(World.cell?_setCell_other _ _ _ _ (by simp)).trans ((World.cell?_setCell_other _ _ _ _ (by simp)).trans e3)
 have z0 : ((w0.setCell ⟨w.heap.size,1,none⟩ (.int .i64 1)).setCell ⟨w.heap.size,3,none⟩ (.int .i64 v2)).frozen? ⟨w.heap.size + 1 + 1,0,none⟩ = false:=by go_simp
 have z1 : ((w0.setCell ⟨w.heap.size,1,none⟩ (.int .i64 1)).setCell ⟨w.heap.size,3,none⟩ (.int .i64 v2)).frozen? ⟨w.heap.size + 1 + 1,1,none⟩ = false:=by go_simp
 have z2 : ((w0.setCell ⟨w.heap.size,1,none⟩ (.int .i64 1)).setCell ⟨w.heap.size,3,none⟩ (.int .i64 v2)).frozen? ⟨w.heap.size + 1 + 1,2,none⟩ = false:=by go_simp
 have z3 : ((w0.setCell ⟨w.heap.size,1,none⟩ (.int .i64 1)).setCell ⟨w.heap.size,3,none⟩ (.int .i64 v2)).frozen? ⟨w.heap.size + 1 + 1,3,none⟩ = false:=by go_simp
 generalize ((w0.setCell ⟨w.heap.size,1,none⟩ (.int .i64 1)).setCell ⟨w.heap.size,3,none⟩ (.int .i64 v2)) = wz at *
 clear d0 d1 d2 d3 e0 e1 e2 e3 hc HB0 HBf hS0 c1
 go_wp2_with fail
 refine bodyPost_ret (v:=.agg #[.int .i64 4,.int .i64 1,.int .i64 s,.int .i64 v2]) (by simp [results,Tryz.results139,go_sem,r0,r1,r2,r3]) rfl ⟨rfl,?_⟩
 repeat (first | exact HBz.out | refine Below.setCell ?_ (by first | (simp;done) | (simp;omega)) _)
theorem gadd4b (n s b v1 v2 : Int) (w : World) (hv : ¬ v1 = 0) (hb : (v1 == 0) = false) (hnb : (n == 0) = false) (hd : decide (v2 < b) = true) :
  Calls Tryz.prog 139 #[.agg #[.int .i64 4,.int .i64 n,.int .i64 s,.int .i64 b],.agg #[.int .i64 v1,.int .i64 v2]] w fun e w' => e = .returned (.agg #[.int .i64 4,.int .i64 1,.int .i64 s,.int .i64 v2]) ∧ Below w.heap.size w w':=by
 go_enter Tryz.func139,Tryz.ntmps139
 go_wp2_with fail
 have hS0 : SKeep (((w.alloc (.cells #[.int .i64 4,.int .i64 n,.int .i64 s,.int .i64 b] 192)).alloc (.cells #[.int .i64 v1,.int .i64 v2] 41)).alloc (.cells #[.int .i64 0,.int .i64 0,.int .i64 0,.int .i64 0] 192)) w.heap.size { (((w.alloc (.cells #[.int .i64 4,.int .i64 n,.int .i64 s,.int .i64 b] 192)).alloc (.cells #[.int .i64 v1,.int .i64 v2] 41)).alloc (.cells #[.int .i64 0,.int .i64 0,.int .i64 0,.int .i64 0] 192)) with drawn:=(((w.alloc (.cells #[.int .i64 4,.int .i64 n,.int .i64 s,.int .i64 b] 192)).alloc (.cells #[.int .i64 v1,.int .i64 v2] 41)).alloc (.cells #[.int .i64 0,.int .i64 0,.int .i64 0,.int .i64 0] 192)).drawn + 1 }:=fun _ _ _ _ => rfl
 have c1 : (((w.alloc (.cells #[.int .i64 4,.int .i64 n,.int .i64 s,.int .i64 b] 192)).alloc (.cells #[.int .i64 v1,.int .i64 v2] 41)).alloc (.cells #[.int .i64 0,.int .i64 0,.int .i64 0,.int .i64 0] 192)).cell? ⟨w.heap.size + 1,1,none⟩ = some (.int .i64 v2):=by go_simp
 have zz : (((w.alloc (.cells #[.int .i64 4,.int .i64 n,.int .i64 s,.int .i64 b] 192)).alloc (.cells #[.int .i64 v1,.int .i64 v2] 41)).alloc (.cells #[.int .i64 0,.int .i64 0,.int .i64 0,.int .i64 0] 192)).heap.size = w.heap.size + 3:=by simp
 have HB0 : Hid (Below (((w.alloc (.cells #[.int .i64 4,.int .i64 n,.int .i64 s,.int .i64 b] 192)).alloc (.cells #[.int .i64 v1,.int .i64 v2] 41)).alloc (.cells #[.int .i64 0,.int .i64 0,.int .i64 0,.int .i64 0] 192)).heap.size (((w.alloc (.cells #[.int .i64 4,.int .i64 n,.int .i64 s,.int .i64 b] 192)).alloc (.cells #[.int .i64 v1,.int .i64 v2] 41)).alloc (.cells #[.int .i64 0,.int .i64 0,.int .i64 0,.int .i64 0] 192)) { (((w.alloc (.cells #[.int .i64 4,.int .i64 n,.int .i64 s,.int .i64 b] 192)).alloc (.cells #[.int .i64 v1,.int .i64 v2] 41)).alloc (.cells #[.int .i64 0,.int .i64 0,.int .i64 0,.int .i64 0] 192)) with drawn:=(((w.alloc (.cells #[.int .i64 4,.int .i64 n,.int .i64 s,.int .i64 b] 192)).alloc (.cells #[.int .i64 v1,.int .i64 v2] 41)).alloc (.cells #[.int .i64 0,.int .i64 0,.int .i64 0,.int .i64 0] 192)).drawn + 1 }):=(Below.refl _ _).drew
 have H3 : Hid (Below w.heap.size w (((w.alloc (.cells #[.int .i64 4,.int .i64 n,.int .i64 s,.int .i64 b] 192)).alloc (.cells #[.int .i64 v1,.int .i64 v2] 41)).alloc (.cells #[.int .i64 0,.int .i64 0,.int .i64 0,.int .i64 0] 192))):=(((Below.refl _ _).alloc (Nat.le_refl _) _).alloc (by simp) _).alloc (by simp;omega) _
 refine wp_region_held (S:=SKeep (((w.alloc (.cells #[.int .i64 4,.int .i64 n,.int .i64 s,.int .i64 b] 192)).alloc (.cells #[.int .i64 v1,.int .i64 v2] 41)).alloc (.cells #[.int .i64 0,.int .i64 0,.int .i64 0,.int .i64 0] 192)) w.heap.size) (by kernel_rfl) ?_
 generalize hw0 : ({ (((w.alloc (.cells #[.int .i64 4,.int .i64 n,.int .i64 s,.int .i64 b] 192)).alloc (.cells #[.int .i64 v1,.int .i64 v2] 41)).alloc (.cells #[.int .i64 0,.int .i64 0,.int .i64 0,.int .i64 0] 192)) with drawn:=(((w.alloc (.cells #[.int .i64 4,.int .i64 n,.int .i64 s,.int .i64 b] 192)).alloc (.cells #[.int .i64 v1,.int .i64 v2] 41)).alloc (.cells #[.int .i64 0,.int .i64 0,.int .i64 0,.int .i64 0] 192)).drawn + 1 } : World) = w0 at *
 clear hw0
 obtain ⟨hc,hf⟩:=rules HB0
 have HBf : Hid (Below w.heap.size w w0):=H3.out.trans (HB0.out.mono H3.out.size)
 have d0 : w0.cell? ⟨w.heap.size,0,none⟩ = some (.int .i64 4):=by rw [hc _ _ (by simp;omega)];go_simp
 have d1 : w0.cell? ⟨w.heap.size,1,none⟩ = some (.int .i64 n):=by rw [hc _ _ (by simp;omega)];go_simp
 have d2 : w0.cell? ⟨w.heap.size,2,none⟩ = some (.int .i64 s):=by rw [hc _ _ (by simp;omega)];go_simp
 have d3 : w0.cell? ⟨w.heap.size,3,none⟩ = some (.int .i64 b):=by rw [hc _ _ (by simp;omega)];go_simp
 have e0 : w0.cell? ⟨w.heap.size + 1 + 1,0,none⟩ = some (.int .i64 0):=by rw [hc _ _ (by simp)];go_simp
 have e1 : w0.cell? ⟨w.heap.size + 1 + 1,1,none⟩ = some (.int .i64 0):=by rw [hc _ _ (by simp)];go_simp
 have e2 : w0.cell? ⟨w.heap.size + 1 + 1,2,none⟩ = some (.int .i64 0):=by rw [hc _ _ (by simp)];go_simp
 have e3 : w0.cell? ⟨w.heap.size + 1 + 1,3,none⟩ = some (.int .i64 0):=by rw [hc _ _ (by simp)];go_simp
 refine held_take (i:=2) (v:=.pointer (some ⟨w.heap.size,1,none⟩)) (L:=#[false,false,true,false,false,false]) rfl (by kernel_rfl) (by kernel_rfl) (by kernel_rfl) (fun c a w h => h) (Or.inl ⟨by kernel_rfl,fun wq h => by go_simp⟩) hS0 (by kernel_rfl) ?_
 refine held_take (i:=0) (v:=.pointer (some ⟨w.heap.size + 1,1,none⟩)) (L:=#[true,false,true,false,false,false]) rfl (by kernel_rfl) (by kernel_rfl) (by kernel_rfl) (fun c a w h => h) (Or.inl ⟨by kernel_rfl,fun wq h => by go_simp⟩) hS0 (by kernel_rfl) ?_
 refine held_take (i:=1) (v:=.int .i64 v2) (L:=#[true,true,true,false,false,false]) rfl (by kernel_rfl) (by kernel_rfl) (by kernel_rfl) (fun c a w h => h) (Or.inl ⟨by kernel_rfl,fun wq h => by have q:=h (w.heap.size + 1) 1 (by rw [zz];omega) (by omega);rw [c1] at q;go_simp⟩) hS0 (by kernel_rfl) ?_
 refine held_go (i:=3) (L:=#[true,true,true,true,false,false]) (by kernel_rfl) rfl (by kernel_rfl) (by kernel_rfl) ?_
 intro K' hK
 go_simp
 refine hK _ _ ⟨keep_set hS0 _ _,?_⟩
 clear hK
 refine held_go (i:=4) (L:=#[true,true,true,true,true,false]) (by kernel_rfl) rfl (by kernel_rfl) (by kernel_rfl) ?_
 intro K' hK
 go_simp
 refine hK _ _ ⟨keep_set hS0 _ _,?_⟩
 clear hK
 refine held_go (i:=5) (L:=#[true,true,true,true,true,true]) (by kernel_rfl) rfl (by kernel_rfl) (by kernel_rfl) ?_
 intro K' hK
 go_simp
 refine hK _ _ ⟨keep_set (keep_set hS0 _ _) _ _,?_⟩
 clear hK
 refine wpAnyH_done (by kernel_rfl) ?_ _
 have HBz : Hid (Below w.heap.size w ((w0.setCell ⟨w.heap.size,1,none⟩ (.int .i64 1)).setCell ⟨w.heap.size,3,none⟩ (.int .i64 v2))):=(HBf.out.setCell (p:=⟨w.heap.size,1,none⟩) (Nat.le_refl _) _).setCell (p:=⟨w.heap.size,3,none⟩) (Nat.le_refl _) _
 have f0 : ((w0.setCell ⟨w.heap.size,1,none⟩ (.int .i64 1)).setCell ⟨w.heap.size,3,none⟩ (.int .i64 v2)).cell? ⟨w.heap.size,0,none⟩ = some (.int .i64 4):=(World.cell?_setCell_other _ _ _ _ (by simp)).trans ((World.cell?_setCell_other _ _ _ _ (by simp)).trans d0)
 have f1 : ((w0.setCell ⟨w.heap.size,1,none⟩ (.int .i64 1)).setCell ⟨w.heap.size,3,none⟩ (.int .i64 v2)).cell? ⟨w.heap.size,1,none⟩ = some (.int .i64 1):=(World.cell?_setCell_other _ _ _ _ (by simp)).trans (World.cell?_setCell_same _ _ _ d1)
 have f2 : ((w0.setCell ⟨w.heap.size,1,none⟩ (.int .i64 1)).setCell ⟨w.heap.size,3,none⟩ (.int .i64 v2)).cell? ⟨w.heap.size,2,none⟩ = some (.int .i64 s):=(World.cell?_setCell_other _ _ _ _ (by simp)).trans ((World.cell?_setCell_other _ _ _ _ (by simp)).trans d2)
 have f3 : ((w0.setCell ⟨w.heap.size,1,none⟩ (.int .i64 1)).setCell ⟨w.heap.size,3,none⟩ (.int .i64 v2)).cell? ⟨w.heap.size,3,none⟩ = some (.int .i64 v2):=World.cell?_setCell_same _ _ _ (by rw [World.cell?_setCell_other _ _ _ _ (by simp)];exact d3)
 have r0 : ((w0.setCell ⟨w.heap.size,1,none⟩ (.int .i64 1)).setCell ⟨w.heap.size,3,none⟩ (.int .i64 v2)).cell? ⟨w.heap.size + 1 + 1,0,none⟩ = some (.int .i64 0):=(World.cell?_setCell_other _ _ _ _ (by simp)).trans ((World.cell?_setCell_other _ _ _ _ (by simp)).trans e0)
 have r1 : ((w0.setCell ⟨w.heap.size,1,none⟩ (.int .i64 1)).setCell ⟨w.heap.size,3,none⟩ (.int .i64 v2)).cell? ⟨w.heap.size + 1 + 1,1,none⟩ = some (.int .i64 0):=(World.cell?_setCell_other _ _ _ _ (by simp)).trans ((World.cell?_setCell_other _ _ _ _ (by simp)).trans e1)
 have r2 : ((w0.setCell ⟨w.heap.size,1,none⟩ (.int .i64 1)).setCell ⟨w.heap.size,3,none⟩ (.int .i64 v2)).cell? ⟨w.heap.size + 1 + 1,2,none⟩ = some (.int .i64 0):=(World.cell?_setCell_other _ _ _ _ (by simp)).trans ((World.cell?_setCell_other _ _ _ _ (by simp)).trans e2)
 have r3 : ((w0.setCell ⟨w.heap.size,1,none⟩ (.int .i64 1)).setCell ⟨w.heap.size,3,none⟩ (.int .i64 v2)).cell? ⟨w.heap.size + 1 + 1,3,none⟩ = some (.int .i64 0):=(World.cell?_setCell_other _ _ _ _ (by simp)).trans ((World.cell?_setCell_other _ _ _ _ (by simp)).trans e3)
 have z0 : ((w0.setCell ⟨w.heap.size,1,none⟩ (.int .i64 1)).setCell ⟨w.heap.size,3,none⟩ (.int .i64 v2)).frozen? ⟨w.heap.size + 1 + 1,0,none⟩ = false:=by go_simp
 have z1 : ((w0.setCell ⟨w.heap.size,1,none⟩ (.int .i64 1)).setCell ⟨w.heap.size,3,none⟩ (.int .i64 v2)).frozen? ⟨w.heap.size + 1 + 1,1,none⟩ = false:=by go_simp
 have z2 : ((w0.setCell ⟨w.heap.size,1,none⟩ (.int .i64 1)).setCell ⟨w.heap.size,3,none⟩ (.int .i64 v2)).frozen? ⟨w.heap.size + 1 + 1,2,none⟩ = false:=by go_simp
 have z3 : ((w0.setCell ⟨w.heap.size,1,none⟩ (.int .i64 1)).setCell ⟨w.heap.size,3,none⟩ (.int .i64 v2)).frozen? ⟨w.heap.size + 1 + 1,3,none⟩ = false:=by go_simp
 generalize ((w0.setCell ⟨w.heap.size,1,none⟩ (.int .i64 1)).setCell ⟨w.heap.size,3,none⟩ (.int .i64 v2)) = wz at *
 clear d0 d1 d2 d3 e0 e1 e2 e3 hc HB0 HBf hS0 c1
 go_wp2_with fail
 refine bodyPost_ret (v:=.agg #[.int .i64 4,.int .i64 1,.int .i64 s,.int .i64 v2]) (by simp [results,Tryz.results139,go_sem,r0,r1,r2,r3]) rfl ⟨rfl,?_⟩
 repeat (first | exact HBz.out | refine Below.setCell ?_ (by first | (simp;done) | (simp;omega)) _)
theorem gadd5a (s b v1 v2 : Int) (w : World) (hv : ¬ v1 = 0) (hb : (v1 == 0) = false) :
  Calls Tryz.prog 139 #[.agg #[.int .i64 5,.int .i64 0,.int .i64 s,.int .i64 b],.agg #[.int .i64 v1,.int .i64 v2]] w fun e w' => e = .returned (.agg #[.int .i64 5,.int .i64 1,.int .i64 s,.int .i64 v2]) ∧ Below w.heap.size w w':=by
 go_enter Tryz.func139,Tryz.ntmps139
 go_wp2_with fail
 have hS0 : SKeep (((w.alloc (.cells #[.int .i64 5,.int .i64 0,.int .i64 s,.int .i64 b] 192)).alloc (.cells #[.int .i64 v1,.int .i64 v2] 41)).alloc (.cells #[.int .i64 0,.int .i64 0,.int .i64 0,.int .i64 0] 192)) w.heap.size { (((w.alloc (.cells #[.int .i64 5,.int .i64 0,.int .i64 s,.int .i64 b] 192)).alloc (.cells #[.int .i64 v1,.int .i64 v2] 41)).alloc (.cells #[.int .i64 0,.int .i64 0,.int .i64 0,.int .i64 0] 192)) with drawn:=(((w.alloc (.cells #[.int .i64 5,.int .i64 0,.int .i64 s,.int .i64 b] 192)).alloc (.cells #[.int .i64 v1,.int .i64 v2] 41)).alloc (.cells #[.int .i64 0,.int .i64 0,.int .i64 0,.int .i64 0] 192)).drawn + 1 }:=fun _ _ _ _ => rfl
 have c1 : (((w.alloc (.cells #[.int .i64 5,.int .i64 0,.int .i64 s,.int .i64 b] 192)).alloc (.cells #[.int .i64 v1,.int .i64 v2] 41)).alloc (.cells #[.int .i64 0,.int .i64 0,.int .i64 0,.int .i64 0] 192)).cell? ⟨w.heap.size + 1,1,none⟩ = some (.int .i64 v2):=by go_simp
 have zz : (((w.alloc (.cells #[.int .i64 5,.int .i64 0,.int .i64 s,.int .i64 b] 192)).alloc (.cells #[.int .i64 v1,.int .i64 v2] 41)).alloc (.cells #[.int .i64 0,.int .i64 0,.int .i64 0,.int .i64 0] 192)).heap.size = w.heap.size + 3:=by simp
 have HB0 : Hid (Below (((w.alloc (.cells #[.int .i64 5,.int .i64 0,.int .i64 s,.int .i64 b] 192)).alloc (.cells #[.int .i64 v1,.int .i64 v2] 41)).alloc (.cells #[.int .i64 0,.int .i64 0,.int .i64 0,.int .i64 0] 192)).heap.size (((w.alloc (.cells #[.int .i64 5,.int .i64 0,.int .i64 s,.int .i64 b] 192)).alloc (.cells #[.int .i64 v1,.int .i64 v2] 41)).alloc (.cells #[.int .i64 0,.int .i64 0,.int .i64 0,.int .i64 0] 192)) { (((w.alloc (.cells #[.int .i64 5,.int .i64 0,.int .i64 s,.int .i64 b] 192)).alloc (.cells #[.int .i64 v1,.int .i64 v2] 41)).alloc (.cells #[.int .i64 0,.int .i64 0,.int .i64 0,.int .i64 0] 192)) with drawn:=(((w.alloc (.cells #[.int .i64 5,.int .i64 0,.int .i64 s,.int .i64 b] 192)).alloc (.cells #[.int .i64 v1,.int .i64 v2] 41)).alloc (.cells #[.int .i64 0,.int .i64 0,.int .i64 0,.int .i64 0] 192)).drawn + 1 }):=(Below.refl _ _).drew
 have H3 : Hid (Below w.heap.size w (((w.alloc (.cells #[.int .i64 5,.int .i64 0,.int .i64 s,.int .i64 b] 192)).alloc (.cells #[.int .i64 v1,.int .i64 v2] 41)).alloc (.cells #[.int .i64 0,.int .i64 0,.int .i64 0,.int .i64 0] 192))):=(((Below.refl _ _).alloc (Nat.le_refl _) _).alloc (by simp) _).alloc (by simp;omega) _
 refine wp_region_held (S:=SKeep (((w.alloc (.cells #[.int .i64 5,.int .i64 0,.int .i64 s,.int .i64 b] 192)).alloc (.cells #[.int .i64 v1,.int .i64 v2] 41)).alloc (.cells #[.int .i64 0,.int .i64 0,.int .i64 0,.int .i64 0] 192)) w.heap.size) (by kernel_rfl) ?_
 generalize hw0 : ({ (((w.alloc (.cells #[.int .i64 5,.int .i64 0,.int .i64 s,.int .i64 b] 192)).alloc (.cells #[.int .i64 v1,.int .i64 v2] 41)).alloc (.cells #[.int .i64 0,.int .i64 0,.int .i64 0,.int .i64 0] 192)) with drawn:=(((w.alloc (.cells #[.int .i64 5,.int .i64 0,.int .i64 s,.int .i64 b] 192)).alloc (.cells #[.int .i64 v1,.int .i64 v2] 41)).alloc (.cells #[.int .i64 0,.int .i64 0,.int .i64 0,.int .i64 0] 192)).drawn + 1 } : World) = w0 at *
 clear hw0
 obtain ⟨hc,hf⟩:=rules HB0
 have HBf : Hid (Below w.heap.size w w0):=H3.out.trans (HB0.out.mono H3.out.size)
 have d0 : w0.cell? ⟨w.heap.size,0,none⟩ = some (.int .i64 5):=by rw [hc _ _ (by simp;omega)];go_simp
 have d1 : w0.cell? ⟨w.heap.size,1,none⟩ = some (.int .i64 0):=by rw [hc _ _ (by simp;omega)];go_simp
 have d2 : w0.cell? ⟨w.heap.size,2,none⟩ = some (.int .i64 s):=by rw [hc _ _ (by simp;omega)];go_simp
 have d3 : w0.cell? ⟨w.heap.size,3,none⟩ = some (.int .i64 b):=by rw [hc _ _ (by simp;omega)];go_simp
 have e0 : w0.cell? ⟨w.heap.size + 1 + 1,0,none⟩ = some (.int .i64 0):=by rw [hc _ _ (by simp)];go_simp
 have e1 : w0.cell? ⟨w.heap.size + 1 + 1,1,none⟩ = some (.int .i64 0):=by rw [hc _ _ (by simp)];go_simp
 have e2 : w0.cell? ⟨w.heap.size + 1 + 1,2,none⟩ = some (.int .i64 0):=by rw [hc _ _ (by simp)];go_simp
 have e3 : w0.cell? ⟨w.heap.size + 1 + 1,3,none⟩ = some (.int .i64 0):=by rw [hc _ _ (by simp)];go_simp
 refine held_take (i:=2) (v:=.pointer (some ⟨w.heap.size,1,none⟩)) (L:=#[false,false,true,false,false,false]) rfl (by kernel_rfl) (by kernel_rfl) (by kernel_rfl) (fun c a w h => h) (Or.inl ⟨by kernel_rfl,fun wq h => by go_simp⟩) hS0 (by kernel_rfl) ?_
 refine held_take (i:=0) (v:=.pointer (some ⟨w.heap.size + 1,1,none⟩)) (L:=#[true,false,true,false,false,false]) rfl (by kernel_rfl) (by kernel_rfl) (by kernel_rfl) (fun c a w h => h) (Or.inl ⟨by kernel_rfl,fun wq h => by go_simp⟩) hS0 (by kernel_rfl) ?_
 refine held_take (i:=1) (v:=.int .i64 v2) (L:=#[true,true,true,false,false,false]) rfl (by kernel_rfl) (by kernel_rfl) (by kernel_rfl) (fun c a w h => h) (Or.inl ⟨by kernel_rfl,fun wq h => by have q:=h (w.heap.size + 1) 1 (by rw [zz];omega) (by omega);rw [c1] at q;go_simp⟩) hS0 (by kernel_rfl) ?_
 refine held_go (i:=3) (L:=#[true,true,true,true,false,false]) (by kernel_rfl) rfl (by kernel_rfl) (by kernel_rfl) ?_
 intro K' hK
 go_simp
 refine hK _ _ ⟨keep_set hS0 _ _,?_⟩
 clear hK
 refine held_go (i:=4) (L:=#[true,true,true,true,true,false]) (by kernel_rfl) rfl (by kernel_rfl) (by kernel_rfl) ?_
 intro K' hK
 go_simp
 refine hK _ _ ⟨keep_set hS0 _ _,?_⟩
 clear hK
 refine held_go (i:=5) (L:=#[true,true,true,true,true,true]) (by kernel_rfl) rfl (by kernel_rfl) (by kernel_rfl) ?_
 intro K' hK
 go_simp
 refine hK _ _ ⟨keep_set (keep_set hS0 _ _) _ _,?_⟩
 clear hK
 refine wpAnyH_done (by kernel_rfl) ?_ _
 have HBz : Hid (Below w.heap.size w ((w0.setCell ⟨w.heap.size,1,none⟩ (.int .i64 1)).setCell ⟨w.heap.size,3,none⟩ (.int .i64 v2))):=(HBf.out.setCell (p:=⟨w.heap.size,1,none⟩) (Nat.le_refl _) _).setCell (p:=⟨w.heap.size,3,none⟩) (Nat.le_refl _) _
 have f0 : ((w0.setCell ⟨w.heap.size,1,none⟩ (.int .i64 1)).setCell ⟨w.heap.size,3,none⟩ (.int .i64 v2)).cell? ⟨w.heap.size,0,none⟩ = some (.int .i64 5):=(World.cell?_setCell_other _ _ _ _ (by simp)).trans ((World.cell?_setCell_other _ _ _ _ (by simp)).trans d0)
 have f1 : ((w0.setCell ⟨w.heap.size,1,none⟩ (.int .i64 1)).setCell ⟨w.heap.size,3,none⟩ (.int .i64 v2)).cell? ⟨w.heap.size,1,none⟩ = some (.int .i64 1):=(World.cell?_setCell_other _ _ _ _ (by simp)).trans (World.cell?_setCell_same _ _ _ d1)
 have f2 : ((w0.setCell ⟨w.heap.size,1,none⟩ (.int .i64 1)).setCell ⟨w.heap.size,3,none⟩ (.int .i64 v2)).cell? ⟨w.heap.size,2,none⟩ = some (.int .i64 s):=(World.cell?_setCell_other _ _ _ _ (by simp)).trans ((World.cell?_setCell_other _ _ _ _ (by simp)).trans d2)
 have f3 : ((w0.setCell ⟨w.heap.size,1,none⟩ (.int .i64 1)).setCell ⟨w.heap.size,3,none⟩ (.int .i64 v2)).cell? ⟨w.heap.size,3,none⟩ = some (.int .i64 v2):=World.cell?_setCell_same _ _ _ (by rw [World.cell?_setCell_other _ _ _ _ (by simp)];exact d3)
 have r0 : ((w0.setCell ⟨w.heap.size,1,none⟩ (.int .i64 1)).setCell ⟨w.heap.size,3,none⟩ (.int .i64 v2)).cell? ⟨w.heap.size + 1 + 1,0,none⟩ = some (.int .i64 0):=(World.cell?_setCell_other _ _ _ _ (by simp)).trans ((World.cell?_setCell_other _ _ _ _ (by simp)).trans e0)
 have r1 : ((w0.setCell ⟨w.heap.size,1,none⟩ (.int .i64 1)).setCell ⟨w.heap.size,3,none⟩ (.int .i64 v2)).cell? ⟨w.heap.size + 1 + 1,1,none⟩ = some (.int .i64 0):=(World.cell?_setCell_other _ _ _ _ (by simp)).trans ((World.cell?_setCell_other _ _ _ _ (by simp)).trans e1)
 have r2 : ((w0.setCell ⟨w.heap.size,1,none⟩ (.int .i64 1)).setCell ⟨w.heap.size,3,none⟩ (.int .i64 v2)).cell? ⟨w.heap.size + 1 + 1,2,none⟩ = some (.int .i64 0):=(World.cell?_setCell_other _ _ _ _ (by simp)).trans ((World.cell?_setCell_other _ _ _ _ (by simp)).trans e2)
 have r3 : ((w0.setCell ⟨w.heap.size,1,none⟩ (.int .i64 1)).setCell ⟨w.heap.size,3,none⟩ (.int .i64 v2)).cell? ⟨w.heap.size + 1 + 1,3,none⟩ = some (.int .i64 0):=(World.cell?_setCell_other _ _ _ _ (by simp)).trans ((World.cell?_setCell_other _ _ _ _ (by simp)).trans e3)
 have z0 : ((w0.setCell ⟨w.heap.size,1,none⟩ (.int .i64 1)).setCell ⟨w.heap.size,3,none⟩ (.int .i64 v2)).frozen? ⟨w.heap.size + 1 + 1,0,none⟩ = false:=by go_simp
 have z1 : ((w0.setCell ⟨w.heap.size,1,none⟩ (.int .i64 1)).setCell ⟨w.heap.size,3,none⟩ (.int .i64 v2)).frozen? ⟨w.heap.size + 1 + 1,1,none⟩ = false:=by go_simp
 have z2 : ((w0.setCell ⟨w.heap.size,1,none⟩ (.int .i64 1)).setCell ⟨w.heap.size,3,none⟩ (.int .i64 v2)).frozen? ⟨w.heap.size + 1 + 1,2,none⟩ = false:=by go_simp
 have z3 : ((w0.setCell ⟨w.heap.size,1,none⟩ (.int .i64 1)).setCell ⟨w.heap.size,3,none⟩ (.int .i64 v2)).frozen? ⟨w.heap.size + 1 + 1,3,none⟩ = false:=by go_simp
 generalize ((w0.setCell ⟨w.heap.size,1,none⟩ (.int .i64 1)).setCell ⟨w.heap.size,3,none⟩ (.int .i64 v2)) = wz at *
 clear d0 d1 d2 d3 e0 e1 e2 e3 hc HB0 HBf hS0 c1
 go_wp2_with fail
 refine bodyPost_ret (v:=.agg #[.int .i64 5,.int .i64 1,.int .i64 s,.int .i64 v2]) (by simp [results,Tryz.results139,go_sem,r0,r1,r2,r3]) rfl ⟨rfl,?_⟩
 repeat (first | exact HBz.out | refine Below.setCell ?_ (by first | (simp;done) | (simp;omega)) _)
theorem gadd5b (n s b v1 v2 : Int) (w : World) (hv : ¬ v1 = 0) (hb : (v1 == 0) = false) (hnb : (n == 0) = false) (hd : decide (b < v2) = true) :
  Calls Tryz.prog 139 #[.agg #[.int .i64 5,.int .i64 n,.int .i64 s,.int .i64 b],.agg #[.int .i64 v1,.int .i64 v2]] w fun e w' => e = .returned (.agg #[.int .i64 5,.int .i64 1,.int .i64 s,.int .i64 v2]) ∧ Below w.heap.size w w':=by
 go_enter Tryz.func139,Tryz.ntmps139
 go_wp2_with fail
 have hS0 : SKeep (((w.alloc (.cells #[.int .i64 5,.int .i64 n,.int .i64 s,.int .i64 b] 192)).alloc (.cells #[.int .i64 v1,.int .i64 v2] 41)).alloc (.cells #[.int .i64 0,.int .i64 0,.int .i64 0,.int .i64 0] 192)) w.heap.size { (((w.alloc (.cells #[.int .i64 5,.int .i64 n,.int .i64 s,.int .i64 b] 192)).alloc (.cells #[.int .i64 v1,.int .i64 v2] 41)).alloc (.cells #[.int .i64 0,.int .i64 0,.int .i64 0,.int .i64 0] 192)) with drawn:=(((w.alloc (.cells #[.int .i64 5,.int .i64 n,.int .i64 s,.int .i64 b] 192)).alloc (.cells #[.int .i64 v1,.int .i64 v2] 41)).alloc (.cells #[.int .i64 0,.int .i64 0,.int .i64 0,.int .i64 0] 192)).drawn + 1 }:=fun _ _ _ _ => rfl
 have c1 : (((w.alloc (.cells #[.int .i64 5,.int .i64 n,.int .i64 s,.int .i64 b] 192)).alloc (.cells #[.int .i64 v1,.int .i64 v2] 41)).alloc (.cells #[.int .i64 0,.int .i64 0,.int .i64 0,.int .i64 0] 192)).cell? ⟨w.heap.size + 1,1,none⟩ = some (.int .i64 v2):=by go_simp
 have zz : (((w.alloc (.cells #[.int .i64 5,.int .i64 n,.int .i64 s,.int .i64 b] 192)).alloc (.cells #[.int .i64 v1,.int .i64 v2] 41)).alloc (.cells #[.int .i64 0,.int .i64 0,.int .i64 0,.int .i64 0] 192)).heap.size = w.heap.size + 3:=by simp
 have HB0 : Hid (Below (((w.alloc (.cells #[.int .i64 5,.int .i64 n,.int .i64 s,.int .i64 b] 192)).alloc (.cells #[.int .i64 v1,.int .i64 v2] 41)).alloc (.cells #[.int .i64 0,.int .i64 0,.int .i64 0,.int .i64 0] 192)).heap.size (((w.alloc (.cells #[.int .i64 5,.int .i64 n,.int .i64 s,.int .i64 b] 192)).alloc (.cells #[.int .i64 v1,.int .i64 v2] 41)).alloc (.cells #[.int .i64 0,.int .i64 0,.int .i64 0,.int .i64 0] 192)) { (((w.alloc (.cells #[.int .i64 5,.int .i64 n,.int .i64 s,.int .i64 b] 192)).alloc (.cells #[.int .i64 v1,.int .i64 v2] 41)).alloc (.cells #[.int .i64 0,.int .i64 0,.int .i64 0,.int .i64 0] 192)) with drawn:=(((w.alloc (.cells #[.int .i64 5,.int .i64 n,.int .i64 s,.int .i64 b] 192)).alloc (.cells #[.int .i64 v1,.int .i64 v2] 41)).alloc (.cells #[.int .i64 0,.int .i64 0,.int .i64 0,.int .i64 0] 192)).drawn + 1 }):=(Below.refl _ _).drew
 have H3 : Hid (Below w.heap.size w (((w.alloc (.cells #[.int .i64 5,.int .i64 n,.int .i64 s,.int .i64 b] 192)).alloc (.cells #[.int .i64 v1,.int .i64 v2] 41)).alloc (.cells #[.int .i64 0,.int .i64 0,.int .i64 0,.int .i64 0] 192))):=(((Below.refl _ _).alloc (Nat.le_refl _) _).alloc (by simp) _).alloc (by simp;omega) _
 refine wp_region_held (S:=SKeep (((w.alloc (.cells #[.int .i64 5,.int .i64 n,.int .i64 s,.int .i64 b] 192)).alloc (.cells #[.int .i64 v1,.int .i64 v2] 41)).alloc (.cells #[.int .i64 0,.int .i64 0,.int .i64 0,.int .i64 0] 192)) w.heap.size) (by kernel_rfl) ?_
 generalize hw0 : ({ (((w.alloc (.cells #[.int .i64 5,.int .i64 n,.int .i64 s,.int .i64 b] 192)).alloc (.cells #[.int .i64 v1,.int .i64 v2] 41)).alloc (.cells #[.int .i64 0,.int .i64 0,.int .i64 0,.int .i64 0] 192)) with drawn:=(((w.alloc (.cells #[.int .i64 5,.int .i64 n,.int .i64 s,.int .i64 b] 192)).alloc (.cells #[.int .i64 v1,.int .i64 v2] 41)).alloc (.cells #[.int .i64 0,.int .i64 0,.int .i64 0,.int .i64 0] 192)).drawn + 1 } : World) = w0 at *
 clear hw0
 obtain ⟨hc,hf⟩:=rules HB0
 have HBf : Hid (Below w.heap.size w w0):=H3.out.trans (HB0.out.mono H3.out.size)
 have d0 : w0.cell? ⟨w.heap.size,0,none⟩ = some (.int .i64 5):=by rw [hc _ _ (by simp;omega)];go_simp
 have d1 : w0.cell? ⟨w.heap.size,1,none⟩ = some (.int .i64 n):=by rw [hc _ _ (by simp;omega)];go_simp
 have d2 : w0.cell? ⟨w.heap.size,2,none⟩ = some (.int .i64 s):=by rw [hc _ _ (by simp;omega)];go_simp
 have d3 : w0.cell? ⟨w.heap.size,3,none⟩ = some (.int .i64 b):=by rw [hc _ _ (by simp;omega)];go_simp
 have e0 : w0.cell? ⟨w.heap.size + 1 + 1,0,none⟩ = some (.int .i64 0):=by rw [hc _ _ (by simp)];go_simp
 have e1 : w0.cell? ⟨w.heap.size + 1 + 1,1,none⟩ = some (.int .i64 0):=by rw [hc _ _ (by simp)];go_simp
 have e2 : w0.cell? ⟨w.heap.size + 1 + 1,2,none⟩ = some (.int .i64 0):=by rw [hc _ _ (by simp)];go_simp
 have e3 : w0.cell? ⟨w.heap.size + 1 + 1,3,none⟩ = some (.int .i64 0):=by rw [hc _ _ (by simp)];go_simp
 refine held_take (i:=2) (v:=.pointer (some ⟨w.heap.size,1,none⟩)) (L:=#[false,false,true,false,false,false]) rfl (by kernel_rfl) (by kernel_rfl) (by kernel_rfl) (fun c a w h => h) (Or.inl ⟨by kernel_rfl,fun wq h => by go_simp⟩) hS0 (by kernel_rfl) ?_
 refine held_take (i:=0) (v:=.pointer (some ⟨w.heap.size + 1,1,none⟩)) (L:=#[true,false,true,false,false,false]) rfl (by kernel_rfl) (by kernel_rfl) (by kernel_rfl) (fun c a w h => h) (Or.inl ⟨by kernel_rfl,fun wq h => by go_simp⟩) hS0 (by kernel_rfl) ?_
 refine held_take (i:=1) (v:=.int .i64 v2) (L:=#[true,true,true,false,false,false]) rfl (by kernel_rfl) (by kernel_rfl) (by kernel_rfl) (fun c a w h => h) (Or.inl ⟨by kernel_rfl,fun wq h => by have q:=h (w.heap.size + 1) 1 (by rw [zz];omega) (by omega);rw [c1] at q;go_simp⟩) hS0 (by kernel_rfl) ?_
 refine held_go (i:=3) (L:=#[true,true,true,true,false,false]) (by kernel_rfl) rfl (by kernel_rfl) (by kernel_rfl) ?_
 intro K' hK
 go_simp
 refine hK _ _ ⟨keep_set hS0 _ _,?_⟩
 clear hK
 refine held_go (i:=4) (L:=#[true,true,true,true,true,false]) (by kernel_rfl) rfl (by kernel_rfl) (by kernel_rfl) ?_
 intro K' hK
 go_simp
 refine hK _ _ ⟨keep_set hS0 _ _,?_⟩
 clear hK
 refine held_go (i:=5) (L:=#[true,true,true,true,true,true]) (by kernel_rfl) rfl (by kernel_rfl) (by kernel_rfl) ?_
 intro K' hK
 go_simp
 refine hK _ _ ⟨keep_set (keep_set hS0 _ _) _ _,?_⟩
 clear hK
 refine wpAnyH_done (by kernel_rfl) ?_ _
 have HBz : Hid (Below w.heap.size w ((w0.setCell ⟨w.heap.size,1,none⟩ (.int .i64 1)).setCell ⟨w.heap.size,3,none⟩ (.int .i64 v2))):=(HBf.out.setCell (p:=⟨w.heap.size,1,none⟩) (Nat.le_refl _) _).setCell (p:=⟨w.heap.size,3,none⟩) (Nat.le_refl _) _
 have f0 : ((w0.setCell ⟨w.heap.size,1,none⟩ (.int .i64 1)).setCell ⟨w.heap.size,3,none⟩ (.int .i64 v2)).cell? ⟨w.heap.size,0,none⟩ = some (.int .i64 5):=(World.cell?_setCell_other _ _ _ _ (by simp)).trans ((World.cell?_setCell_other _ _ _ _ (by simp)).trans d0)
 have f1 : ((w0.setCell ⟨w.heap.size,1,none⟩ (.int .i64 1)).setCell ⟨w.heap.size,3,none⟩ (.int .i64 v2)).cell? ⟨w.heap.size,1,none⟩ = some (.int .i64 1):=(World.cell?_setCell_other _ _ _ _ (by simp)).trans (World.cell?_setCell_same _ _ _ d1)
 have f2 : ((w0.setCell ⟨w.heap.size,1,none⟩ (.int .i64 1)).setCell ⟨w.heap.size,3,none⟩ (.int .i64 v2)).cell? ⟨w.heap.size,2,none⟩ = some (.int .i64 s):=(World.cell?_setCell_other _ _ _ _ (by simp)).trans ((World.cell?_setCell_other _ _ _ _ (by simp)).trans d2)
 have f3 : ((w0.setCell ⟨w.heap.size,1,none⟩ (.int .i64 1)).setCell ⟨w.heap.size,3,none⟩ (.int .i64 v2)).cell? ⟨w.heap.size,3,none⟩ = some (.int .i64 v2):=World.cell?_setCell_same _ _ _ (by rw [World.cell?_setCell_other _ _ _ _ (by simp)];exact d3)
 have r0 : ((w0.setCell ⟨w.heap.size,1,none⟩ (.int .i64 1)).setCell ⟨w.heap.size,3,none⟩ (.int .i64 v2)).cell? ⟨w.heap.size + 1 + 1,0,none⟩ = some (.int .i64 0):=(World.cell?_setCell_other _ _ _ _ (by simp)).trans ((World.cell?_setCell_other _ _ _ _ (by simp)).trans e0)
 have r1 : ((w0.setCell ⟨w.heap.size,1,none⟩ (.int .i64 1)).setCell ⟨w.heap.size,3,none⟩ (.int .i64 v2)).cell? ⟨w.heap.size + 1 + 1,1,none⟩ = some (.int .i64 0):=(World.cell?_setCell_other _ _ _ _ (by simp)).trans ((World.cell?_setCell_other _ _ _ _ (by simp)).trans e1)
 have r2 : ((w0.setCell ⟨w.heap.size,1,none⟩ (.int .i64 1)).setCell ⟨w.heap.size,3,none⟩ (.int .i64 v2)).cell? ⟨w.heap.size + 1 + 1,2,none⟩ = some (.int .i64 0):=(World.cell?_setCell_other _ _ _ _ (by simp)).trans ((World.cell?_setCell_other _ _ _ _ (by simp)).trans e2)
 have r3 : ((w0.setCell ⟨w.heap.size,1,none⟩ (.int .i64 1)).setCell ⟨w.heap.size,3,none⟩ (.int .i64 v2)).cell? ⟨w.heap.size + 1 + 1,3,none⟩ = some (.int .i64 0):=(World.cell?_setCell_other _ _ _ _ (by simp)).trans ((World.cell?_setCell_other _ _ _ _ (by simp)).trans e3)
 have z0 : ((w0.setCell ⟨w.heap.size,1,none⟩ (.int .i64 1)).setCell ⟨w.heap.size,3,none⟩ (.int .i64 v2)).frozen? ⟨w.heap.size + 1 + 1,0,none⟩ = false:=by go_simp
 have z1 : ((w0.setCell ⟨w.heap.size,1,none⟩ (.int .i64 1)).setCell ⟨w.heap.size,3,none⟩ (.int .i64 v2)).frozen? ⟨w.heap.size + 1 + 1,1,none⟩ = false:=by go_simp
 have z2 : ((w0.setCell ⟨w.heap.size,1,none⟩ (.int .i64 1)).setCell ⟨w.heap.size,3,none⟩ (.int .i64 v2)).frozen? ⟨w.heap.size + 1 + 1,2,none⟩ = false:=by go_simp
 have z3 : ((w0.setCell ⟨w.heap.size,1,none⟩ (.int .i64 1)).setCell ⟨w.heap.size,3,none⟩ (.int .i64 v2)).frozen? ⟨w.heap.size + 1 + 1,3,none⟩ = false:=by go_simp
 generalize ((w0.setCell ⟨w.heap.size,1,none⟩ (.int .i64 1)).setCell ⟨w.heap.size,3,none⟩ (.int .i64 v2)) = wz at *
 clear d0 d1 d2 d3 e0 e1 e2 e3 hc HB0 HBf hS0 c1
 go_wp2_with fail
 refine bodyPost_ret (v:=.agg #[.int .i64 5,.int .i64 1,.int .i64 s,.int .i64 v2]) (by simp [results,Tryz.results139,go_sem,r0,r1,r2,r3]) rfl ⟨rfl,?_⟩
 repeat (first | exact HBz.out | refine Below.setCell ?_ (by first | (simp;done) | (simp;omega)) _)
theorem gadd_any (k n s b v1 v2 : Int) (w : World) (hk1 : 1 ≤ k) (hk5 : k ≤ 5) (n0 : 0 ≤ n) (n1 : n ≤ 1000) :
  Calls Tryz.prog 139 #[.agg #[.int .i64 k,.int .i64 n,.int .i64 s,.int .i64 b],.agg #[.int .i64 v1,.int .i64 v2]] w fun e w' => e = .returned (aggA k (gstep k (n,s,b) (v1,v2))) ∧ Below w.heap.size w w':=by
 by_cases h1 : k = 1
 ·subst h1
  clear hk1 hk5
  by_cases hv : v1 = 0
  ·have hb : (v1 == 0) = true:=by simp [hv]
   clear hv
   have e : gstep 1 (n,s,b) (v1,v2) = (n + 1,s,b):=by simp [gstep]
   rw [e]
   unfold aggA
   clear e
   go_enter Tryz.func139,Tryz.ntmps139
   go_wp2_with fail
   refine bodyPost_ret (v:=.agg #[.int .i64 1,.int .i64 (n + 1),.int .i64 s,.int .i64 b]) (by simp [results,Tryz.results139,go_sem]) rfl ⟨rfl,?_⟩
   repeat (first | exact Below.refl _ _ | refine Below.alloc ?_ (by first | (simp;done) | (simp;omega)) _ | refine Below.setCell ?_ (by first | (simp;done) | (simp;omega)) _)
  ·have hb : (v1 == 0) = false:=by simp [hv]
   clear hv
   have e : gstep 1 (n,s,b) (v1,v2) = (n + 1,s,b):=by simp [gstep]
   rw [e]
   unfold aggA
   clear e
   go_enter Tryz.func139,Tryz.ntmps139
   go_wp2_with fail
   refine bodyPost_ret (v:=.agg #[.int .i64 1,.int .i64 (n + 1),.int .i64 s,.int .i64 b]) (by simp [results,Tryz.results139,go_sem]) rfl ⟨rfl,?_⟩
   repeat (first | exact Below.refl _ _ | refine Below.alloc ?_ (by first | (simp;done) | (simp;omega)) _ | refine Below.setCell ?_ (by first | (simp;done) | (simp;omega)) _)
 have hk : (k != 1) = true:=by simp [h1]
 by_cases hv : v1 = 0
 ·have e : gstep k (n,s,b) (v1,v2) = (n,s,b):=by simp [gstep,hv,h1]
  have hb : (v1 == 0) = true:=by simp [hv]
  rw [e]
  unfold aggA
  clear e hv h1
  go_enter Tryz.func139,Tryz.ntmps139
  go_wp2_with fail
  refine bodyPost_ret (v:=.agg #[.int .i64 k,.int .i64 n,.int .i64 s,.int .i64 b]) (by simp [results,Tryz.results139,go_sem]) rfl ⟨rfl,?_⟩
  repeat (first | exact Below.refl _ _ | refine Below.alloc ?_ (by first | (simp;done) | (simp;omega)) _ | refine Below.setCell ?_ (by first | (simp;done) | (simp;omega)) _)
 have hb : (v1 == 0) = false:=by simp [hv]
 rcases (by omega : k = 2 ∨ k = 3 ∨ k = 4 ∨ k = 5) with rfl | rfl | rfl | rfl
 ·clear hk1 hk5 h1 hk
  have e : gstep 2 (n,s,b) (v1,v2) = (n + 1,s,b):=by simp [gstep,hv]
  rw [e]
  unfold aggA
  clear e
  go_enter Tryz.func139,Tryz.ntmps139
  go_wp2_with fail
  refine bodyPost_ret (v:=.agg #[.int .i64 2,.int .i64 (n + 1),.int .i64 s,.int .i64 b]) (by simp [results,Tryz.results139,go_sem]) rfl ⟨rfl,?_⟩
  repeat (first | exact Below.refl _ _ | refine Below.alloc ?_ (by first | (simp;done) | (simp;omega)) _ | refine Below.setCell ?_ (by first | (simp;done) | (simp;omega)) _)
 ·clear hk1 hk5 h1 hk
  have e : gstep 3 (n,s,b) (v1,v2) = (1,RowKit.wrap64 (s + v2),b):=by simp [gstep,hv]
  rw [e]
  unfold aggA
  clear e
  exact gadd3 n s b v1 v2 w hv n0 n1 hb
 ·clear hk1 hk5 h1 hk
  by_cases hn : n = 0
  ·subst hn
   have e : gstep 4 (0,s,b) (v1,v2) = (1,s,v2):=by simp [gstep,hv]
   rw [e]
   unfold aggA
   clear e
   exact gadd4a s b v1 v2 w hv hb
  ·have hnb : (n == 0) = false:=by simp [hn]
   by_cases hl : v2 < b
   ·have hd : decide (v2 < b) = true:=by simp [hl]
    have e : gstep 4 (n,s,b) (v1,v2) = (1,s,v2):=by simp [gstep,hv,hl]
    rw [e]
    unfold aggA
    clear e
    exact gadd4b n s b v1 v2 w hv hb hnb hd
   ·have hd : decide (v2 < b) = false:=by simp;omega
    have e : gstep 4 (n,s,b) (v1,v2) = (n,s,b):=by simp [gstep,hv,hn,hl]
    rw [e]
    unfold aggA
    clear e
    go_enter Tryz.func139,Tryz.ntmps139
    go_wp2_with fail
    refine bodyPost_ret (v:=.agg #[.int .i64 4,.int .i64 n,.int .i64 s,.int .i64 b]) (by simp [results,Tryz.results139,go_sem]) rfl ⟨rfl,?_⟩
    repeat (first | exact Below.refl _ _ | refine Below.alloc ?_ (by first | (simp;done) | (simp;omega)) _ | refine Below.setCell ?_ (by first | (simp;done) | (simp;omega)) _)
 ·clear hk1 hk5 h1 hk
  by_cases hn : n = 0
  ·subst hn
   have e : gstep 5 (0,s,b) (v1,v2) = (1,s,v2):=by simp [gstep,hv]
   rw [e]
   unfold aggA
   clear e
   exact gadd5a s b v1 v2 w hv hb
  ·have hnb : (n == 0) = false:=by simp [hn]
   by_cases hl : b < v2
   ·have hd : decide (b < v2) = true:=by simp [hl]
    have e : gstep 5 (n,s,b) (v1,v2) = (1,s,v2):=by simp [gstep,hv,hl]
    rw [e]
    unfold aggA
    clear e
    exact gadd5b n s b v1 v2 w hv hb hnb hd
   ·have hd : decide (b < v2) = false:=by simp;omega
    have e : gstep 5 (n,s,b) (v1,v2) = (n,s,b):=by simp [gstep,hv,hn,hl]
    rw [e]
    unfold aggA
    clear e
    go_enter Tryz.func139,Tryz.ntmps139
    go_wp2_with fail
    refine bodyPost_ret (v:=.agg #[.int .i64 5,.int .i64 n,.int .i64 s,.int .i64 b]) (by simp [results,Tryz.results139,go_sem]) rfl ⟨rfl,?_⟩
    repeat (first | exact Below.refl _ _ | refine Below.alloc ?_ (by first | (simp;done) | (simp;omega)) _ | refine Below.setCell ?_ (by first | (simp;done) | (simp;omega)) _)
def gval (k : Int) (a : Int × Int × Int) : Int × Int :=
 if k = 1 ∨ k = 2 then (numK a.1,numN a.1) else if a.1 = 0 then (0,0) else if k = 3 then (numK a.2.1,numN a.2.1) else (numK a.2.2,numN a.2.2)
theorem gvalue_any (k n s b : Int) (w : World) (hk1 : 1 ≤ k) (hk5 : k ≤ 5) :
  Calls Tryz.prog 127 #[.agg #[.int .i64 k,.int .i64 n,.int .i64 s,.int .i64 b]] w fun e w' => e = .returned (.agg #[.int .i64 (gval k (n,s,b)).1,.int .i64 (gval k (n,s,b)).2]) ∧ Below w.heap.size w w':=by
 have H2 : Hid (Below w.heap.size w ((w.alloc (.cells #[.int .i64 k,.int .i64 n,.int .i64 s,.int .i64 b] 192)).alloc (.cells #[.int .i64 0,.int .i64 0] 41))):=((Below.refl _ _).alloc (Nat.le_refl _) _).alloc (by simp) _
 by_cases h1 : k = 1 ∨ k = 2
 ·have e : gval k (n,s,b) = (numK n,numN n):=by unfold gval;rw [if_pos h1]
  rw [e]
  clear e
  have N1:=hidE (number_any n)
  generalize numK n = r1 at *
  generalize numN n = r2 at *
  simp only
  rcases h1 with rfl | rfl
  all_goals
   go_enter Tryz.func127,Tryz.ntmps127
   go_wp2_with fail
   refine (N1.out _).mono ?_
   rintro e w1 ⟨rfl,hb⟩
   have HB:=hidE hb
   clear hb
   obtain ⟨hc,hf⟩:=rules HB
   go_wp2_with fail
   exact bodyPost_ret (v:=.agg #[.int .i64 r1,.int .i64 r2]) (by simp [results,Tryz.results127,go_sem,hc,hf]) rfl ⟨rfl,ended HB H2.out _ _⟩
 have k1 : (k == 1) = false:=by simp;omega
 have k2 : (k == 2) = false:=by simp;omega
 by_cases hn : n = 0
 ·have e : gval k (n,s,b) = (0,0):=by unfold gval;rw [if_neg h1,if_pos hn]
  rw [e]
  subst hn
  clear e h1
  simp only
  go_enter Tryz.func127,Tryz.ntmps127
  go_wp2_with fail
  refine (null_b _).mono ?_
  rintro e w1 ⟨rfl,hb⟩
  have HB:=hidE hb
  clear hb
  obtain ⟨hc,hf⟩:=rules HB
  go_wp2_with fail
  exact bodyPost_ret (v:=.agg #[.int .i64 0,.int .i64 0]) (by simp [results,Tryz.results127,go_sem,hc,hf]) rfl ⟨rfl,ended HB H2.out _ _⟩
 have hnb : (n == 0) = false:=by simp [hn]
 by_cases h3 : k = 3
 ·have e : gval k (n,s,b) = (numK s,numN s):=by unfold gval;rw [if_neg h1,if_neg hn,if_pos h3]
  rw [e]
  clear e
  have N1:=hidE (number_any s)
  generalize numK s = r1 at *
  generalize numN s = r2 at *
  simp only
  subst h3
  clear h1 k1 k2
  go_enter Tryz.func127,Tryz.ntmps127
  go_wp2_with fail
  refine (N1.out _).mono ?_
  rintro e w1 ⟨rfl,hb⟩
  have HB:=hidE hb
  clear hb
  obtain ⟨hc,hf⟩:=rules HB
  go_wp2_with fail
  exact bodyPost_ret (v:=.agg #[.int .i64 r1,.int .i64 r2]) (by simp [results,Tryz.results127,go_sem,hc,hf]) rfl ⟨rfl,ended HB H2.out _ _⟩
 ·have e : gval k (n,s,b) = (numK b,numN b):=by unfold gval;rw [if_neg h1,if_neg hn,if_neg h3]
  have k3 : (k == 3) = false:=by simp [h3]
  rw [e]
  clear e
  have N1:=hidE (number_any b)
  generalize numK b = r1 at *
  generalize numN b = r2 at *
  simp only
  clear h1 h3
  go_enter Tryz.func127,Tryz.ntmps127
  go_wp2_with fail
  refine (N1.out _).mono ?_
  rintro e w1 ⟨rfl,hb⟩
  have HB:=hidE hb
  clear hb
  obtain ⟨hc,hf⟩:=rules HB
  go_wp2_with fail
  exact bodyPost_ret (v:=.agg #[.int .i64 r1,.int .i64 r2]) (by simp [results,Tryz.results127,go_sem,hc,hf]) rfl ⟨rfl,ended HB H2.out _ _⟩
end Go.Proofs.YtcgjflamgnjhcaaGreatDoor
