/- The contract of source.Put where an event comes behind the others of a part, over this seat's translation. Conditions: as named. -/
import Derived.Test.YtepfpmagppckeabSrc3
namespace Go.Proofs.Ytepfpmagppckeab
open Go.ChangeShapes Go.WideShapes Go.ChangeAt Go.RowKit
set_option linter.unusedVariables false
set_option linter.unusedSimpArgs false

theorem blk_new7 (w : World) (x : Ev) (e : TypeId) : BlkAt (w.alloc (.cells #[.int .i64 x.t, .int .i64 x.k1, .int .i64 x.k2, .int .i64 x.a1, .int .i64 x.a2, .int .i64 x.b1, .int .i64 x.b2] e)) w.heap.size (cellsE x) := by
  refine ⟨fun j hj => ?_, fun o => by go_simp, by simp⟩
  have hj' : j < 7 := hj
  have := World.ownsRow_lit (base := 0) (size := 7) (e := e) w #[.int .i64 x.t, .int .i64 x.k1, .int .i64 x.k2, .int .i64 x.a1, .int .i64 x.a2, .int .i64 x.b1, .int .i64 x.b2] 1 (Nat.zero_le _) (by decide) rfl
  exact this.cellAt j (by omega)

set_option maxRecDepth 100000 in
set_option maxHeartbeats 1000000 in
theorem put_ok (B gs go P p : Nat) (vs : List Value) (M : List (List Ev)) (v : Value) (r : List Ev) (x : Ev) (w : World) (h : BlkAt w gs [.slice (some ⟨go, 0, none⟩) P P]) (ht : Tab B w go vs M) (hP : P ≤ 1000) (hM : M.length = P) (hp : p < P)
    (hv : vs[p]? = some v) (hr : M[p]? = some r) (hl : r.length < 40) (hx : evC x = 0) (hgs : ¬ tabBad go vs gs) :
    Calls Try.prog 33 #[.pointer (some ⟨gs, 0, none⟩), .int .i64 p, aggV x] w fun e w' => e = .returned .nilIface ∧ ∃ v' N, w.heap.size ≤ N ∧ (v'.ownBlock = v.ownBlock ∨ v'.ownBlock = some N) ∧ Tab B w' go (vs.set p v') (M.set p (r ++ [x])) ∧ KeptB w w' (fun k => k = go ∨ v.ownBlock = some k) := by
  obtain ⟨i0, hi, hz0, hz1, hz2⟩ := info_parts infoE
  have CK := hidE (fun w => srcCheck_any x w)
  rw [hx] at CK
  obtain ⟨t, k1, k2, a1, a2, b1, b2⟩ := x
  have hA := (Below.refl w.heap.size w).alloc (Nat.le_refl _) (.cells #[.int .i64 t, .int .i64 k1, .int .i64 k2, .int .i64 a1, .int .i64 a2, .int .i64 b1, .int .i64 b2] 71)
  have HH := hidE (shas_any gs go P p _ (blk_below h hA h.lt))
  rw [show (decide (0 ≤ (p : Int)) && decide ((p : Int) < (P : Int))) = true from by simp; omega] at HH
  have hpv : p < vs.length := by rw [ht.n1]; omega
  obtain ⟨ao, cap, rfl⟩ := owns_shapeE (ht.rows p v r hv hr)
  have HX := hidE (blk_new7 w ⟨t, k1, k2, a1, a2, b1, b2⟩ 71)
  have HA := hidE hA
  have HG := hidE h
  have HT := hidE ht
  have HV := hidE hv
  have HR := hidE hr
  have HGS := hidE hgs
  clear hA hx h ht hv hr hgs
  unfold aggV at *
  go_enter Try.func33, Try.ntmps33
  go_wp2_with fail
  refine HH.out.mono ?_
  rintro e w1 ⟨rfl, rfl⟩
  go_wp2_with fail
  refine (CK.out _).mono ?_
  rintro e w2 ⟨rfl, hb⟩
  have HB := nxt HA hb
  have HX := hidE (blk_below HX.out hb HX.out.lt)
  have HG := hidE (blk_below HG.out HB.out HG.out.lt)
  have HT2 := hidE (tab_below HT.out HB.out)
  have hw2 := HB.out.size
  have hbox : w.heap.size < w2.heap.size := HX.out.lt
  clear hb HA CK HH
  rw [show errV 0 = .nilIface from rfl]
  have c0 : w2.cell? ⟨gs, 0, none⟩ = some (.slice (some ⟨go, 0, none⟩) P P) := HG.out.c 0 (by simp)
  have c1 : w2.cell? ⟨go, p, none⟩ = some (.slice ao r.length cap) := (HT2.out.bk.c p hpv).trans HV.out
  have x0 : w2.cell? ⟨w.heap.size, 0, none⟩ = some (.int .i64 t) := HX.out.c 0 (by simp [cellsE])
  have x1 : w2.cell? ⟨w.heap.size, 1, none⟩ = some (.int .i64 k1) := HX.out.c 1 (by simp [cellsE])
  have x2 : w2.cell? ⟨w.heap.size, 2, none⟩ = some (.int .i64 k2) := HX.out.c 2 (by simp [cellsE])
  have x3 : w2.cell? ⟨w.heap.size, 3, none⟩ = some (.int .i64 a1) := HX.out.c 3 (by simp [cellsE])
  have x4 : w2.cell? ⟨w.heap.size, 4, none⟩ = some (.int .i64 a2) := HX.out.c 4 (by simp [cellsE])
  have x5 : w2.cell? ⟨w.heap.size, 5, none⟩ = some (.int .i64 b1) := HX.out.c 5 (by simp [cellsE])
  have x6 : w2.cell? ⟨w.heap.size, 6, none⟩ = some (.int .i64 b2) := HX.out.c 6 (by simp [cellsE])
  have lgs := HG.out.lt
  have lgo := HT2.out.bk.lt
  have lbx := HX.out.lt
  have ngs : ¬ (Value.slice ao r.length cap).ownBlock = some gs := fun e => HGS.out (.inr ⟨p, _, HV.out, e⟩)
  have ngo : ¬ (Value.slice ao r.length cap).ownBlock = some go := HT2.out.out p _ HV.out
  have nbx : ¬ (Value.slice ao r.length cap).ownBlock = some w.heap.size := fun e => by
    have := (tab_lt HT.out (.inr ⟨p, _, HV.out, e⟩)).2
    omega
  have d40 : decide (40 ≤ (r.length : Int)) = false := by simp; omega
  have hd0 : Below w2.heap.size w2 { w2 with drawn := w2.drawn + 1 } := (Below.refl _ _).drew
  have hS : KeptB w2 { w2 with drawn := w2.drawn + 1 } (fun k => (Value.slice ao r.length cap).ownBlock = some k) := keptB_of_below hd0
  have HBA := hidE (hd0.alloc hd0.size (.cells #[.int .i64 t, .int .i64 k1, .int .i64 k2, .int .i64 a1, .int .i64 a2, .int .i64 b1, .int .i64 b2] 71))
  have SA : Hid (KeptB w2 (({ w2 with drawn := w2.drawn + 1 } : World).alloc (.cells #[.int .i64 t, .int .i64 k1, .int .i64 k2, .int .i64 a1, .int .i64 a2, .int .i64 b1, .int .i64 b2] 71)) (fun k => (Value.slice ao r.length cap).ownBlock = some k)) := keptB_of_below HBA.out
  have HRO := hidE (own_keep (HT2.out.rows p _ r HV.out HR.out) HBA.out (Nat.le_refl _))
  have HBS : Hid (B ≤ (({ w2 with drawn := w2.drawn + 1 } : World).alloc (.cells #[.int .i64 t, .int .i64 k1, .int .i64 k2, .int .i64 a1, .int .i64 a2, .int .i64 b1, .int .i64 b2] 71)).heap.size) := by
    have h9 := (tab_lt HT2.out (k := go) (.inl rfl))
    have h8 := HBA.out.size
    exact hidE (by omega)
  clear hd0
  go_wp2_with fail
  refine wp_region_last (fun w' => KeptB w2 w' (fun k => (Value.slice ao r.length cap).ownBlock = some k)) 16 (by kernel_rfl) ?_
  generalize hwd : ({ w2 with drawn := w2.drawn + 1 } : World) = wd at *
  clear hwd
  refine last_take (i := 0) (v := .pointer (some ⟨gs, 0, none⟩)) (L := #[true, false, false, false, false, false, false, false, false, false, false, false, false, false, false, false, false]) [1, 2, 3, 15, 16] rfl (by kernel_rfl) (by kernel_rfl) (by kernel_rfl) (by kernel_rfl) (by kernel_rfl) (fun c a w h => h) (Or.inl ⟨by kernel_rfl, fun wq hq => by go_simp⟩) hS (by kernel_rfl) ?_
  refine last_take (i := 1) (v := .pointer (some ⟨gs, 0, none⟩)) (L := #[true, true, false, false, false, false, false, false, false, false, false, false, false, false, false, false, false]) [2, 3, 15, 16] rfl (by kernel_rfl) (by kernel_rfl) (by kernel_rfl) (by kernel_rfl) (by kernel_rfl) (fun c a w h => h) (Or.inl ⟨by kernel_rfl, fun wq hq => by go_simp⟩) hS (by kernel_rfl) ?_
  refine last_take (i := 2) (v := .pointer (some ⟨gs, 0, none⟩)) (L := #[true, true, true, false, false, false, false, false, false, false, false, false, false, false, false, false, false]) [3, 15, 16] rfl (by kernel_rfl) (by kernel_rfl) (by kernel_rfl) (by kernel_rfl) (by kernel_rfl) (fun c a w h => h) (Or.inl ⟨by kernel_rfl, fun wq hq => by go_simp⟩) hS (by kernel_rfl) ?_
  refine last_take (i := 3) (v := .slice (some ⟨go, 0, none⟩) P P) (L := #[true, true, true, true, false, false, false, false, false, false, false, false, false, false, false, false, false]) [15, 16] rfl (by kernel_rfl) (by kernel_rfl) (by kernel_rfl) (by kernel_rfl) (by kernel_rfl) (fun c a w h => h) (Or.inl ⟨by kernel_rfl, fun wq hq => by have q := kept_cell hq (0) lgs ngs; rw [c0] at q; go_simp⟩) hS (by kernel_rfl) ?_
  refine last_take (i := 4) (v := .int .i64 (p : Int)) (L := #[true, true, true, true, true, false, false, false, false, false, false, false, false, false, false, false, false]) [15, 16] rfl (by kernel_rfl) (by kernel_rfl) (by kernel_rfl) (by kernel_rfl) (by kernel_rfl) (fun c a w h => h) (Or.inl ⟨by kernel_rfl, fun wq hq => by go_simp⟩) hS (by kernel_rfl) ?_
  refine last_take (i := 5) (v := .pointer (some ⟨gs, 0, none⟩)) (L := #[true, true, true, true, true, true, false, false, false, false, false, false, false, false, false, false, false]) [6, 7, 8, 10, 11, 14, 16] rfl (by kernel_rfl) (by kernel_rfl) (by kernel_rfl) (by kernel_rfl) (by kernel_rfl) (fun c a w h => h) (Or.inl ⟨by kernel_rfl, fun wq hq => by go_simp⟩) hS (by kernel_rfl) ?_
  refine last_take (i := 6) (v := .pointer (some ⟨gs, 0, none⟩)) (L := #[true, true, true, true, true, true, true, false, false, false, false, false, false, false, false, false, false]) [7, 8, 10, 11, 14, 16] rfl (by kernel_rfl) (by kernel_rfl) (by kernel_rfl) (by kernel_rfl) (by kernel_rfl) (fun c a w h => h) (Or.inl ⟨by kernel_rfl, fun wq hq => by go_simp⟩) hS (by kernel_rfl) ?_
  refine last_take (i := 7) (v := .pointer (some ⟨gs, 0, none⟩)) (L := #[true, true, true, true, true, true, true, true, false, false, false, false, false, false, false, false, false]) [8, 10, 11, 14, 16] rfl (by kernel_rfl) (by kernel_rfl) (by kernel_rfl) (by kernel_rfl) (by kernel_rfl) (fun c a w h => h) (Or.inl ⟨by kernel_rfl, fun wq hq => by go_simp⟩) hS (by kernel_rfl) ?_
  refine last_take (i := 8) (v := .slice (some ⟨go, 0, none⟩) P P) (L := #[true, true, true, true, true, true, true, true, true, false, false, false, false, false, false, false, false]) [10, 11, 14, 16] rfl (by kernel_rfl) (by kernel_rfl) (by kernel_rfl) (by kernel_rfl) (by kernel_rfl) (fun c a w h => h) (Or.inl ⟨by kernel_rfl, fun wq hq => by have q := kept_cell hq (0) lgs ngs; rw [c0] at q; go_simp⟩) hS (by kernel_rfl) ?_
  refine last_take (i := 9) (v := .int .i64 (p : Int)) (L := #[true, true, true, true, true, true, true, true, true, true, false, false, false, false, false, false, false]) [10, 11, 14, 16] rfl (by kernel_rfl) (by kernel_rfl) (by kernel_rfl) (by kernel_rfl) (by kernel_rfl) (fun c a w h => h) (Or.inl ⟨by kernel_rfl, fun wq hq => by go_simp⟩) hS (by kernel_rfl) ?_
  refine last_take (i := 10) (v := .pointer (some ⟨go, p, none⟩)) (L := #[true, true, true, true, true, true, true, true, true, true, true, false, false, false, false, false, false]) [11, 14, 16] rfl (by kernel_rfl) (by kernel_rfl) (by kernel_rfl) (by kernel_rfl) (by kernel_rfl) (fun c a w h => h) (Or.inl ⟨by kernel_rfl, fun wq hq => by go_simp⟩) hS (by kernel_rfl) ?_
  refine last_take (i := 11) (v := .slice ao r.length cap) (L := #[true, true, true, true, true, true, true, true, true, true, true, true, false, false, false, false, false]) [14, 16] rfl (by kernel_rfl) (by kernel_rfl) (by kernel_rfl) (by kernel_rfl) (by kernel_rfl) (fun c a w h => h) (Or.inl ⟨by kernel_rfl, fun wq hq => by have q := kept_cell hq (p) lgo ngo; rw [c1] at q; go_simp⟩) hS (by kernel_rfl) ?_
  refine last_take (i := 12) (v := .agg #[.int .i64 t, .int .i64 k1, .int .i64 k2, .int .i64 a1, .int .i64 a2, .int .i64 b1, .int .i64 b2]) (L := #[true, true, true, true, true, true, true, true, true, true, true, true, true, false, false, false, false]) [13, 14, 16] rfl (by kernel_rfl) (by kernel_rfl) (by kernel_rfl) (by kernel_rfl) (by kernel_rfl) (fun c a w h => h) (Or.inl ⟨by kernel_rfl, fun wq hq => by have q0 := kept_cell hq 0 lbx nbx; rw [x0] at q0; have q1 := kept_cell hq 1 lbx nbx; rw [x1] at q1; have q2 := kept_cell hq 2 lbx nbx; rw [x2] at q2; have q3 := kept_cell hq 3 lbx nbx; rw [x3] at q3; have q4 := kept_cell hq 4 lbx nbx; rw [x4] at q4; have q5 := kept_cell hq 5 lbx nbx; rw [x5] at q5; have q6 := kept_cell hq 6 lbx nbx; rw [x6] at q6; go_simp⟩) hS (by kernel_rfl) ?_
  refine last_go (i := 13) (L := #[true, true, true, true, true, true, true, true, true, true, true, true, true, true, false, false, false]) (by kernel_rfl) rfl (by kernel_rfl) (by kernel_rfl) ?_
  intro K' hK
  go_simp
  refine hK _ _ ⟨fun _ => SA.out, ?_⟩
  clear hK
  refine last_go (i := 14) (L := #[true, true, true, true, true, true, true, true, true, true, true, true, true, true, true, false, false]) (by kernel_rfl) rfl (by kernel_rfl) (by kernel_rfl) ?_
  intro K' hK
  refine op_append_own (.tmp 39) (.tmp 41) 76 rfl B 71 i0 (.agg #[.int .i64 0, .int .i64 0, .int .i64 0, .int .i64 0, .int .i64 0, .int .i64 0, .int .i64 0]) 7 56 Try.underlying76 hi hz0 hz1 hz2 rfl (by decide) (.slice ao r.length cap) r.length (rowOf cellsE r) (by go_simp) HRO.out ⟨wd.heap.size, 0, none⟩ 1 1 (cellsE ⟨t, k1, k2, a1, a2, b1, b2⟩) (by go_simp) rfl (cells7 wd ⟨t, k1, k2, a1, a2, b1, b2⟩ wd.heap.size 71 rfl) (by simp [cellsE, Value.oneCell']) (by show _ ≤ 2 ^ 63 - 1; omega) (by omega) HBS.out ?_
  intro v' w4 ho hg hob
  obtain ⟨ao', cap', rfl⟩ := owns_shapeE ho
  obtain ⟨hT1, hT2, hT3⟩ := tab_app HT2.out ⟨t, k1, k2, a1, a2, b1, b2⟩ HV.out HR.out HBA.out ho hg hob
  have HK4 := hidE (keptB_grown SA.out hg (fun k hk _ => hk))
  have BK4 := hidE hT1
  have HT4 := hidE hT2
  have KP := hidE hT3
  have HOB := hidE hob
  refine hK _ _ ⟨fun _ => HK4.out, ?_⟩
  clear hK ho hg hob hT1 hT2 hT3
  refine last_go (i := 15) (L := #[true, true, true, true, true, true, true, true, true, true, true, true, true, true, true, true, false]) (by kernel_rfl) rfl (by kernel_rfl) (by kernel_rfl) ?_
  intro K' hK
  go_simp
  refine hK _ _ ⟨fun _ => HK4.out, ?_⟩
  clear hK
  refine last_go (i := 16) (L := #[true, true, true, true, true, true, true, true, true, true, true, true, true, true, true, true, true]) (by kernel_rfl) rfl (by kernel_rfl) (by kernel_rfl) ?_
  intro K' hK
  have cy := BK4.out.c p hpv
  rw [HV.out] at cy
  have fy := BK4.out.fz p
  go_simp
  refine hK _ _ ⟨fun h => absurd rfl h, ?_⟩
  clear hK cy fy
  refine last_done (by kernel_rfl) ?_ _
  go_wp2_with fail
  go_ret
  exact ⟨rfl, _, _, by have := HBA.out.size; omega, HOB.out, HT4.out, keptB_trans (keptB_of_below HB.out) KP.out⟩
end Go.Proofs.Ytepfpmagppckeab
