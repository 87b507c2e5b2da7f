/- The law takeSign's sign, over this seat's translation. Conditions: as named. -/
import Derived.Test.YteaanpdckkmjoaaGreatDoorPrs0J
namespace Go.Proofs.YteaanpdckkmjoaaGreatDoor
open Go.ChangeShapes Go.WideShapes Go.ChangeAt Go.RowKit
set_option linter.unusedVariables false
set_option linter.unusedSimpArgs false

set_option maxRecDepth 100000 in
/-- a list of so many, by its elements -/
theorem listed30 (t : List Value) (h : t.length = 30) : ∃ f : Nat → Value, t = f 0 :: f 1 :: f 2 :: f 3 :: f 4 :: f 5 :: f 6 :: f 7 :: f 8 :: f 9 :: f 10 :: f 11 :: f 12 :: f 13 :: f 14 :: f 15 :: f 16 :: f 17 :: f 18 :: f 19 :: f 20 :: f 21 :: f 22 :: f 23 :: f 24 :: f 25 :: f 26 :: f 27 :: f 28 :: f 29 :: [] ∧ ∀ i, i < 30 → t[i]? = some (f i) := by
  have e1 : t = (List.range 30).map (fun i => t.getD i undef) := by
    apply List.ext_getElem
    · simp [h]
    · intro i h1 h2
      simp [List.getD, h1]
  refine ⟨fun i => t.getD i undef, ?_, fun i hi => ?_⟩
  · have e2 : ∀ g : Nat → Value, (List.range 30).map g = g 0 :: g 1 :: g 2 :: g 3 :: g 4 :: g 5 :: g 6 :: g 7 :: g 8 :: g 9 :: g 10 :: g 11 :: g 12 :: g 13 :: g 14 :: g 15 :: g 16 :: g 17 :: g 18 :: g 19 :: g 20 :: g 21 :: g 22 :: g 23 :: g 24 :: g 25 :: g 26 :: g 27 :: g 28 :: g 29 :: [] := fun _ => rfl
    exact e1.trans (e2 _)
  · simp [List.getD, h, hi]
set_option maxRecDepth 100000 in
set_option maxHeartbeats 8000000 in
theorem takeSign_r1 (Q : Exit → Act → World → Prop) (C1 : Code) (h1 : rgn 1 (Tryz.f98.body.getD .skip) = some C1) (t : List Value) (gp gm g4 : Nat) (wv : Value) (ws : Ws) (d e rank : Int) (w : World) (ht : t.length = 30) (k0 : t[0]? = some (.pointer (some ⟨gp, 0, none⟩))) (k1 : t[1]? = some (.int .i64 rank)) (k4 : t[4]? = some (.pointer (some ⟨g4, 0, none⟩)))
    (h : PS w gp gm wv ws d e)
    (hpan : ∀ c (a : Act) o v w, Q (.panic c) (a.put o v) w → Q (.panic c) a w)
    (hQ : ∀ (t' : List Value) (gs : Nat) (s : Sg) (b : Bool) (w' : World), t'.length = 30 → t'[0]? = some (.pointer (some ⟨gp, 0, none⟩)) → t'[1]? = some (.int .i64 rank) → t'[4]? = some (.pointer (some ⟨g4, 0, none⟩)) → t'[6]? = some (.pointer (some ⟨gs, 0, none⟩)) → t'[7]? = some (.bool b) → (sgIn sgL (hdW ws)).getD sg0 = s ∧ (sgIn sgL (hdW ws)).isSome = b ∧ BlkAt w' gs [.int .i64 s.rank, .int .i64 s.op, .bool s.turned, .bool s.denied] ∧ w.heap.size ≤ gs ∧ Below w.heap.size w w' → Q .normal { tmps := t'.toArray, defers := [] } w') :
    Code.wp Tryz.prog C1 Q { tmps := t.toArray, defers := [] } w := by
  have HQ := hidE hQ
  have HPN := hidE hpan
  have dd : Below w.heap.size w ({ w with drawn := w.drawn + 1 } : World) := (Below.refl _ _).drew
  have H := hidE h
  have hS := dd
  obtain ⟨s, hs⟩ : ∃ s, (sgIn sgL (hdW ws)).getD sg0 = s := ⟨_, rfl⟩
  obtain ⟨b, hb⟩ : ∃ b, (sgIn sgL (hdW ws)).isSome = b := ⟨_, rfl⟩
  have HS := hidE hs
  have HBL := hidE hb
  clear hQ hpan h dd hs hb
  obtain ⟨f, hf, hi⟩ := listed30 t ht
  have e0 := some_at (hi 0 (by decide)) k0
  have e1 := some_at (hi 1 (by decide)) k1
  have e4 := some_at (hi 4 (by decide)) k4
  rw [e0, e1, e4] at hf
  clear hi ht k0 e0 k1 e1 k4 e4
  subst hf
  unfold Tryz.f98 at h1
  simp [rgn] at h1
  subst h1
  refine wp_region_held (S := fun w' => Below w.heap.size w w') (by kernel_rfl) ?_
  generalize ({ w with drawn := w.drawn + 1 } : World) = wd at *
  refine held_take (i := 0) (v := .pointer (some ⟨gp, 0, none⟩)) (L := #[true, false, false, false, false, false, false, false, false, false, false, false, false]) rfl (by kernel_rfl) (by kernel_rfl) (by kernel_rfl) (fun c a w h => HPN.out c a _ _ w h) (Or.inl ⟨by kernel_rfl, fun wq hq => by go_simp⟩) hS (by kernel_rfl) ?_
  refine held_take (i := 1) (v := .pointer (some ⟨gp, 0, none⟩)) (L := #[true, true, false, false, false, false, false, false, false, false, false, false, false]) rfl (by kernel_rfl) (by kernel_rfl) (by kernel_rfl) (fun c a w h => HPN.out c a _ _ w h) (Or.inl ⟨by kernel_rfl, fun wq hq => by go_simp⟩) hS (by kernel_rfl) ?_
  refine held_take (i := 2) (v := .pointer (some ⟨gp, 1, none⟩)) (L := #[true, true, true, false, false, false, false, false, false, false, false, false, false]) rfl (by kernel_rfl) (by kernel_rfl) (by kernel_rfl) (fun c a w h => HPN.out c a _ _ w h) (Or.inl ⟨by kernel_rfl, fun wq hq => by go_simp⟩) hS (by kernel_rfl) ?_
  refine held_take (i := 3) (v := .map (some gm)) (L := #[true, true, true, true, false, false, false, false, false, false, false, false, false]) rfl (by kernel_rfl) (by kernel_rfl) (by kernel_rfl) (fun c a w h => HPN.out c a _ _ w h) (Or.inl ⟨by kernel_rfl, fun wq hq => by have q := (ps_kept H.out hq).bd.c 1 (by simp); go_simp⟩) hS (by kernel_rfl) ?_
  refine held_take (i := 4) (v := .pointer (some ⟨gp, 0, none⟩)) (L := #[true, true, true, true, true, false, false, false, false, false, false, false, false]) rfl (by kernel_rfl) (by kernel_rfl) (by kernel_rfl) (fun c a w h => HPN.out c a _ _ w h) (Or.inl ⟨by kernel_rfl, fun wq hq => by go_simp⟩) hS (by kernel_rfl) ?_
  refine held_two (i := 5) (j := 10) (Li := #[true, true, true, true, true, true, false, false, false, false, false, false, false]) (Lj := #[true, true, true, true, true, false, false, false, false, false, true, false, false]) (by kernel_rfl) rfl rfl (by kernel_rfl) (by kernel_rfl) (by kernel_rfl) (by kernel_rfl) ?_ ?_
  · intro K' hK
    go_simp
    refine (next_any gp gm wv ws d e _ (ps_kept H.out hS)).mono ?_
    rintro x w1 ⟨rfl, hb⟩
    have hS1 := hS.trans (hb.mono (by have := hS.size; first | exact this | exact Nat.le_refl _))
    refine hK _ _ ⟨hS1, ?_⟩
    clear hK hb
    refine held_take (i := 6) (v := .tuple #[.agg #[.int .i64 s.rank, .int .i64 s.op, .bool s.turned, .bool s.denied], .bool b]) (L := #[true, true, true, true, true, true, true, false, false, false, false, false, false]) rfl (by kernel_rfl) (by kernel_rfl) (by kernel_rfl) (fun c a w h => HPN.out c a _ _ w h) (Or.inl ⟨by kernel_rfl, fun wq hq => by have q := lookS (ps_kept H.out hq).sg (hdW ws); rw [HS.out, HBL.out] at q; unfold sgV at q; go_simp⟩) hS1 (by kernel_rfl) ?_
    refine held_take (i := 7) (v := .tuple #[.agg #[.int .i64 s.rank, .int .i64 s.op, .bool s.turned, .bool s.denied], .bool b]) (L := #[true, true, true, true, true, true, true, true, false, false, false, false, false]) rfl (by kernel_rfl) (by kernel_rfl) (by kernel_rfl) (fun c a w h => HPN.out c a _ _ w h) (Or.inl ⟨by kernel_rfl, fun wq hq => by go_simp⟩) hS1 (by kernel_rfl) ?_
    refine held_take (i := 8) (v := .agg #[.int .i64 s.rank, .int .i64 s.op, .bool s.turned, .bool s.denied]) (L := #[true, true, true, true, true, true, true, true, true, false, false, false, false]) rfl (by kernel_rfl) (by kernel_rfl) (by kernel_rfl) (fun c a w h => HPN.out c a _ _ w h) (Or.inl ⟨by kernel_rfl, fun wq hq => by go_simp⟩) hS1 (by kernel_rfl) ?_
    refine held_take (i := 9) (v := .bool b) (L := #[true, true, true, true, true, true, true, true, true, true, false, false, false]) rfl (by kernel_rfl) (by kernel_rfl) (by kernel_rfl) (fun c a w h => HPN.out c a _ _ w h) (Or.inl ⟨by kernel_rfl, fun wq hq => by go_simp⟩) hS1 (by kernel_rfl) ?_
    have BZ := hidE (blk_alloc w1 [.int .i64 0, .int .i64 0, .bool false, .bool false] 96)
    have hgs : Hid (w.heap.size ≤ w1.heap.size) := hS1.size
    have hS2 := hS1.alloc hS1.size (.cells #[.int .i64 0, .int .i64 0, .bool false, .bool false] 96)
    refine held_go (i := 10) (L := #[true, true, true, true, true, true, true, true, true, true, true, false, false]) (by kernel_rfl) rfl (by kernel_rfl) (by kernel_rfl) ?_
    intro K' hK
    go_simp
    refine hK _ _ ⟨hS2, ?_⟩
    clear hK
    generalize hg : w1.heap.size = gs at *
    have hS2 : Hid (Below w.heap.size w (w1.alloc (.cells #[.int .i64 0, .int .i64 0, .bool false, .bool false] 96))) := hS2
    generalize w1.alloc (.cells #[.int .i64 0, .int .i64 0, .bool false, .bool false] 96) = w2 at *
    have hS2 := hS2.out
    clear hg
    have f0 := BZ.out.fz 0
    have f1 := BZ.out.fz 1
    have f2 := BZ.out.fz 2
    have f3 := BZ.out.fz 3
    have z0 := BZ.out.c 0 (by simp)
    have z1 := BZ.out.c 1 (by simp)
    have z2 := BZ.out.c 2 (by simp)
    have z3 := BZ.out.c 3 (by simp)
    have B4 := hidE (blk_set (blk_set (blk_set (blk_set BZ.out 0 (.int .i64 s.rank) (by simp)) 1 (.int .i64 s.op) (by simp)) 2 (.bool s.turned) (by simp)) 3 (.bool s.denied) (by simp))
    have hSz := ((((hS2.setCell (p := ⟨gs, 0, none⟩) hgs.out (.int .i64 s.rank)).setCell (p := ⟨gs, 1, none⟩) hgs.out (.int .i64 s.op)).setCell (p := ⟨gs, 2, none⟩) hgs.out (.bool s.turned)).setCell (p := ⟨gs, 3, none⟩) hgs.out (.bool s.denied))
    refine held_go (i := 11) (L := #[true, true, true, true, true, true, true, true, true, true, true, true, false]) (by kernel_rfl) rfl (by kernel_rfl) (by kernel_rfl) ?_
    intro K' hK
    go_simp
    refine hK _ _ ⟨hSz, ?_⟩
    clear hK
    refine held_go (i := 12) (L := #[true, true, true, true, true, true, true, true, true, true, true, true, true]) (by kernel_rfl) rfl (by kernel_rfl) (by kernel_rfl) ?_
    intro K' hK
    go_simp
    refine hK _ _ ⟨hSz, ?_⟩
    clear hK
    refine wpAnyH_done (by kernel_rfl) ?_ _
    exact HQ.out _ gs s b _ rfl rfl rfl rfl rfl rfl ⟨HS.out, HBL.out, by simpa using B4.out, hgs.out, hSz⟩
  · intro K' hK
    have BZ0 := hidE (blk_alloc wd [.int .i64 0, .int .i64 0, .bool false, .bool false] 96)
    have hgs : Hid (w.heap.size ≤ wd.heap.size) := hS.size
    have hS2 := hS.alloc hS.size (.cells #[.int .i64 0, .int .i64 0, .bool false, .bool false] 96)
    go_simp
    refine hK _ _ ⟨hS2, ?_⟩
    clear hK
    generalize hg : wd.heap.size = gs at *
    generalize wd.alloc (.cells #[.int .i64 0, .int .i64 0, .bool false, .bool false] 96) = w2 at *
    clear hg
    refine held_go (i := 5) (L := #[true, true, true, true, true, true, false, false, false, false, true, false, false]) (by kernel_rfl) rfl (by kernel_rfl) (by kernel_rfl) ?_
    intro K' hK
    go_simp
    refine (next_any gp gm wv ws d e _ (ps_kept H.out hS2)).mono ?_
    rintro x w1 ⟨rfl, hb⟩
    have hS3 := hS2.trans (hb.mono (by have := hS2.size; first | exact this | exact Nat.le_refl _))
    have BZ := hidE (blk_below BZ0.out hb BZ0.out.lt)
    refine hK _ _ ⟨hS3, ?_⟩
    clear hK hb
    refine held_take (i := 6) (v := .tuple #[.agg #[.int .i64 s.rank, .int .i64 s.op, .bool s.turned, .bool s.denied], .bool b]) (L := #[true, true, true, true, true, true, true, false, false, false, true, false, false]) rfl (by kernel_rfl) (by kernel_rfl) (by kernel_rfl) (fun c a w h => HPN.out c a _ _ w h) (Or.inl ⟨by kernel_rfl, fun wq hq => by have q := lookS (ps_kept H.out hq).sg (hdW ws); rw [HS.out, HBL.out] at q; unfold sgV at q; go_simp⟩) hS3 (by kernel_rfl) ?_
    refine held_take (i := 7) (v := .tuple #[.agg #[.int .i64 s.rank, .int .i64 s.op, .bool s.turned, .bool s.denied], .bool b]) (L := #[true, true, true, true, true, true, true, true, false, false, true, false, false]) rfl (by kernel_rfl) (by kernel_rfl) (by kernel_rfl) (fun c a w h => HPN.out c a _ _ w h) (Or.inl ⟨by kernel_rfl, fun wq hq => by go_simp⟩) hS3 (by kernel_rfl) ?_
    refine held_take (i := 8) (v := .agg #[.int .i64 s.rank, .int .i64 s.op, .bool s.turned, .bool s.denied]) (L := #[true, true, true, true, true, true, true, true, true, false, true, false, false]) rfl (by kernel_rfl) (by kernel_rfl) (by kernel_rfl) (fun c a w h => HPN.out c a _ _ w h) (Or.inl ⟨by kernel_rfl, fun wq hq => by go_simp⟩) hS3 (by kernel_rfl) ?_
    refine held_take (i := 9) (v := .bool b) (L := #[true, true, true, true, true, true, true, true, true, true, true, false, false]) rfl (by kernel_rfl) (by kernel_rfl) (by kernel_rfl) (fun c a w h => HPN.out c a _ _ w h) (Or.inl ⟨by kernel_rfl, fun wq hq => by go_simp⟩) hS3 (by kernel_rfl) ?_
    have f0 := BZ.out.fz 0
    have f1 := BZ.out.fz 1
    have f2 := BZ.out.fz 2
    have f3 := BZ.out.fz 3
    have z0 := BZ.out.c 0 (by simp)
    have z1 := BZ.out.c 1 (by simp)
    have z2 := BZ.out.c 2 (by simp)
    have z3 := BZ.out.c 3 (by simp)
    have B4 := hidE (blk_set (blk_set (blk_set (blk_set BZ.out 0 (.int .i64 s.rank) (by simp)) 1 (.int .i64 s.op) (by simp)) 2 (.bool s.turned) (by simp)) 3 (.bool s.denied) (by simp))
    have hSz := ((((hS3.setCell (p := ⟨gs, 0, none⟩) hgs.out (.int .i64 s.rank)).setCell (p := ⟨gs, 1, none⟩) hgs.out (.int .i64 s.op)).setCell (p := ⟨gs, 2, none⟩) hgs.out (.bool s.turned)).setCell (p := ⟨gs, 3, none⟩) hgs.out (.bool s.denied))
    refine held_go (i := 11) (L := #[true, true, true, true, true, true, true, true, true, true, true, true, false]) (by kernel_rfl) rfl (by kernel_rfl) (by kernel_rfl) ?_
    intro K' hK
    go_simp
    refine hK _ _ ⟨hSz, ?_⟩
    clear hK
    refine held_go (i := 12) (L := #[true, true, true, true, true, true, true, true, true, true, true, true, true]) (by kernel_rfl) rfl (by kernel_rfl) (by kernel_rfl) ?_
    intro K' hK
    go_simp
    refine hK _ _ ⟨hSz, ?_⟩
    clear hK
    refine wpAnyH_done (by kernel_rfl) ?_ _
    exact HQ.out _ gs s b _ rfl rfl rfl rfl rfl rfl ⟨HS.out, HBL.out, by simpa using B4.out, hgs.out, hSz⟩
end Go.Proofs.YteaanpdckkmjoaaGreatDoor
