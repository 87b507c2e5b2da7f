/- The law Text's last region, over this seat's translation. Conditions: as named. -/
import Derived.Test.YteaanpdckkmjoaaGreatDoorTx2J
namespace Go.Proofs.YteaanpdckkmjoaaGreatDoor
open Go.ChangeShapes Go.WideShapes Go.ChangeAt Go.RowKit
set_option linter.unusedVariables false
set_option linter.unusedSimpArgs false

theorem itoa_dec (n : Int) (w : World) (h0 : -9223372036854775808 ≤ n) (h1 : n ≤ 9223372036854775807) (ht : Tabs w) :
    Calls Tryz.prog 26 #[.int .i64 n] w fun e w' => e = .returned (.string (decB n)) ∧ Below w.heap.size w w' := itoa_any n w h0 h1 ht
theorem decB_size (n : Int) (h0 : -1000000000 ≤ n) (h1 : n ≤ 1000000000) : (decB n).size ≤ 21 := by
  unfold decB
  rw [mk_size]
  exact Lib.itoa_length_le n (by omega) (by omega)
theorem chkAs_zero : ∀ {l : List AgQ}, chkAs l = 0 → ∀ a ∈ l, chkA a = 0
  | [], _, a, h => by simp at h
  | b :: l, h, a, ha => by
    unfold chkAs at h
    by_cases hb : chkA b = 0
    · rw [if_neg (by simp [hb])] at h
      rcases List.mem_cons.1 ha with rfl | ha
      · exact hb
      · exact chkAs_zero h a ha
    · rw [if_pos hb] at h
      exact absurd h hb
theorem kindQ_zero {l : List Nd} (h : (kindQ l).2 = 0) : chkE l = 0 := by
  by_cases h9 : chkE l = 0
  · exact h9
  · exfalso
    have e : (kindQ l).2 = chkE l := by unfold kindQ; rw [if_pos h9]
    rw [e] at h
    exact h9 h
/-- what a question that may be is -/
structure OkQ (q : Qy) : Prop where
  n0 : 0 < q.aggs.length
  n4 : q.aggs.length ≤ 4
  ag : ∀ a ∈ q.aggs, chkA a = 0
  wh : 0 < q.wh.length → chkE q.wh = 0
  by_ : 0 < q.bys.length → chkE q.bys = 0
  s1 : 1 ≤ q.size ∧ q.size ≤ 1000
  s2 : 1 ≤ q.slide ∧ q.slide ≤ 1000
  s3 : 0 ≤ q.delay ∧ q.delay ≤ 1000
  s4 : 0 ≤ q.late ∧ q.late ≤ 1000
theorem okQ_of {q : Qy} (h : chkQ q = 0) : OkQ q := by
  unfold chkQ at h
  by_cases h1 : q.aggs.length = 0 ∨ 4 < q.aggs.length
  · rw [if_pos h1] at h; exact absurd h (by decide)
  rw [if_neg h1] at h
  have h2 : chkAs q.aggs = 0 := Classical.byContradiction fun h2 => by rw [if_pos h2] at h; exact h2 h
  rw [if_neg (by simp [h2])] at h
  have h3 : chkW q.wh = 0 := Classical.byContradiction fun h3 => by rw [if_pos h3] at h; exact h3 h
  rw [if_neg (by simp [h3])] at h
  have h4 : chkB q.bys = 0 := Classical.byContradiction fun h4 => by rw [if_pos h4] at h; exact h4 h
  rw [if_neg (by simp [h4])] at h
  unfold chkS at h
  by_cases h5 : q.size < 1 ∨ 1000 < q.size ∨ q.slide < 1 ∨ 1000 < q.slide ∨ q.delay < 0 ∨ 1000 < q.delay ∨ q.late < 0 ∨ 1000 < q.late
  · rw [if_pos h5] at h; exact absurd h (by decide)
  refine ⟨by omega, by omega, chkAs_zero h2, fun hp => ?_, fun hp => ?_, by omega, by omega, by omega, by omega⟩
  · unfold chkW at h3
    rw [if_neg (by omega)] at h3
    by_cases h6 : (kindQ q.wh).2 = 0
    · exact kindQ_zero h6
    · rw [if_pos h6] at h3; exact absurd h3 h6
  · unfold chkB at h4
    rw [if_neg (by omega)] at h4
    exact kindQ_zero h4
set_option maxRecDepth 100000 in
/-- a list of so many, by its elements -/
theorem listed72 (t : List Value) (h : t.length = 72) : ∃ f : Nat → Value, t = f 0 :: f 1 :: f 2 :: f 3 :: f 4 :: f 5 :: f 6 :: f 7 :: f 8 :: f 9 :: f 10 :: f 11 :: f 12 :: f 13 :: f 14 :: f 15 :: f 16 :: f 17 :: f 18 :: f 19 :: f 20 :: f 21 :: f 22 :: f 23 :: f 24 :: f 25 :: f 26 :: f 27 :: f 28 :: f 29 :: f 30 :: f 31 :: f 32 :: f 33 :: f 34 :: f 35 :: f 36 :: f 37 :: f 38 :: f 39 :: f 40 :: f 41 :: f 42 :: f 43 :: f 44 :: f 45 :: f 46 :: f 47 :: f 48 :: f 49 :: f 50 :: f 51 :: f 52 :: f 53 :: f 54 :: f 55 :: f 56 :: f 57 :: f 58 :: f 59 :: f 60 :: f 61 :: f 62 :: f 63 :: f 64 :: f 65 :: f 66 :: f 67 :: f 68 :: f 69 :: f 70 :: f 71 :: [] ∧ ∀ i, i < 72 → t[i]? = some (f i) := by
  have e1 : t = (List.range 72).map (fun i => t.getD i undef) := by
    apply List.ext_getElem
    · simp [h]
    · intro i h1 h2
      simp [List.getD, h1]
  refine ⟨fun i => t.getD i undef, ?_, fun i hi => ?_⟩
  · have e2 : ∀ g : Nat → Value, (List.range 72).map g = g 0 :: g 1 :: g 2 :: g 3 :: g 4 :: g 5 :: g 6 :: g 7 :: g 8 :: g 9 :: g 10 :: g 11 :: g 12 :: g 13 :: g 14 :: g 15 :: g 16 :: g 17 :: g 18 :: g 19 :: g 20 :: g 21 :: g 22 :: g 23 :: g 24 :: g 25 :: g 26 :: g 27 :: g 28 :: g 29 :: g 30 :: g 31 :: g 32 :: g 33 :: g 34 :: g 35 :: g 36 :: g 37 :: g 38 :: g 39 :: g 40 :: g 41 :: g 42 :: g 43 :: g 44 :: g 45 :: g 46 :: g 47 :: g 48 :: g 49 :: g 50 :: g 51 :: g 52 :: g 53 :: g 54 :: g 55 :: g 56 :: g 57 :: g 58 :: g 59 :: g 60 :: g 61 :: g 62 :: g 63 :: g 64 :: g 65 :: g 66 :: g 67 :: g 68 :: g 69 :: g 70 :: g 71 :: [] := fun _ => rfl
    exact e1.trans (e2 _)
  · simp [List.getD, h, hi]
set_option maxRecDepth 100000 in
set_option maxHeartbeats 8000000 in
theorem txTail (Q : Exit → Act → World → Prop) (C14 : Code) (h14 : rgn 14 (Tryz.f10.body.getD .skip) = some C14) (t : List Value) (gq : Nat) (s : ByteArray) (v0 v1 v2 : Value) (z1 z2 z3 z4 : Int) (w : World) (ht : t.length = 72) (k1 : t[1]? = some (.pointer (some ⟨gq, 0, none⟩))) (k6 : t[6]? = some (.string s))
    (hb : BlkAt w gq [v0, v1, v2, .int .i64 z1, .int .i64 z2, .int .i64 z3, .int .i64 z4]) (ht : Tabs w) (hs : s.size ≤ 1000000000000000) (h1 : -1000000000 ≤ z1 ∧ z1 ≤ 1000000000) (h2 : -1000000000 ≤ z2 ∧ z2 ≤ 1000000000) (h3 : -1000000000 ≤ z3 ∧ z3 ≤ 1000000000) (h4 : -1000000000 ≤ z4 ∧ z4 ≤ 1000000000)
    (hpan : ∀ c (a : Act) o v w, Q (.panic c) (a.put o v) w → Q (.panic c) a w)
    (hQ : ∀ (t' : List Value)  (w' : World), t'.length = 72 → t'[2]? = some (.string (s ++ ⟨#[32, 119, 105, 110, 100, 111, 119, 32]⟩ ++ decB z1 ++ ⟨#[32, 115, 108, 105, 100, 101, 32]⟩ ++ decB z2 ++ ⟨#[32, 100, 101, 108, 97, 121, 32]⟩ ++ decB z3 ++ ⟨#[32, 108, 97, 116, 101, 32]⟩ ++ decB z4)) → Below w.heap.size w w' → Q .normal { tmps := t'.toArray, defers := [] } w') :
    Code.wp Tryz.prog C14 Q { tmps := t.toArray, defers := [] } w := by
  have HQ := hidE hQ
  have HPN := hidE hpan
  have n3 := hb.c 3 (by simp)
  have n4 := hb.c 4 (by simp)
  have n5 := hb.c 5 (by simp)
  have n6 := hb.c 6 (by simp)
  simp only [List.getElem?_cons_zero, List.getElem?_cons_succ] at n3 n4 n5 n6
  have lgq := hb.lt
  have HT := hidE ht
  have m1 : (decB z1).size ≤ 21 := decB_size z1 h1.1 h1.2
  have m2 : (decB z2).size ≤ 21 := decB_size z2 h2.1 h2.2
  have m3 : (decB z3).size ≤ 21 := decB_size z3 h3.1 h3.2
  have m4 : (decB z4).size ≤ 21 := decB_size z4 h4.1 h4.2
  have hS : Below w.heap.size w ({ w with drawn := w.drawn + 1 } : World) := (Below.refl _ _).drew
  clear hQ hpan hb ht
  obtain ⟨f, hf, hi⟩ := listed72 t ht
  have e1 := some_at (hi 1 (by decide)) k1
  have e6 := some_at (hi 6 (by decide)) k6
  rw [e1, e6] at hf
  clear hi ht k1 e1 k6 e6
  subst hf
  unfold Tryz.f10 at h14
  simp [rgn] at h14
  subst h14
  refine wp_region_held (S := fun w' => Below w.heap.size w w') (by kernel_rfl) ?_
  generalize ({ w with drawn := w.drawn + 1 } : World) = wd at *
  refine held_take (i := 0) (v := .string s) (L := #[true, false, false, false, false, false, false, false, false, false, false, false, false, false, false, false, false, false, false, false, false, false]) rfl (by kernel_rfl) (by kernel_rfl) (by kernel_rfl) (fun c a w h => HPN.out c _ _ _ _ h) (Or.inl ⟨by kernel_rfl, fun wq hq => by go_simp⟩) hS (by kernel_rfl) ?_
  refine held_take (i := 1) (v := .string (s ++ ⟨#[32, 119, 105, 110, 100, 111, 119, 32]⟩)) (L := #[true, true, false, false, false, false, false, false, false, false, false, false, false, false, false, false, false, false, false, false, false, false]) rfl (by kernel_rfl) (by kernel_rfl) (by kernel_rfl) (fun c a w h => HPN.out c _ _ _ _ h) (Or.inl ⟨by kernel_rfl, fun wq hq => by first | (go_simp; done) | (go_simp; omega) | (go_simp; simp only [ByteArray.size_append]; omega)⟩) hS (by kernel_rfl) ?_
  refine held_take (i := 2) (v := .pointer (some ⟨gq, 3, none⟩)) (L := #[true, true, true, false, false, false, false, false, false, false, false, false, false, false, false, false, false, false, false, false, false, false]) rfl (by kernel_rfl) (by kernel_rfl) (by kernel_rfl) (fun c a w h => HPN.out c _ _ _ _ h) (Or.inl ⟨by kernel_rfl, fun wq hq => by go_simp⟩) hS (by kernel_rfl) ?_
  refine held_take (i := 3) (v := .int .i64 z1) (L := #[true, true, true, true, false, false, false, false, false, false, false, false, false, false, false, false, false, false, false, false, false, false]) rfl (by kernel_rfl) (by kernel_rfl) (by kernel_rfl) (fun c a w h => HPN.out c _ _ _ _ h) (Or.inl ⟨by kernel_rfl, fun wq hq => by have q9 := hq.cell (p := ⟨gq, 3, none⟩) lgq; rw [n3] at q9; go_simp⟩) hS (by kernel_rfl) ?_
  refine held_take (i := 7) (v := .pointer (some ⟨gq, 4, none⟩)) (L := #[true, true, true, true, false, false, false, true, false, false, false, false, false, false, false, false, false, false, false, false, false, false]) rfl (by kernel_rfl) (by kernel_rfl) (by kernel_rfl) (fun c a w h => HPN.out c _ _ _ _ h) (Or.inl ⟨by kernel_rfl, fun wq hq => by go_simp⟩) hS (by kernel_rfl) ?_
  refine held_take (i := 8) (v := .int .i64 z2) (L := #[true, true, true, true, false, false, false, true, true, false, false, false, false, false, false, false, false, false, false, false, false, false]) rfl (by kernel_rfl) (by kernel_rfl) (by kernel_rfl) (fun c a w h => HPN.out c _ _ _ _ h) (Or.inl ⟨by kernel_rfl, fun wq hq => by have q9 := hq.cell (p := ⟨gq, 4, none⟩) lgq; rw [n4] at q9; go_simp⟩) hS (by kernel_rfl) ?_
  refine held_take (i := 12) (v := .pointer (some ⟨gq, 5, none⟩)) (L := #[true, true, true, true, false, false, false, true, true, false, false, false, true, false, false, false, false, false, false, false, false, false]) rfl (by kernel_rfl) (by kernel_rfl) (by kernel_rfl) (fun c a w h => HPN.out c _ _ _ _ h) (Or.inl ⟨by kernel_rfl, fun wq hq => by go_simp⟩) hS (by kernel_rfl) ?_
  refine held_take (i := 13) (v := .int .i64 z3) (L := #[true, true, true, true, false, false, false, true, true, false, false, false, true, true, false, false, false, false, false, false, false, false]) rfl (by kernel_rfl) (by kernel_rfl) (by kernel_rfl) (fun c a w h => HPN.out c _ _ _ _ h) (Or.inl ⟨by kernel_rfl, fun wq hq => by have q9 := hq.cell (p := ⟨gq, 5, none⟩) lgq; rw [n5] at q9; go_simp⟩) hS (by kernel_rfl) ?_
  refine held_take (i := 17) (v := .pointer (some ⟨gq, 6, none⟩)) (L := #[true, true, true, true, false, false, false, true, true, false, false, false, true, true, false, false, false, true, false, false, false, false]) rfl (by kernel_rfl) (by kernel_rfl) (by kernel_rfl) (fun c a w h => HPN.out c _ _ _ _ h) (Or.inl ⟨by kernel_rfl, fun wq hq => by go_simp⟩) hS (by kernel_rfl) ?_
  refine held_take (i := 18) (v := .int .i64 z4) (L := #[true, true, true, true, false, false, false, true, true, false, false, false, true, true, false, false, false, true, true, false, false, false]) rfl (by kernel_rfl) (by kernel_rfl) (by kernel_rfl) (fun c a w h => HPN.out c _ _ _ _ h) (Or.inl ⟨by kernel_rfl, fun wq hq => by have q9 := hq.cell (p := ⟨gq, 6, none⟩) lgq; rw [n6] at q9; go_simp⟩) hS (by kernel_rfl) ?_
  refine held_go (i := 4) (L := #[true, true, true, true, true, false, false, true, true, false, false, false, true, true, false, false, false, true, true, false, false, false]) (by kernel_rfl) rfl (by kernel_rfl) (by kernel_rfl) ?_
  intro K' hK
  go_simp
  refine (itoa_dec z1 _ (by omega) (by omega) (HT.out.below hS)).mono ?_
  rintro e w1 ⟨rfl, hb1⟩
  have hS1 := hS.trans (hb1.mono hS.size)
  refine hK _ _ ⟨hS1, ?_⟩
  clear hK hb1
  refine held_take (i := 5) (v := .string (s ++ ⟨#[32, 119, 105, 110, 100, 111, 119, 32]⟩ ++ decB z1)) (L := #[true, true, true, true, true, true, false, true, true, false, false, false, true, true, false, false, false, true, true, false, false, false]) rfl (by kernel_rfl) (by kernel_rfl) (by kernel_rfl) (fun c a w h => HPN.out c _ _ _ _ h) (Or.inl ⟨by kernel_rfl, fun wq hq => by first | (go_simp; done) | (go_simp; omega) | (go_simp; simp only [ByteArray.size_append]; omega)⟩) hS1 (by kernel_rfl) ?_
  refine held_take (i := 6) (v := .string (s ++ ⟨#[32, 119, 105, 110, 100, 111, 119, 32]⟩ ++ decB z1 ++ ⟨#[32, 115, 108, 105, 100, 101, 32]⟩)) (L := #[true, true, true, true, true, true, true, true, true, false, false, false, true, true, false, false, false, true, true, false, false, false]) rfl (by kernel_rfl) (by kernel_rfl) (by kernel_rfl) (fun c a w h => HPN.out c _ _ _ _ h) (Or.inl ⟨by kernel_rfl, fun wq hq => by first | (go_simp; done) | (go_simp; omega) | (go_simp; simp only [ByteArray.size_append]; omega)⟩) hS1 (by kernel_rfl) ?_
  refine held_go (i := 9) (L := #[true, true, true, true, true, true, true, true, true, true, false, false, true, true, false, false, false, true, true, false, false, false]) (by kernel_rfl) rfl (by kernel_rfl) (by kernel_rfl) ?_
  intro K' hK
  go_simp
  refine (itoa_dec z2 _ (by omega) (by omega) (HT.out.below hS1)).mono ?_
  rintro e w2 ⟨rfl, hb2⟩
  have hS2 := hS1.trans (hb2.mono hS1.size)
  refine hK _ _ ⟨hS2, ?_⟩
  clear hK hb2
  refine held_take (i := 10) (v := .string (s ++ ⟨#[32, 119, 105, 110, 100, 111, 119, 32]⟩ ++ decB z1 ++ ⟨#[32, 115, 108, 105, 100, 101, 32]⟩ ++ decB z2)) (L := #[true, true, true, true, true, true, true, true, true, true, true, false, true, true, false, false, false, true, true, false, false, false]) rfl (by kernel_rfl) (by kernel_rfl) (by kernel_rfl) (fun c a w h => HPN.out c _ _ _ _ h) (Or.inl ⟨by kernel_rfl, fun wq hq => by first | (go_simp; done) | (go_simp; omega) | (go_simp; simp only [ByteArray.size_append]; omega)⟩) hS2 (by kernel_rfl) ?_
  refine held_take (i := 11) (v := .string (s ++ ⟨#[32, 119, 105, 110, 100, 111, 119, 32]⟩ ++ decB z1 ++ ⟨#[32, 115, 108, 105, 100, 101, 32]⟩ ++ decB z2 ++ ⟨#[32, 100, 101, 108, 97, 121, 32]⟩)) (L := #[true, true, true, true, true, true, true, true, true, true, true, true, true, true, false, false, false, true, true, false, false, false]) rfl (by kernel_rfl) (by kernel_rfl) (by kernel_rfl) (fun c a w h => HPN.out c _ _ _ _ h) (Or.inl ⟨by kernel_rfl, fun wq hq => by first | (go_simp; done) | (go_simp; omega) | (go_simp; simp only [ByteArray.size_append]; omega)⟩) hS2 (by kernel_rfl) ?_
  refine held_go (i := 14) (L := #[true, true, true, true, true, true, true, true, true, true, true, true, true, true, true, false, false, true, true, false, false, false]) (by kernel_rfl) rfl (by kernel_rfl) (by kernel_rfl) ?_
  intro K' hK
  go_simp
  refine (itoa_dec z3 _ (by omega) (by omega) (HT.out.below hS2)).mono ?_
  rintro e w3 ⟨rfl, hb3⟩
  have hS3 := hS2.trans (hb3.mono hS2.size)
  refine hK _ _ ⟨hS3, ?_⟩
  clear hK hb3
  refine held_take (i := 15) (v := .string (s ++ ⟨#[32, 119, 105, 110, 100, 111, 119, 32]⟩ ++ decB z1 ++ ⟨#[32, 115, 108, 105, 100, 101, 32]⟩ ++ decB z2 ++ ⟨#[32, 100, 101, 108, 97, 121, 32]⟩ ++ decB z3)) (L := #[true, true, true, true, true, true, true, true, true, true, true, true, true, true, true, true, false, true, true, false, false, false]) rfl (by kernel_rfl) (by kernel_rfl) (by kernel_rfl) (fun c a w h => HPN.out c _ _ _ _ h) (Or.inl ⟨by kernel_rfl, fun wq hq => by first | (go_simp; done) | (go_simp; omega) | (go_simp; simp only [ByteArray.size_append]; omega)⟩) hS3 (by kernel_rfl) ?_
  refine held_take (i := 16) (v := .string (s ++ ⟨#[32, 119, 105, 110, 100, 111, 119, 32]⟩ ++ decB z1 ++ ⟨#[32, 115, 108, 105, 100, 101, 32]⟩ ++ decB z2 ++ ⟨#[32, 100, 101, 108, 97, 121, 32]⟩ ++ decB z3 ++ ⟨#[32, 108, 97, 116, 101, 32]⟩)) (L := #[true, true, true, true, true, true, true, true, true, true, true, true, true, true, true, true, true, true, true, false, false, false]) rfl (by kernel_rfl) (by kernel_rfl) (by kernel_rfl) (fun c a w h => HPN.out c _ _ _ _ h) (Or.inl ⟨by kernel_rfl, fun wq hq => by first | (go_simp; done) | (go_simp; omega) | (go_simp; simp only [ByteArray.size_append]; omega)⟩) hS3 (by kernel_rfl) ?_
  refine held_go (i := 19) (L := #[true, true, true, true, true, true, true, true, true, true, true, true, true, true, true, true, true, true, true, true, false, false]) (by kernel_rfl) rfl (by kernel_rfl) (by kernel_rfl) ?_
  intro K' hK
  go_simp
  refine (itoa_dec z4 _ (by omega) (by omega) (HT.out.below hS3)).mono ?_
  rintro e w4 ⟨rfl, hb4⟩
  have hS4 := hS3.trans (hb4.mono hS3.size)
  refine hK _ _ ⟨hS4, ?_⟩
  clear hK hb4
  refine held_take (i := 20) (v := .string (s ++ ⟨#[32, 119, 105, 110, 100, 111, 119, 32]⟩ ++ decB z1 ++ ⟨#[32, 115, 108, 105, 100, 101, 32]⟩ ++ decB z2 ++ ⟨#[32, 100, 101, 108, 97, 121, 32]⟩ ++ decB z3 ++ ⟨#[32, 108, 97, 116, 101, 32]⟩ ++ decB z4)) (L := #[true, true, true, true, true, true, true, true, true, true, true, true, true, true, true, true, true, true, true, true, true, false]) rfl (by kernel_rfl) (by kernel_rfl) (by kernel_rfl) (fun c a w h => HPN.out c _ _ _ _ h) (Or.inl ⟨by kernel_rfl, fun wq hq => by first | (go_simp; done) | (go_simp; omega) | (go_simp; simp only [ByteArray.size_append]; omega)⟩) hS4 (by kernel_rfl) ?_
  refine held_go (i := 21) (L := #[true, true, true, true, true, true, true, true, true, true, true, true, true, true, true, true, true, true, true, true, true, true]) (by kernel_rfl) rfl (by kernel_rfl) (by kernel_rfl) ?_
  intro K' hK
  go_simp
  refine hK _ _ ⟨hS4, ?_⟩
  clear hK
  refine wpAnyH_done (by kernel_rfl) ?_ _
  exact HQ.out _ _ rfl rfl hS4
end Go.Proofs.YteaanpdckkmjoaaGreatDoor
