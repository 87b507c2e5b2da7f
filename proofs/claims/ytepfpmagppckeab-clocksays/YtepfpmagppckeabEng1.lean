/- The contracts of the document's NewEngine and Upto, over this seat's translation. Conditions: from 1 to 3 parts. -/
import Derived.Test.YtepfpmagppckeabHeld2
import Derived.Test.YtepfpmagppckeabClock2
import Derived.OneCell
namespace Go.Proofs.Ytepfpmagppckeab
open Go.ChangeShapes Go.WideShapes Go.ChangeAt Go.RowKit
set_option linter.unusedVariables false
set_option linter.unusedSimpArgs false

def zeroL (n : Nat) : List Int := List.replicate n 0

/-- an engine's block: its rows of what is read and how far are its own -/
structure EngR (B : Nat) (w : World) (g : Nat) (q : List Value) (m n : Nat) (R F : List Int) (rv fv : Value) (tl : List Value) : Prop where
  bk : BlkAt w g (q ++ rv :: fv :: tl)
  ro : w.ownsRow B 3 1 rv m (R.map (Value.int .i64))
  fo : w.ownsRow B 3 1 fv n (F.map (Value.int .i64))
  gB : g < B
  hq : q.length = 7
  ne : rv.ownBlock = none ∨ rv.ownBlock ≠ fv.ownBlock

theorem own_ge {w : World} {base n : Nat} {e : TypeId} {v : Value} {xs : List Value} (h : w.ownsRow base e 1 v n xs) : ∀ k, v.ownBlock = some k → base ≤ k ∧ k < w.heap.size := by
  intro k hk
  rcases h.2 with ⟨rfl, -⟩ | ⟨g, cap, cur, rfl, hb, hg, -⟩
  · simp [Value.ownBlock] at hk
  · simp only [Value.ownBlock, Option.some.injEq] at hk
    subst hk
    exact ⟨hb, (Array.getElem?_eq_some_iff.1 hg).1⟩

theorem eng_app_r {B g m n : Nat} {wr w' : World} {q tl : List Value} {R F : List Int} {rv fv v' : Value} (h : EngR B wr g q m n R F rv fv tl) (o : Obj) (x : Int)
    (ho : w'.ownsRow B 3 1 v' (m + 1) (R.map (Value.int .i64) ++ [.int .i64 x])) (hg : (wr.alloc o).grownBy w' rv.ownBlock) (hob : v'.ownBlock = rv.ownBlock ∨ v'.ownBlock = some (wr.heap.size + 1)) :
    BlkAt w' g (q ++ rv :: fv :: tl) ∧ EngR B (w'.setCell ⟨g, 7, none⟩ v') g q (m + 1) n (R ++ [x]) F v' fv tl := by
  have ha : Below wr.heap.size wr (wr.alloc o) := (Below.refl _ _).alloc (Nat.le_refl _) _
  have nr : rv.ownBlock ≠ some g := fun e => by have := (own_ge h.ro g e).1; have := h.gB; omega
  have nv : v'.ownBlock ≠ some g := fun e => by have := (own_ge ho g e).1; have := h.gB; omega
  have b1 := blk_grown (blk_below h.bk ha h.bk.lt) hg nr
  have fo1 := (own_keep h.fo ha (Nat.le_refl _)).kept hg (by
    rcases h.ne with e | e
    · rw [e]; cases fv.ownBlock <;> simp
    · exact .inr (Ne.symm e))
  have nf : fv.ownBlock ≠ some g := fun e => by have := (own_ge h.fo g e).1; have := h.gB; omega
  refine ⟨b1, ⟨?_, ?_, ?_, h.gB, h.hq, ?_⟩⟩
  · have b2 := blk_set b1 7 v' (by simp [h.hq])
    have e : (q ++ rv :: fv :: tl).set 7 v' = q ++ v' :: fv :: tl := by rw [List.set_append_right _ _ (by rw [h.hq]; omega), h.hq]; rfl
    rw [e] at b2
    exact b2
  · rw [List.map_append]
    exact ownsRow_setCell_other ho (by simpa using nv) _
  · exact ownsRow_setCell_other fo1 (by simpa using nf) _
  · rcases hob with e | e
    · rw [e]; exact h.ne
    · refine .inr (fun e2 => ?_)
      rw [e] at e2
      have := (own_ge h.fo _ e2.symm).2
      omega
theorem eng_app_f {B g m n : Nat} {wr w' : World} {q tl : List Value} {R F : List Int} {rv fv v' : Value} (h : EngR B wr g q m n R F rv fv tl) (o : Obj) (x : Int)
    (ho : w'.ownsRow B 3 1 v' (n + 1) (F.map (Value.int .i64) ++ [.int .i64 x])) (hg : (wr.alloc o).grownBy w' fv.ownBlock) (hob : v'.ownBlock = fv.ownBlock ∨ v'.ownBlock = some (wr.heap.size + 1)) :
    BlkAt w' g (q ++ rv :: fv :: tl) ∧ EngR B (w'.setCell ⟨g, 8, none⟩ v') g q m (n + 1) R (F ++ [x]) rv v' tl := by
  have ha : Below wr.heap.size wr (wr.alloc o) := (Below.refl _ _).alloc (Nat.le_refl _) _
  have nr : fv.ownBlock ≠ some g := fun e => by have := (own_ge h.fo g e).1; have := h.gB; omega
  have nv : v'.ownBlock ≠ some g := fun e => by have := (own_ge ho g e).1; have := h.gB; omega
  have b1 := blk_grown (blk_below h.bk ha h.bk.lt) hg nr
  have ro1 := (own_keep h.ro ha (Nat.le_refl _)).kept hg h.ne
  have nf : rv.ownBlock ≠ some g := fun e => by have := (own_ge h.ro g e).1; have := h.gB; omega
  refine ⟨b1, ⟨?_, ?_, ?_, h.gB, h.hq, ?_⟩⟩
  · have b2 := blk_set b1 8 v' (by simp [h.hq]; omega)
    have e : (q ++ rv :: fv :: tl).set 8 v' = q ++ rv :: v' :: tl := by rw [List.set_append_right _ _ (by rw [h.hq]; omega), h.hq]; rfl
    rw [e] at b2
    exact b2
  · exact ownsRow_setCell_other ro1 (by simpa using nf) _
  · rw [List.map_append]
    exact ownsRow_setCell_other ho (by simpa using nv) _
  · rcases hob with e | e
    · rw [e]; exact h.ne
    · by_cases hn : rv.ownBlock = none
      · exact .inl hn
      · refine .inr (fun e2 => ?_)
        rw [e] at e2
        have := (own_ge h.ro _ e2).2
        omega

set_option maxRecDepth 100000 in
theorem newEng_any (P : Nat) (o0 o1 o2 : Option Addr) (n0 n1 n2 k0 k1 k2 : Nat) (s0 s1 s2 s3 : Int) (w : World) (h1 : 1 ≤ P) (h3 : P ≤ 3) :
    Calls Try.prog 17 #[.agg #[.slice o0 n0 k0, .slice o1 n1 k1, .slice o2 n2 k2, .int .i64 s0, .int .i64 s1, .int .i64 s2, .int .i64 s3], .int .i64 P] w fun e w' => ∃ rv fv,
      e = .returned (.pointer (some ⟨w.heap.size + 1, 0, none⟩)) ∧ EngR (w.heap.size + 2) w' (w.heap.size + 1) [.slice o0 n0 k0, .slice o1 n1 k1, .slice o2 n2 k2, .int .i64 s0, .int .i64 s1, .int .i64 s2, .int .i64 s3] P P (zeroL P) (noneL P) rv fv [.slice none 0 0, .int .i64 0, .slice none 0 0] ∧ Below w.heap.size w w' := by
  obtain ⟨i0, hi, hz0, hz1, hz2⟩ := info_parts infoI
  go_enter Try.func17, Try.ntmps17
  go_wp2_with fail
  go_loopw [6] (fun i wr => ∃ (m : Nat) (rv fv : Value), m ≤ P ∧ i = .int .i64 m ∧ Hid (EngR (w.heap.size + 2) wr (w.heap.size + 1) [.slice o0 n0 k0, .slice o1 n1 k1, .slice o2 n2 k2, .int .i64 s0, .int .i64 s1, .int .i64 s2, .int .i64 s3] m m (zeroL m) (noneL m) rv fv [.slice none 0 0, .int .i64 0, .slice none 0 0]) ∧ Hid (Below w.heap.size w wr)) (fun i _ => P - (intOf i).toNat)
  case atStart =>
    refine ⟨0, .slice none 0 0, .slice none 0 0, Nat.zero_le _, rfl, hidE ⟨⟨fun j hj => ?_, fun o => by go_simp, by simp⟩, World.ownsRow_nil _ _ _ _, World.ownsRow_nil _ _ _ _, by omega, rfl, .inl rfl⟩, hidE (((Below.refl _ _).alloc (Nat.le_refl _) _).alloc (by simp) _)⟩
    simp only [List.cons_append, List.nil_append, List.length_cons, List.length_nil] at hj
    rcases (by omega : j = 0 ∨ j = 1 ∨ j = 2 ∨ j = 3 ∨ j = 4 ∨ j = 5 ∨ j = 6 ∨ j = 7 ∨ j = 8 ∨ j = 9 ∨ j = 10 ∨ j = 11) with rfl | rfl | rfl | rfl | rfl | rfl | rfl | rfl | rfl | rfl | rfl | rfl <;> go_simp
  case round =>
    obtain ⟨m, rv, fv, hm, rfl, HE, HB⟩ := hrel
    by_cases hlt0 : m < P
    · obtain ⟨ra, rc, rfl⟩ := owns_shapeE HE.out.ro
      obtain ⟨fa, fc, rfl⟩ := owns_shapeE HE.out.fo
      have hlt := HE.out.bk.lt
      have cx : wr.cell? ⟨w.heap.size + 1, 7, none⟩ = some (.slice ra m rc) := HE.out.bk.c 7 (by simp)
      have HSZ : Hid (w.heap.size + 2 ≤ (wr.alloc (.cells #[.int .i64 0] 3)).heap.size) := hidE (by simp; omega)
      have HRO := hidE (own_keep HE.out.ro ((Below.refl _ _).alloc (Nat.le_refl _) (.cells #[.int .i64 0] 3)) (Nat.le_refl _))
      go_wp2_with (at_builtin; go_must (refine wpList_append_own_at _ rfl (.tmp 19) (.tmp 20) 22 rfl (w.heap.size + 2) 3 i0 (.int .i64 0) 1 8 Try.underlying22 hi hz0 hz1 hz2 rfl (by decide) _ _ _ rfl HRO.out _ 1 1 [.int .i64 0] rfl rfl (cell_one_newE _ _ _) (by simp [Value.oneCell']) (by show _ ≤ 2 ^ 63 - 1; omega) (by omega) HSZ.out ?_))
      intro v' w1 ho hg _ hob
      obtain ⟨ra', rc', rfl⟩ := owns_shapeE ho
      have hg' := hg
      obtain ⟨bk1, HE1⟩ := eng_app_r HE.out (.cells #[.int .i64 0] 3) 0 ho hg hob
      have HB1 := hidE ((HB.out.alloc (by have := HB.out.size; omega) (.cells #[.int .i64 0] 3)).grown hg (by simp; have := HB.out.size; omega) (fun k hk => by have := (own_ge HE.out.ro k hk).1; omega))
      have c7 : w1.cell? ⟨w.heap.size + 1, 7, none⟩ = some (.slice ra m rc) := bk1.c 7 (by simp)
      have f7 := bk1.fz 7
      have HB1 := hidE (HB1.out.setCell (p := ⟨w.heap.size + 1, 7, none⟩) (by simp) (.slice ra' (m + 1) rc'))
      have HE1 := hidE HE1
      clear ho hg hob hg' bk1 HE HB cx HSZ HRO hlt
      have cx : (w1.setCell ⟨w.heap.size + 1, 7, none⟩ (.slice ra' (m + 1) rc')).cell? ⟨w.heap.size + 1, 8, none⟩ = some (.slice fa m fc) := HE1.out.bk.c 8 (by simp)
      have hlt := HE1.out.bk.lt
      have HSZ : Hid (w.heap.size + 2 ≤ ((w1.setCell ⟨w.heap.size + 1, 7, none⟩ (.slice ra' (m + 1) rc')).alloc (.cells #[.int .i64 (-1)] 3)).heap.size) := hidE (by simp at hlt ⊢; omega)
      have HRO := hidE (own_keep HE1.out.fo ((Below.refl _ _).alloc (Nat.le_refl _) (.cells #[.int .i64 (-1)] 3)) (Nat.le_refl _))
      have HN := cell_one_newE (w1.setCell ⟨w.heap.size + 1, 7, none⟩ (.slice ra' (m + 1) rc')) (.int .i64 (-1)) 3
      have hsz : (w1.setCell ⟨w.heap.size + 1, 7, none⟩ (.slice ra' (m + 1) rc')).heap.size = w1.heap.size := by simp
      rw [hsz] at HN
      have HN := hidE HN
      have HSE := hidE hsz
      clear hsz
      go_wp2_with (at_builtin; go_must (refine wpList_append_own_at _ rfl (.tmp 28) (.tmp 29) 22 rfl (w.heap.size + 2) 3 i0 (.int .i64 0) 1 8 Try.underlying22 hi hz0 hz1 hz2 rfl (by decide) _ _ _ rfl HRO.out _ 1 1 [.int .i64 (-1)] rfl rfl HN.out (by simp [Value.oneCell']) (by show _ ≤ 2 ^ 63 - 1; omega) (by omega) HSZ.out ?_))
      intro v' w3 ho hg _ hob
      obtain ⟨fa', fc', rfl⟩ := owns_shapeE ho
      simp only [← HSE.out] at hob
      obtain ⟨bk1, HE3⟩ := eng_app_f HE1.out (.cells #[.int .i64 (-1)] 3) (-1) ho hg hob
      have HB3 := hidE ((HB1.out.alloc (by have := HB1.out.size; omega) (.cells #[.int .i64 (-1)] 3)).grown hg (by have := HB1.out.size; have h8 := ((Below.refl _ _).alloc (Nat.le_refl _) (.cells #[.int .i64 (-1)] 3) : Below _ (w1.setCell ⟨w.heap.size + 1, 7, none⟩ (.slice ra' (m + 1) rc')) _).size; omega) (fun k hk => by have := (own_ge HE1.out.fo k hk).1; omega))
      have c8 : w3.cell? ⟨w.heap.size + 1, 8, none⟩ = some (.slice fa m fc) := bk1.c 8 (by simp)
      have f8 := bk1.fz 8
      have HB3 := hidE (HB3.out.setCell (p := ⟨w.heap.size + 1, 8, none⟩) (by simp) (.slice fa' (m + 1) fc'))
      have HE3 := hidE HE3
      clear ho hg hob bk1 HE1 HB1 cx HSZ HRO hlt HN HSE c7 f7
      go_wp2_with fail
      go_roundw
      case rel =>
        refine ⟨m + 1, .slice ra' (m + 1) rc', .slice fa' (m + 1) fc', by omega, by go_num, ?_, HB3⟩
        have e1 : zeroL (m + 1) = zeroL m ++ [0] := List.replicate_succ'
        have e2 : noneL (m + 1) = noneL m ++ [-1] := List.replicate_succ'
        rw [e1, e2]
        exact HE3
      case measure => simp [intOf]; omega
    · have hmP : m = P := by omega
      subst hmP
      go_wp2_with fail
      go_ret
      exact ⟨rv, fv, rfl, HE.out, HB.out⟩

/-- how far it is known of all, as the document has it -/
def uptoV (F : List Int) (delay : Int) : Value := if F.all (fun x => decide (0 ≤ x)) then .tuple #[.int .i64 (RowKit.wrap64 (minOf F - delay)), .bool true] else .tuple #[.int .i64 0, .bool false]

def minTo (F : List Int) (n : Nat) : Int := minOf (F.take n)

set_option maxRecDepth 100000 in
theorem upto_any (F : List Int) (g : Nat) (fv : Value) (delay : Int) (w : World) (h0 : 0 < F.length) (hl : F.length ≤ 1000) (hF : RowC w fv F) (hg : g < w.heap.size)
    (c8 : w.cell? ⟨g, 8, none⟩ = some fv) (c5 : w.cell? ⟨g, 5, none⟩ = some (.int .i64 delay)) :
    Calls Try.prog 20 #[.pointer (some ⟨g, 0, none⟩)] w fun e w' => e = .returned (uptoV F delay) ∧ Below w.heap.size w w' := by
  obtain ⟨gf, off, cap, rfl, l1, l2, l3, hc0⟩ := rowC_at hF h0
  have HC := hidE hc0
  have kn := kin_some w
  obtain ⟨kc, kf⟩ := kin_rules w
  clear hc0 hF
  unfold maxLen at l2
  obtain ⟨V, hV⟩ : ∃ V, uptoV F delay = V := ⟨_, rfl⟩
  rw [hV]
  have HV := hidE hV
  clear hV
  go_enter Try.func20, Try.ntmps20
  go_wp2_with fail
  go_loop [4, 5] (fun ls i => ∃ (n : Nat) (x : Int), n ≤ F.length ∧ ls = .int .i64 x ∧ i = .int .i64 n ∧ Hid (∀ j, j < n → 0 ≤ F.getD j 0) ∧ Hid (∀ j, j < n → x ≤ F.getD j 0) ∧ Hid (0 < n → ∃ j, j < n ∧ x = F.getD j 0)) (fun _ i => F.length - (intOf i).toNat)
  case atStart => exact ⟨0, 0, Nat.zero_le _, rfl, rfl, fun j hj => absurd hj (by omega), fun j hj => absurd hj (by omega), fun h => absurd h (by omega)⟩
  case round =>
    obtain ⟨n, x, hn, rfl, rfl, H0, H1, H2⟩ := hrel
    by_cases hlt : n < F.length
    · have cx := HC.out n hlt
      obtain ⟨y, hy⟩ : ∃ y, F.getD n 0 = y := ⟨_, rfl⟩
      rw [hy] at cx
      have HY := hidE hy
      clear hy
      by_cases y0 : y < 0
      · have dy : decide (y < 0) = true := by simp [y0]
        have EV : Hid (V = .tuple #[.int .i64 0, .bool false]) := by
          show _ = _
          rw [← HV.out]
          unfold uptoV
          rw [if_neg]
          rw [List.all_eq_true]
          intro h
          have h9 := h (F.getD n 0) (by rw [List.getD_eq_getElem?_getD, List.getElem?_eq_getElem hlt]; exact List.getElem_mem hlt)
          rw [HY.out] at h9
          simp at h9
          omega
        go_wp2_with fail
        go_ret2
        exact ⟨by rw [EV.out]; rfl, Below.refl _ _⟩
      · have dy : decide (y < 0) = false := by simp; omega
        have HX0 : Hid (∀ j, j < n + 1 → 0 ≤ F.getD j 0) := fun j hj => by
          by_cases h9 : j = n
          · subst h9; rw [HY.out]; omega
          · exact H0.out j (by omega)
        by_cases hn0 : n = 0
        · subst hn0
          have HX1 : Hid (∀ j, j < 0 + 1 → y ≤ F.getD j 0) := fun j hj => by
            have : j = 0 := by omega
            subst this
            rw [HY.out]; exact Int.le_refl _
          have HX2 : Hid (0 < 0 + 1 → ∃ j, j < 0 + 1 ∧ y = F.getD j 0) := fun _ => ⟨0, by omega, HY.out.symm⟩
          rw [Nat.add_zero] at cx
          go_wp2_with fail
          go_round
          case rel => exact ⟨0 + 1, y, by omega, rfl, by go_num, HX0, HX1, HX2⟩
          case measure => simp [intOf]; omega
        · have dn : ((n : Int) == 0) = false := by simp; omega
          by_cases hyx : y < x
          · have dx : decide (y < x) = true := by simp [hyx]
            have HX1 : Hid (∀ j, j < n + 1 → y ≤ F.getD j 0) := fun j hj => by
              by_cases h9 : j = n
              · subst h9; rw [HY.out]; exact Int.le_refl _
              · have := H1.out j (by omega); omega
            have HX2 : Hid (0 < n + 1 → ∃ j, j < n + 1 ∧ y = F.getD j 0) := fun _ => ⟨n, by omega, HY.out.symm⟩
            go_wp2_with fail
            go_round
            case rel => exact ⟨n + 1, y, by omega, rfl, by go_num, HX0, HX1, HX2⟩
            case measure => simp [intOf]; omega
          · have dx : decide (y < x) = false := by simp; omega
            have HX1 : Hid (∀ j, j < n + 1 → x ≤ F.getD j 0) := fun j hj => by
              by_cases h9 : j = n
              · subst h9; rw [HY.out]; omega
              · exact H1.out j (by omega)
            have HX2 : Hid (0 < n + 1 → ∃ j, j < n + 1 ∧ x = F.getD j 0) := fun _ => by
              obtain ⟨j, hj, e⟩ := H2.out (by omega)
              exact ⟨j, by omega, e⟩
            go_wp2_with fail
            go_round
            case rel => exact ⟨n + 1, x, by omega, rfl, by go_num, HX0, HX1, HX2⟩
            case measure => simp [intOf]; omega
    · have hnl : n = F.length := by omega
      subst hnl
      have EV : Hid (V = .tuple #[.int .i64 (RowKit.wrap64 (x - delay)), .bool true]) := by
        show _ = _
        rw [← HV.out]
        unfold uptoV
        obtain ⟨j, hj, e⟩ := H2.out h0
        have em : minOf F = x := by rw [e]; exact min_is hj (fun k hk => by rw [← e]; exact H1.out k hk)
        rw [if_pos, em]
        rw [List.all_eq_true]
        intro z hz
        obtain ⟨k, hk, rfl⟩ := List.getElem_of_mem hz
        have := H0.out k hk
        rw [List.getD_eq_getElem?_getD, List.getElem?_eq_getElem hk] at this
        simpa using this
      go_wp2_with fail
      go_ret2
      exact ⟨by rw [EV.out]; rfl, Below.refl _ _⟩
end Go.Proofs.Ytepfpmagppckeab
