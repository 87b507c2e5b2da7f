/- The law TopDisk's loop of more writes, over this seat's translation. Conditions: as named. -/
import Derived.Test.YtoihjhhambgpfacTDk
namespace Go.Proofs.Ytoihjhhambgpfac
open Go.ChangeShapes Go.WideShapes Go.ChangeAt Go.RowKit
set_option linter.unusedVariables false
set_option linter.unusedSimpArgs false

/-- what is wanted of each sector behind the fall -/
def wantK (keep : Int) (ss : List Sec) : List Value := ss.map fun s => strB (settleK keep s.kept s.ws)
theorem settleK_snoc (keep n : Int) (k b : Blk) (ws : List Wr) : settleK keep k (ws ++ [(n, b)]) = if kb keep n then b else settleK keep k ws := by
  unfold settleK
  rw [List.foldl_append]
  rfl
theorem wantK_yes (keep n : Int) (ss : List Sec) (j : Nat) (hj : j < ss.length) (b : Blk) (wv : Value) (h : kb keep n = true) : (wantK keep ss).set j (strB b) = wantK keep (ss.set j ⟨ss[j].kept, ss[j].ws ++ [(n, b)], wv⟩) := by
  unfold wantK
  rw [List.map_set]
  simp only [settleK_snoc, h, if_true]
theorem wantK_no (keep n : Int) (ss : List Sec) (j : Nat) (hj : j < ss.length) (b : Blk) (wv : Value) (h : kb keep n = false) : wantK keep (ss.set j ⟨ss[j].kept, ss[j].ws ++ [(n, b)], wv⟩) = wantK keep ss := by
  unfold wantK
  rw [List.map_set]
  simp only [settleK_snoc, h, Bool.false_eq_true, if_false]
  apply List.ext_getElem
  · simp
  · intro i h1 h2
    by_cases e : j = i
    · subst e
      simp
    · simp [List.getElem_set_ne e]
theorem text_last (n : Int) (ss : List Sec) (j : Nat) (hj : j < ss.length) (b : Blk) (wv : Value) : textS ((ss.set j ⟨ss[j].kept, ss[j].ws ++ [(n, b)], wv⟩)[j]'(by rw [List.length_set]; exact hj)) = b := by
  rw [List.getElem_set_self]
  unfold textS
  simp
set_option maxRecDepth 100000 in
set_option maxHeartbeats 8000000 in
theorem loopT3 (Q : Exit → Act → World → Prop) (C : Code) (hC : stm 22 (Try.f4.body.getD .skip) = some C) (u0 u3 u4 u5 u6 u8 u9 u11 u12 u13 u16 u17 u18 u19 u20 u21 u22 u23 u24 u25 u26 u27 u28 u29 u30 u31 u32 u33 u34 u35 u36 u37 u38 u39 u40 u41 u42 u43 u44 u45 u46 u47 u48 u49 u50 u51 u52 u53 u54 u55 u56 u57 u58 u59 u60 u61 u62 u63 u64 u65 u66 u67 u68 u69 u70 u71 u72 u73 u74 u75 u76 u77 u78 u79 u80 u81 u82 u83 u84 u85 u86 u87 u88 u89 u90 u91 u92 u93 u94 u95 u96 u97 u98 u99 u100 u101 u102 u103 u104 u105 u106 u107 u108 u109 u110 u111 u112 u113 u114 u115 u116 u117 u118 u119 u120 u121 u122 u123 u124 u125 u126 u127 u128 u129 u130 u131 u132 u133 u134 u135 u136 u137 u138 u139 u140 u141 u142 u143 u144 u145 u146 u147 u148 u149 u150 u151 : Value) (l : List Act1) (keep : Int) (cap gd gs gq : Nat) (ao : Option Addr) (ss0 : List Sec) (W w1 : World)
    (hr : RowG W (.slice ao l.length cap) 4 l.length (rowOf cellsAct l)) (hl : l.length ≤ 60) (hs : ∀ x ∈ l, x.s.size ≤ 3000) (hkeep : 0 ≤ keep ∧ keep ≤ 18446744073709551615) (h : TD W w1 gd gs 0 ss0) (hw : ∀ s ∈ ss0, s.ws.length ≤ 0) (hq : BlkAt w1 gq (wantK keep ss0)) (hnb : ¬ dskBad gd gs ss0 gq) (hlo : W.heap.size ≤ gq)
    (hpan : ∀ c a a' w, Q (.panic c) a w → Q (.panic c) a' w)
    (hQ : ∀ (v6 v14 v15 v16 v17 v85 v86 v87 v88 v89 v90 v91 v92 v93 v94 v95 v96 v97 v98 v99 v100 v101 v102 v103 v104 v105 v106 v107 v108 v109 v110 v111 v112 v113 v114 v115 v116 v117 v118 v119 v120 v121 v122 v123 v124 v125 v126 v127 v128 v129 : Value) (n : Int) (ss : List Sec) w', TD W w' gd gs n ss → n ≤ 60 → BlkAt w' gq (wantK keep ss) → ¬ dskBad gd gs ss gq → Q .normal { tmps := (u0 :: .slice ao l.length cap :: .int .u64 keep :: u3 :: u4 :: u5 :: v6 :: .pointer (some ⟨gd, 0, none⟩) :: u8 :: u9 :: .pointer (some ⟨gq, 0, none⟩) :: u11 :: u12 :: u13 :: v14 :: v15 :: v16 :: v17 :: u18 :: u19 :: u20 :: u21 :: u22 :: u23 :: u24 :: u25 :: u26 :: u27 :: u28 :: u29 :: u30 :: u31 :: u32 :: u33 :: u34 :: u35 :: u36 :: u37 :: u38 :: u39 :: u40 :: u41 :: u42 :: u43 :: u44 :: u45 :: u46 :: u47 :: u48 :: u49 :: u50 :: u51 :: u52 :: u53 :: u54 :: u55 :: u56 :: u57 :: u58 :: u59 :: u60 :: u61 :: u62 :: u63 :: u64 :: u65 :: u66 :: u67 :: u68 :: u69 :: u70 :: u71 :: u72 :: u73 :: u74 :: u75 :: u76 :: u77 :: u78 :: u79 :: u80 :: u81 :: u82 :: u83 :: u84 :: v85 :: v86 :: v87 :: v88 :: v89 :: v90 :: v91 :: v92 :: v93 :: v94 :: v95 :: v96 :: v97 :: v98 :: v99 :: v100 :: v101 :: v102 :: v103 :: v104 :: v105 :: v106 :: v107 :: v108 :: v109 :: v110 :: v111 :: v112 :: v113 :: v114 :: v115 :: v116 :: v117 :: v118 :: v119 :: v120 :: v121 :: v122 :: v123 :: v124 :: v125 :: v126 :: v127 :: v128 :: v129 :: u130 :: u131 :: u132 :: u133 :: u134 :: u135 :: u136 :: u137 :: u138 :: u139 :: u140 :: u141 :: u142 :: u143 :: u144 :: u145 :: u146 :: u147 :: u148 :: u149 :: u150 :: u151 :: []).toArray, defers := [] } w') :
    Code.wp Try.prog C Q { tmps := (u0 :: .slice ao l.length cap :: .int .u64 keep :: u3 :: u4 :: u5 :: u6 :: .pointer (some ⟨gd, 0, none⟩) :: u8 :: u9 :: .pointer (some ⟨gq, 0, none⟩) :: u11 :: u12 :: u13 :: .int .i64 0 :: .int .i64 0 :: u16 :: u17 :: u18 :: u19 :: u20 :: u21 :: u22 :: u23 :: u24 :: u25 :: u26 :: u27 :: u28 :: u29 :: u30 :: u31 :: u32 :: u33 :: u34 :: u35 :: u36 :: u37 :: u38 :: u39 :: u40 :: u41 :: u42 :: u43 :: u44 :: u45 :: u46 :: u47 :: u48 :: u49 :: u50 :: u51 :: u52 :: u53 :: u54 :: u55 :: u56 :: u57 :: u58 :: u59 :: u60 :: u61 :: u62 :: u63 :: u64 :: u65 :: u66 :: u67 :: u68 :: u69 :: u70 :: u71 :: u72 :: u73 :: u74 :: u75 :: u76 :: u77 :: u78 :: u79 :: u80 :: u81 :: u82 :: u83 :: u84 :: u85 :: u86 :: u87 :: u88 :: u89 :: u90 :: u91 :: u92 :: u93 :: u94 :: u95 :: u96 :: u97 :: u98 :: u99 :: u100 :: u101 :: u102 :: u103 :: u104 :: u105 :: u106 :: u107 :: u108 :: u109 :: u110 :: u111 :: u112 :: u113 :: u114 :: u115 :: u116 :: u117 :: u118 :: u119 :: u120 :: u121 :: u122 :: u123 :: u124 :: u125 :: u126 :: u127 :: u128 :: u129 :: u130 :: u131 :: u132 :: u133 :: u134 :: u135 :: u136 :: u137 :: u138 :: u139 :: u140 :: u141 :: u142 :: u143 :: u144 :: u145 :: u146 :: u147 :: u148 :: u149 :: u150 :: u151 :: []).toArray, defers := [] } w1 := by
  have HQ := hidE hQ
  have HPN := hidE hpan
  have HR := hidE hr
  have HS := hidE hs
  have H0 := hidE h
  have HW0 := hidE hw
  have HQ0 := hidE hq
  have HN0 := hidE hnb
  clear hQ hpan hr hs h hw hq hnb
  unfold Try.f4 at hC
  simp [stm, lead] at hC
  subst hC
  go_wp2_with fail
  go_loopw [14, 15] (fun c i wr => ∃ (m : Nat) (n : Int) (ss : List Sec), m ≤ l.length ∧ i = .int .i64 m ∧ c = .int .i64 n ∧ 0 ≤ n ∧ n ≤ m ∧ Hid (TD W wr gd gs n ss) ∧ Hid (∀ s ∈ ss, s.ws.length ≤ m) ∧ Hid (BlkAt wr gq (wantK keep ss)) ∧ Hid (¬ dskBad gd gs ss gq)) (fun c i _ => l.length - (intOf i).toNat)
  case atStart => exact ⟨0, 0, ss0, Nat.zero_le _, rfl, rfl, Int.le_refl _, Int.le_refl _, H0, HW0, HQ0, HN0⟩
  case round =>
    obtain ⟨m, n, ss, hm, rfl, rfl, hn0, hn1, HT, HW, HK, HN⟩ := hrel
    by_cases hlt : m < l.length
    · have hm40 : m < 60 := by omega
      obtain ⟨g, off, rfl, hcell0, q1, q2, lg0⟩ := rowOf_val cellsAct_len HR.out m hlt
      have hcell : ∀ j, j < 4 → wr.cell? ⟨g, off + (m * 4 + j), none⟩ = (cellsAct l[m])[j]? := fun j hj => by rw [← hcell0 j hj]; exact HT.out.bl.cell (p := ⟨g, off + (m * 4 + j), none⟩) lg0
      have hx := HS.out l[m] (List.getElem_mem hlt)
      generalize l[m] = x at *
      have y1 : wr.cell? ⟨g, off + m * 4 + 1, none⟩ = some (.int .i64 x.a) := hcell 1 (by omega)
      have y2 : wr.cell? ⟨g, off + m * 4 + 2, none⟩ = some (.string x.s) := hcell 2 (by omega)
      have lg9 : g < wr.heap.size := Nat.lt_of_lt_of_le lg0 HT.out.bl.size
      have ng9 : ¬ dskBad gd gs ss g := fun e => by have := bad_lo HT.out g e; omega
      unfold maxLen at q2
      clear hcell hcell0
      have dd : Below wr.heap.size wr ({ wr with drawn := wr.drawn + 1 } : World) := (Below.refl _ _).drew
      have hS : KeptB wr ({ wr with drawn := wr.drawn + 1 } : World) (dskBad gd gs ss) := keptB_of_below dd
      have WR := hidE (writeTD x.a x.s (td_below HT.out dd) (by omega) (fun s hs => by have := HW.out s hs; omega) (by omega))
      obtain ⟨w9, hw9⟩ : ∃ w9, w9 = wr := ⟨_, rfl⟩
      subst hw9
      go_wp2_with fail
      refine wp_region_held (S := fun w' => KeptB w9 w' (dskBad gd gs ss)) (by kernel_rfl) ?_
      have HKd := hidE (blk_below HK.out dd HK.out.lt)
      generalize ({ w9 with drawn := w9.drawn + 1 } : World) = wd at *
      refine held_take (i := 0) (v := .pointer (some ⟨gd, 0, none⟩)) (L := #[true, false, false, false, false, false, false, false, false, false, false, false, false]) rfl (by kernel_rfl) (by kernel_rfl) (by kernel_rfl) (fun c a w h => HPN.out c _ _ _ h) (Or.inl ⟨by kernel_rfl, fun wq hq => by go_simp⟩) hS (by kernel_rfl) ?_
      refine held_take (i := 1) (v := .slice (some ⟨g, off, none⟩) l.length cap) (L := #[true, true, false, false, false, false, false, false, false, false, false, false, false]) rfl (by kernel_rfl) (by kernel_rfl) (by kernel_rfl) (fun c a w h => HPN.out c _ _ _ h) (Or.inl ⟨by kernel_rfl, fun wq hq => by go_simp⟩) hS (by kernel_rfl) ?_
      refine held_take (i := 2) (v := .int .i64 (m : Int)) (L := #[true, true, true, false, false, false, false, false, false, false, false, false, false]) rfl (by kernel_rfl) (by kernel_rfl) (by kernel_rfl) (fun c a w h => HPN.out c _ _ _ h) (Or.inl ⟨by kernel_rfl, fun wq hq => by go_simp⟩) hS (by kernel_rfl) ?_
      refine held_take (i := 3) (v := .pointer (some ⟨g, off + m * 4, none⟩)) (L := #[true, true, true, true, false, false, false, false, false, false, false, false, false]) rfl (by kernel_rfl) (by kernel_rfl) (by kernel_rfl) (fun c a w h => HPN.out c _ _ _ h) (Or.inl ⟨by kernel_rfl, fun wq hq => by go_simp⟩) hS (by kernel_rfl) ?_
      refine held_take (i := 4) (v := .pointer (some ⟨g, off + m * 4 + 1, none⟩)) (L := #[true, true, true, true, true, false, false, false, false, false, false, false, false]) rfl (by kernel_rfl) (by kernel_rfl) (by kernel_rfl) (fun c a w h => HPN.out c _ _ _ h) (Or.inl ⟨by kernel_rfl, fun wq hq => by go_simp⟩) hS (by kernel_rfl) ?_
      refine held_take (i := 5) (v := .int .i64 x.a) (L := #[true, true, true, true, true, true, false, false, false, false, false, false, false]) rfl (by kernel_rfl) (by kernel_rfl) (by kernel_rfl) (fun c a w h => HPN.out c _ _ _ h) (Or.inl ⟨by kernel_rfl, fun wq hq => by have q := kept_cell hq (off + m * 4 + 1) lg9 ng9; rw [y1] at q; go_simp⟩) hS (by kernel_rfl) ?_
      refine held_take (i := 6) (v := .slice (some ⟨g, off, none⟩) l.length cap) (L := #[true, true, true, true, true, true, true, false, false, false, false, false, false]) rfl (by kernel_rfl) (by kernel_rfl) (by kernel_rfl) (fun c a w h => HPN.out c _ _ _ h) (Or.inl ⟨by kernel_rfl, fun wq hq => by go_simp⟩) hS (by kernel_rfl) ?_
      refine held_take (i := 7) (v := .int .i64 (m : Int)) (L := #[true, true, true, true, true, true, true, true, false, false, false, false, false]) rfl (by kernel_rfl) (by kernel_rfl) (by kernel_rfl) (fun c a w h => HPN.out c _ _ _ h) (Or.inl ⟨by kernel_rfl, fun wq hq => by go_simp⟩) hS (by kernel_rfl) ?_
      refine held_take (i := 8) (v := .pointer (some ⟨g, off + m * 4, none⟩)) (L := #[true, true, true, true, true, true, true, true, true, false, false, false, false]) rfl (by kernel_rfl) (by kernel_rfl) (by kernel_rfl) (fun c a w h => HPN.out c _ _ _ h) (Or.inl ⟨by kernel_rfl, fun wq hq => by go_simp⟩) hS (by kernel_rfl) ?_
      refine held_take (i := 9) (v := .pointer (some ⟨g, off + m * 4 + 2, none⟩)) (L := #[true, true, true, true, true, true, true, true, true, true, false, false, false]) rfl (by kernel_rfl) (by kernel_rfl) (by kernel_rfl) (fun c a w h => HPN.out c _ _ _ h) (Or.inl ⟨by kernel_rfl, fun wq hq => by go_simp⟩) hS (by kernel_rfl) ?_
      refine held_take (i := 10) (v := .string x.s) (L := #[true, true, true, true, true, true, true, true, true, true, true, false, false]) rfl (by kernel_rfl) (by kernel_rfl) (by kernel_rfl) (fun c a w h => HPN.out c _ _ _ h) (Or.inl ⟨by kernel_rfl, fun wq hq => by have q := kept_cell hq (off + m * 4 + 2) lg9 ng9; rw [y2] at q; go_simp⟩) hS (by kernel_rfl) ?_
      refine held_go (i := 11) (L := #[true, true, true, true, true, true, true, true, true, true, true, true, false]) (by kernel_rfl) rfl (by kernel_rfl) (by kernel_rfl) ?_
      intro K' hK
      go_simp
      refine WR.out.mono ?_
      rintro e w4 ⟨v, n2, ss2, rfl, hk4, td4, hbad4, hcase⟩
      refine hK _ _ ⟨keptB_trans hS hk4, ?_⟩
      clear hK
      have SK := hidE (keptB_trans hS hk4)
      obtain ⟨hg1, hg2⟩ := ws_grow HW.out hcase
      have HT4 := hidE td4
      have HW4 := hidE hg1
      have HK4 := hidE (blk_kept HKd.out hk4 HN.out)
      have HN4 : Hid (¬ dskBad gd gs ss2 gq) := fun e => by
        rcases hbad4 _ e with h | h
        · exact HN.out h
        · have := HKd.out.lt
          have := HK.out.lt
          omega
      have y1b : w4.cell? ⟨g, off + m * 4 + 1, none⟩ = some (.int .i64 x.a) := (kept_cell SK.out _ lg9 ng9).trans y1
      clear td4 hg1 hbad4 hk4 WR HT HW hx HKd HN HK
      rcases hcase with ⟨rfl, rfl, rfl⟩ | ⟨rfl, rfl, j, hj, b, wv', hA, hss⟩
      · refine held_go (i := 12) (L := #[true, true, true, true, true, true, true, true, true, true, true, true, true]) (by kernel_rfl) rfl (by kernel_rfl) (by kernel_rfl) ?_
        intro K' hK
        go_simp
        refine hK _ _ ⟨SK.out, ?_⟩
        clear hK
        refine wpAnyH_done (by kernel_rfl) ?_ _
        clear SK y1b
        go_wp2_with fail
        go_roundw
        case rel => exact ⟨m + 1, _, _, by omega, by go_num, rfl, by omega, by omega, HT4, HW4, HK4, HN4⟩
        case measure => simp [intOf]; omega
      · refine held_go (i := 12) (L := #[true, true, true, true, true, true, true, true, true, true, true, true, true]) (by kernel_rfl) rfl (by kernel_rfl) (by kernel_rfl) ?_
        intro K' hK
        go_simp
        refine hK _ _ ⟨SK.out, ?_⟩
        clear hK
        refine wpAnyH_done (by kernel_rfl) ?_ _
        have j4 : j < 4 := by have := HT4.out.l4; rw [hss, List.length_set] at this; omega
        have j42 : j < ss2.length := by have := HT4.out.l4; omega
        have dn : decide (n < 0) = false := by simp; omega
        have wn : IntKind.i64.wrap (n + 1) = n + 1 := wrapIn2 _ (by omega) (by omega)
        by_cases hkb : kb keep n = true
        · have hkx : (bits .and .u64 (keep / 2 ^ n.toNat) 1 == 1) = true := hkb
          have RD := read_in j W.heap.size gd gs (n + 1) (-1) ss2 w4 HT4.out.dk j42 (by have := HT4.out.l4; omega)
          have eT : textS ss2[j] = b := by
            subst hss
            exact text_last n ss j hj b wv'
          rw [eT, ← hA] at RD
          have eW := wantK_yes keep n ss j hj b wv' hkb
          rw [← hss] at eW
          obtain ⟨sx, hsx⟩ : ∃ sx, strB b = .string sx := ⟨_, rfl⟩
          rw [hsx] at RD eW
          have RDH := hidE RD
          have EW := hidE eW
          have HSS := hidE hss
          have HAA := hidE hA
          clear RD eT eW hsx hss hkb SK hA
          go_wp2_with fail
          refine RDH.out.mono ?_
          rintro e w5 ⟨rfl, hb5⟩
          have HT5 := hidE (td_below HT4.out hb5)
          have HK5 := hidE (blk_below HK4.out hb5 HK4.out.lt)
          have y1c := (hb5.cell (p := ⟨g, off + m * 4 + 1, none⟩) (Nat.lt_of_lt_of_le lg0 HT4.out.bl.size)).trans y1b
          have hwl : (wantK keep ss).length = 4 := by
            unfold wantK
            rw [List.length_map]
            have := HT4.out.l4
            rw [HSS.out, List.length_set] at this
            exact this
          obtain ⟨uq, huq⟩ : ∃ uq, w5.cell? ⟨gq, j, none⟩ = some uq := by
            rw [HK5.out.c j (by omega)]
            exact ⟨_, List.getElem?_eq_getElem (by omega)⟩
          have fq := HK5.out.fz j
          have HT6 := hidE (td_set HT5.out HN4.out hlo j (.string sx))
          have HK6 : Hid (BlkAt (w5.setCell ⟨gq, j, none⟩ (.string sx)) gq (wantK keep ss2)) := by
            show BlkAt _ _ _
            rw [← EW.out]
            exact blk_set HK5.out j _ (by omega)
          rw [HAA.out] at y1c
          clear hb5 RDH EW HT5 HK5 HT4 HK4 HSS hwl y1b y1 y2
          go_wp2_with fail
          go_roundw
          case rel => exact ⟨m + 1, n + 1, ss2, by omega, by go_num, rfl, by omega, by omega, HT6, HW4, HK6, HN4⟩
          case measure => simp [intOf]; omega
        · have hkf : kb keep n = false := by simpa using hkb
          have hkx : (bits .and .u64 (keep / 2 ^ n.toNat) 1 == 1) = false := hkf
          have HK6 : Hid (BlkAt w4 gq (wantK keep ss2)) := by
            show BlkAt _ _ _
            rw [hss, wantK_no keep n ss j hj b wv' hkf]
            exact HK4.out
          clear hkb hkf SK hss hA
          go_wp2_with fail
          go_roundw
          case rel => exact ⟨m + 1, n + 1, ss2, by omega, by go_num, rfl, by omega, by omega, HT4, HW4, HK6, HN4⟩
          case measure => simp [intOf]; omega
    · have hme : m = l.length := by omega
      subst hme
      go_wp2_with fail
      exact HQ.out _ _ _ _ _ _ _ _ _ _ _ _ _ _ _ _ _ _ _ _ _ _ _ _ _ _ _ _ _ _ _ _ _ _ _ _ _ _ _ _ _ _ _ _ _ _ _ _ _ _ n ss wr HT.out (by omega) HK.out HN.out
end Go.Proofs.Ytoihjhhambgpfac
