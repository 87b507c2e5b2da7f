/- The law TopDisk's loop of writes, over this seat's translation. Conditions: as named. -/
import Derived.Test.YtoihjhhambgpfacTDk
namespace Go.Proofs.Ytoihjhhambgpfac
open Go.ChangeShapes Go.WideShapes Go.ChangeAt Go.RowKit
set_option linter.unusedVariables false
set_option linter.unusedSimpArgs false

set_option maxRecDepth 100000 in
set_option maxHeartbeats 8000000 in
theorem loopT1 (Q : Exit → Act → World → Prop) (C : Code) (hC : stm 7 (Try.f4.body.getD .skip) = some C) (u1 u2 u3 u4 u5 u6 u8 u10 u11 u12 u13 u14 u15 u16 u17 u18 u19 u20 u21 u22 u23 u24 u25 u26 u27 u28 u29 u30 u31 u32 u33 u34 u35 u36 u37 u38 u39 u40 u41 u42 u43 u44 u45 u46 u47 u48 u49 u50 u51 u52 u53 u54 u55 u56 u57 u58 u59 u60 u61 u62 u63 u64 u65 u66 u67 u68 u69 u70 u71 u72 u73 u74 u75 u76 u77 u78 u79 u80 u81 u82 u83 u84 u85 u86 u87 u88 u89 u90 u91 u92 u93 u94 u95 u96 u97 u98 u99 u100 u101 u102 u103 u104 u105 u106 u107 u108 u109 u110 u111 u112 u113 u114 u115 u116 u117 u118 u119 u120 u121 u122 u123 u124 u125 u126 u127 u128 u129 u130 u131 u132 u133 u134 u135 u136 u137 u138 u139 u140 u141 u142 u143 u144 u145 u146 u147 u148 u149 u150 u151 : Value) (l : List Act1) (cap gd gs : Nat) (ao : Option Addr) (ss0 : List Sec) (W w1 : World)
    (hr : RowG W (.slice ao l.length cap) 4 l.length (rowOf cellsAct l)) (hl : l.length ≤ 40) (hs : ∀ x ∈ l, x.s.size ≤ 3000) (h : TD W w1 gd gs 0 ss0) (hw : ∀ s ∈ ss0, s.ws.length ≤ 0)
    (hpan : ∀ c a a' w, Q (.panic c) a w → Q (.panic c) a' w)
    (hQ : ∀ (v9 v49 v50 v51 v52 v53 v54 v55 v56 v57 v58 v59 v60 v61 v62 v63 v64 v65 v66 : Value) (n : Int) (ss : List Sec) w', TD W w' gd gs n ss → n ≤ 40 → Q .normal { tmps := (.slice ao l.length cap :: u1 :: u2 :: u3 :: u4 :: u5 :: u6 :: .pointer (some ⟨gd, 0, none⟩) :: u8 :: v9 :: u10 :: u11 :: u12 :: u13 :: u14 :: u15 :: u16 :: u17 :: u18 :: u19 :: u20 :: u21 :: u22 :: u23 :: u24 :: u25 :: u26 :: u27 :: u28 :: u29 :: u30 :: u31 :: u32 :: u33 :: u34 :: u35 :: u36 :: u37 :: u38 :: u39 :: u40 :: u41 :: u42 :: u43 :: u44 :: u45 :: u46 :: u47 :: u48 :: v49 :: v50 :: v51 :: v52 :: v53 :: v54 :: v55 :: v56 :: v57 :: v58 :: v59 :: v60 :: v61 :: v62 :: v63 :: v64 :: v65 :: v66 :: u67 :: u68 :: u69 :: u70 :: u71 :: u72 :: u73 :: u74 :: u75 :: u76 :: u77 :: u78 :: u79 :: u80 :: u81 :: u82 :: u83 :: u84 :: u85 :: u86 :: u87 :: u88 :: u89 :: u90 :: u91 :: u92 :: u93 :: u94 :: u95 :: u96 :: u97 :: u98 :: u99 :: u100 :: u101 :: u102 :: u103 :: u104 :: u105 :: u106 :: u107 :: u108 :: u109 :: u110 :: u111 :: u112 :: u113 :: u114 :: u115 :: u116 :: u117 :: u118 :: u119 :: u120 :: u121 :: u122 :: u123 :: u124 :: u125 :: u126 :: u127 :: u128 :: u129 :: u130 :: u131 :: u132 :: u133 :: u134 :: u135 :: u136 :: u137 :: u138 :: u139 :: u140 :: u141 :: u142 :: u143 :: u144 :: u145 :: u146 :: u147 :: u148 :: u149 :: u150 :: u151 :: []).toArray, defers := [] } w') :
    Code.wp Try.prog C Q { tmps := (.slice ao l.length cap :: u1 :: u2 :: u3 :: u4 :: u5 :: u6 :: .pointer (some ⟨gd, 0, none⟩) :: u8 :: .int .i64 0 :: u10 :: u11 :: u12 :: u13 :: u14 :: u15 :: u16 :: u17 :: u18 :: u19 :: u20 :: u21 :: u22 :: u23 :: u24 :: u25 :: u26 :: u27 :: u28 :: u29 :: u30 :: u31 :: u32 :: u33 :: u34 :: u35 :: u36 :: u37 :: u38 :: u39 :: u40 :: u41 :: u42 :: u43 :: u44 :: u45 :: u46 :: u47 :: u48 :: u49 :: u50 :: u51 :: u52 :: u53 :: u54 :: u55 :: u56 :: u57 :: u58 :: u59 :: u60 :: u61 :: u62 :: u63 :: u64 :: u65 :: u66 :: u67 :: u68 :: u69 :: u70 :: u71 :: u72 :: u73 :: u74 :: u75 :: u76 :: u77 :: u78 :: u79 :: u80 :: u81 :: u82 :: u83 :: u84 :: u85 :: u86 :: u87 :: u88 :: u89 :: u90 :: u91 :: u92 :: u93 :: u94 :: u95 :: u96 :: u97 :: u98 :: u99 :: u100 :: u101 :: u102 :: u103 :: u104 :: u105 :: u106 :: u107 :: u108 :: u109 :: u110 :: u111 :: u112 :: u113 :: u114 :: u115 :: u116 :: u117 :: u118 :: u119 :: u120 :: u121 :: u122 :: u123 :: u124 :: u125 :: u126 :: u127 :: u128 :: u129 :: u130 :: u131 :: u132 :: u133 :: u134 :: u135 :: u136 :: u137 :: u138 :: u139 :: u140 :: u141 :: u142 :: u143 :: u144 :: u145 :: u146 :: u147 :: u148 :: u149 :: u150 :: u151 :: []).toArray, defers := [] } w1 := by
  have HQ := hidE hQ
  have HPN := hidE hpan
  have HR := hidE hr
  have HS := hidE hs
  have H0 := hidE h
  have HW0 := hidE hw
  clear hQ hpan hr hs h hw
  unfold Try.f4 at hC
  simp [stm, lead] at hC
  subst hC
  go_wp2_with fail
  go_loopw [9] (fun i wr => ∃ (m : Nat) (n : Int) (ss : List Sec), m ≤ l.length ∧ i = .int .i64 m ∧ 0 ≤ n ∧ n ≤ m ∧ Hid (TD W wr gd gs n ss) ∧ Hid (∀ s ∈ ss, s.ws.length ≤ m)) (fun i _ => l.length - (intOf i).toNat)
  case atStart => exact ⟨0, 0, ss0, Nat.zero_le _, rfl, Int.le_refl _, Int.le_refl _, H0, HW0⟩
  case round =>
    obtain ⟨m, n, ss, hm, rfl, hn0, hn1, HT, HW⟩ := hrel
    by_cases hlt : m < l.length
    · have hm40 : m < 40 := by omega
      obtain ⟨g, off, rfl, hcell0, q1, q2, lg0⟩ := rowOf_val cellsAct_len HR.out m hlt
      have hcell : ∀ j, j < 4 → wr.cell? ⟨g, off + (m * 4 + j), none⟩ = (cellsAct l[m])[j]? := fun j hj => by rw [← hcell0 j hj]; exact HT.out.bl.cell (p := ⟨g, off + (m * 4 + j), none⟩) lg0
      have hx := HS.out l[m] (List.getElem_mem hlt)
      generalize l[m] = x at *
      have y1 : wr.cell? ⟨g, off + m * 4 + 1, none⟩ = some (.int .i64 x.a) := hcell 1 (by omega)
      have y2 : wr.cell? ⟨g, off + m * 4 + 2, none⟩ = some (.string x.s) := hcell 2 (by omega)
      have lg9 : g < wr.heap.size := Nat.lt_of_lt_of_le lg0 HT.out.bl.size
      have ng9 : ¬ dskBad gd gs ss g := fun e => by have := bad_lo HT.out g e; omega
      unfold maxLen at q2
      clear hcell hcell0
      have dd : Below wr.heap.size wr ({ wr with drawn := wr.drawn + 1 } : World) := (Below.refl _ _).drew
      have hS : KeptB wr ({ wr with drawn := wr.drawn + 1 } : World) (dskBad gd gs ss) := keptB_of_below dd
      have WR := hidE (writeTD x.a x.s (td_below HT.out dd) (by omega) (fun s hs => by have := HW.out s hs; omega) (by omega))
      obtain ⟨w9, hw9⟩ : ∃ w9, w9 = wr := ⟨_, rfl⟩
      subst hw9
      go_wp2_with fail
      refine wp_region_held (S := fun w' => KeptB w9 w' (dskBad gd gs ss)) (by kernel_rfl) ?_
      generalize ({ w9 with drawn := w9.drawn + 1 } : World) = wd at *
      refine held_take (i := 0) (v := .pointer (some ⟨gd, 0, none⟩)) (L := #[true, false, false, false, false, false, false, false, false, false, false, false]) rfl (by kernel_rfl) (by kernel_rfl) (by kernel_rfl) (fun c a w h => HPN.out c _ _ _ h) (Or.inl ⟨by kernel_rfl, fun wq hq => by go_simp⟩) hS (by kernel_rfl) ?_
      refine held_take (i := 1) (v := .slice (some ⟨g, off, none⟩) l.length cap) (L := #[true, true, false, false, false, false, false, false, false, false, false, false]) rfl (by kernel_rfl) (by kernel_rfl) (by kernel_rfl) (fun c a w h => HPN.out c _ _ _ h) (Or.inl ⟨by kernel_rfl, fun wq hq => by go_simp⟩) hS (by kernel_rfl) ?_
      refine held_take (i := 2) (v := .int .i64 (m : Int)) (L := #[true, true, true, false, false, false, false, false, false, false, false, false]) rfl (by kernel_rfl) (by kernel_rfl) (by kernel_rfl) (fun c a w h => HPN.out c _ _ _ h) (Or.inl ⟨by kernel_rfl, fun wq hq => by go_simp⟩) hS (by kernel_rfl) ?_
      refine held_take (i := 3) (v := .pointer (some ⟨g, off + m * 4, none⟩)) (L := #[true, true, true, true, false, false, false, false, false, false, false, false]) rfl (by kernel_rfl) (by kernel_rfl) (by kernel_rfl) (fun c a w h => HPN.out c _ _ _ h) (Or.inl ⟨by kernel_rfl, fun wq hq => by go_simp⟩) hS (by kernel_rfl) ?_
      refine held_take (i := 4) (v := .pointer (some ⟨g, off + m * 4 + 1, none⟩)) (L := #[true, true, true, true, true, false, false, false, false, false, false, false]) rfl (by kernel_rfl) (by kernel_rfl) (by kernel_rfl) (fun c a w h => HPN.out c _ _ _ h) (Or.inl ⟨by kernel_rfl, fun wq hq => by go_simp⟩) hS (by kernel_rfl) ?_
      refine held_take (i := 5) (v := .int .i64 x.a) (L := #[true, true, true, true, true, true, false, false, false, false, false, false]) rfl (by kernel_rfl) (by kernel_rfl) (by kernel_rfl) (fun c a w h => HPN.out c _ _ _ h) (Or.inl ⟨by kernel_rfl, fun wq hq => by have q := kept_cell hq (off + m * 4 + 1) lg9 ng9; rw [y1] at q; go_simp⟩) hS (by kernel_rfl) ?_
      refine held_take (i := 6) (v := .slice (some ⟨g, off, none⟩) l.length cap) (L := #[true, true, true, true, true, true, true, false, false, false, false, false]) rfl (by kernel_rfl) (by kernel_rfl) (by kernel_rfl) (fun c a w h => HPN.out c _ _ _ h) (Or.inl ⟨by kernel_rfl, fun wq hq => by go_simp⟩) hS (by kernel_rfl) ?_
      refine held_take (i := 7) (v := .int .i64 (m : Int)) (L := #[true, true, true, true, true, true, true, true, false, false, false, false]) rfl (by kernel_rfl) (by kernel_rfl) (by kernel_rfl) (fun c a w h => HPN.out c _ _ _ h) (Or.inl ⟨by kernel_rfl, fun wq hq => by go_simp⟩) hS (by kernel_rfl) ?_
      refine held_take (i := 8) (v := .pointer (some ⟨g, off + m * 4, none⟩)) (L := #[true, true, true, true, true, true, true, true, true, false, false, false]) rfl (by kernel_rfl) (by kernel_rfl) (by kernel_rfl) (fun c a w h => HPN.out c _ _ _ h) (Or.inl ⟨by kernel_rfl, fun wq hq => by go_simp⟩) hS (by kernel_rfl) ?_
      refine held_take (i := 9) (v := .pointer (some ⟨g, off + m * 4 + 2, none⟩)) (L := #[true, true, true, true, true, true, true, true, true, true, false, false]) rfl (by kernel_rfl) (by kernel_rfl) (by kernel_rfl) (fun c a w h => HPN.out c _ _ _ h) (Or.inl ⟨by kernel_rfl, fun wq hq => by go_simp⟩) hS (by kernel_rfl) ?_
      refine held_take (i := 10) (v := .string x.s) (L := #[true, true, true, true, true, true, true, true, true, true, true, false]) rfl (by kernel_rfl) (by kernel_rfl) (by kernel_rfl) (fun c a w h => HPN.out c _ _ _ h) (Or.inl ⟨by kernel_rfl, fun wq hq => by have q := kept_cell hq (off + m * 4 + 2) lg9 ng9; rw [y2] at q; go_simp⟩) hS (by kernel_rfl) ?_
      refine held_go (i := 11) (L := #[true, true, true, true, true, true, true, true, true, true, true, true]) (by kernel_rfl) rfl (by kernel_rfl) (by kernel_rfl) ?_
      intro K' hK
      go_simp
      refine WR.out.mono ?_
      rintro e w4 ⟨v, n2, ss2, rfl, hk4, td4, hbad4, hcase⟩
      refine hK _ _ ⟨keptB_trans hS hk4, ?_⟩
      clear hK
      refine wpAnyH_done (by kernel_rfl) ?_ _
      obtain ⟨hg1, hg2⟩ := ws_grow HW.out hcase
      have HT4 := hidE td4
      have HW4 := hidE hg1
      clear td4 hg1 hcase hbad4 hk4 WR HT HW hx
      go_wp2_with fail
      go_roundw
      case rel => exact ⟨m + 1, n2, ss2, by omega, by go_num, by omega, by omega, HT4, HW4⟩
      case measure => simp [intOf]; omega
    · have hme : m = l.length := by omega
      subst hme
      go_wp2_with fail
      exact HQ.out _ _ _ _ _ _ _ _ _ _ _ _ _ _ _ _ _ _ _ n ss wr HT.out (by omega)
end Go.Proofs.Ytoihjhhambgpfac
