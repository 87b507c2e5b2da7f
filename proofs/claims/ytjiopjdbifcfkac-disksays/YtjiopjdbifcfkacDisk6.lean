/- The contracts of a disk's Write, Read, Flush and Restart, over this seat's translation. Conditions: as named. -/
import Derived.Test.YtjiopjdbifcfkacDisk5
namespace Go.Proofs.Ytjiopjdbifcfkac
open Go.ChangeShapes Go.WideShapes Go.ChangeAt Go.RowKit
set_option linter.unusedVariables false
set_option linter.unusedSimpArgs false

/-- the blocks that are a disk's -/
def dskBad (gd gs : Nat) (ss : List Sec) (k : Nat) : Prop := k = gd ∨ k = gs ∨ ∃ s ∈ ss, s.wv.ownBlock = some k
theorem dsk_below {w w' : World} {B gd gs : Nat} {bit left : Int} {down : Bool} {ss : List Sec} (h : DskR w B gd gs bit left down ss) (hb : Below w.heap.size w w') : DskR w' B gd gs bit left down ss :=
  ⟨blk_below h.bd hb h.bd.lt, blk_below h.bs hb h.bs.lt, fun s hs => own_keep (h.row s hs) hb (Nat.le_refl _), h.bits, h.len, h.sep, h.own, h.ne, h.b1, h.b2⟩
theorem dsk_lt {w : World} {B gd gs : Nat} {bit left : Int} {down : Bool} {ss : List Sec} (h : DskR w B gd gs bit left down ss) {k : Nat} (hk : dskBad gd gs ss k) : B ≤ k ∧ k < w.heap.size := by
  rcases hk with rfl | rfl | ⟨s, hs, e⟩
  · exact ⟨h.b1, h.bd.lt⟩
  · exact ⟨h.b2, h.bs.lt⟩
  · exact own_at (h.row s hs) k e
/-- a disk behind a write -/
theorem dsk_write {w w4 : World} {B gd gs : Nat} {bit : Int} {ss : List Sec} (h : DskR w B gd gs bit (-1) false ss) (i : Nat) (hi : i < ss.length) (b : Blk) (wv' : Value) (hk : KeptB w w4 (fun k => k = gs ∨ ss[i].wv.ownBlock = some k))
    (hb : BlkAt w4 gs (rowOf cellsS (ss.take i) ++ (cellsS ⟨ss[i].kept, ss[i].ws ++ [(bit, b)], wv'⟩ ++ rowOf cellsS (ss.drop (i + 1))))) (ho : w4.ownsRow B 74 257 wv' (ss[i].ws ++ [(bit, b)]).length (rowW (ss[i].ws ++ [(bit, b)])))
    (hob : wv'.ownBlock = ss[i].wv.ownBlock ∨ ∃ k, wv'.ownBlock = some k ∧ w.heap.size ≤ k) (h0 : 0 ≤ bit) (hl : ss[i].ws.length ≤ 800) :
    BlkAt w4 gd [.slice (some ⟨gs, 0, none⟩) ss.length ss.length, .int .i64 bit, .int .i64 (-1), .bool false] ∧ DskR (w4.setCell ⟨gd, 1, none⟩ (.int .i64 (bit + 1))) B gd gs (bit + 1) (-1) false (ss.set i ⟨ss[i].kept, ss[i].ws ++ [(bit, b)], wv'⟩) ∧
      KeptB w (w4.setCell ⟨gd, 1, none⟩ (.int .i64 (bit + 1))) (dskBad gd gs ss) := by
  have hm := List.getElem_mem hi
  have o1 := h.own ss[i] hm
  have bd4 := blk_kept h.bd hk (fun e => by
    rcases e with e | e
    · exact h.ne e
    · exact o1.2 e)
  have nw : ∀ k, wv'.ownBlock = some k → k ≠ gs ∧ k ≠ gd ∧ ∀ j (hj : j < ss.length), i ≠ j → ss[j].wv.ownBlock ≠ some k := fun k hkk => by
    rcases hob with e | ⟨k2, e, hlt⟩
    · rw [e] at hkk
      exact ⟨fun e2 => o1.1 (by rw [hkk, e2]), fun e2 => o1.2 (by rw [hkk, e2]), fun j hj hij => h.sep i j hi hj hij k hkk⟩
    · rw [e] at hkk
      have e3 := Option.some.inj hkk
      have l1 := h.bd.lt
      have l2 := h.bs.lt
      exact ⟨by omega, by omega, fun j hj _ e4 => by have := (own_at (h.row _ (List.getElem_mem hj)) k e4).2; omega⟩
  have eR : rowOf cellsS (ss.set i ⟨ss[i].kept, ss[i].ws ++ [(bit, b)], wv'⟩) = rowOf cellsS (ss.take i) ++ (cellsS ⟨ss[i].kept, ss[i].ws ++ [(bit, b)], wv'⟩ ++ rowOf cellsS (ss.drop (i + 1))) := by
    rw [row_split _ i (by simpa using hi), List.take_set_of_le (Nat.le_refl _), List.drop_set_of_lt (by omega), List.getElem_set_self]
  have ks : KeptB w4 (w4.setCell ⟨gd, 1, none⟩ (.int .i64 (bit + 1))) (fun k => k = gd) := keptB_set (keptB_of_below (bad := fun k => k = gd) (Below.refl w4.heap.size w4)) rfl 1 _
  refine ⟨bd4, ⟨?_, ?_, fun s hs => ?_, fun s hs p hp => ?_, fun s hs => ?_, fun a c ha hc hac k hkk => ?_, fun s hs => ?_, h.ne, h.b1, h.b2⟩, ?_⟩
  · rw [List.length_set]
    simpa using blk_set bd4 1 (.int .i64 (bit + 1)) (by simp)
  · rw [eR]
    exact blk_far hb (g' := gd) h.ne 1 _
  · rcases List.mem_iff_getElem.1 hs with ⟨j, hj, rfl⟩
    rw [List.length_set] at hj
    by_cases e : i = j
    · subst e
      rw [List.getElem_set_self]
      exact own_kept ho ks (fun k hkk => (nw k hkk).2.1)
    · rw [List.getElem_set_ne e]
      have hro := h.row ss[j] (List.getElem_mem hj)
      refine own_kept (own_kept hro hk (fun k hkk e2 => ?_)) ks (fun k hkk e2 => (h.own ss[j] (List.getElem_mem hj)).2 (by rw [hkk, e2]))
      rcases e2 with e2 | e2
      · exact (h.own ss[j] (List.getElem_mem hj)).1 (by rw [hkk, e2])
      · exact h.sep i j hi hj e k e2 hkk
  · rcases List.mem_iff_getElem.1 hs with ⟨j, hj, rfl⟩
    rw [List.length_set] at hj
    by_cases e : i = j
    · subst e
      rw [List.getElem_set_self] at hp
      rcases List.mem_append.1 hp with hp | hp
      · have := h.bits ss[i] hm p hp
        omega
      · rw [List.mem_singleton.1 hp]
        exact ⟨h0, by simp only; omega⟩
    · rw [List.getElem_set_ne e] at hp
      have := h.bits ss[j] (List.getElem_mem hj) p hp
      omega
  · rcases List.mem_iff_getElem.1 hs with ⟨j, hj, rfl⟩
    rw [List.length_set] at hj
    by_cases e : i = j
    · subst e
      rw [List.getElem_set_self]
      simp
      omega
    · rw [List.getElem_set_ne e]
      exact h.len ss[j] (List.getElem_mem hj)
  · rw [List.length_set] at ha hc
    by_cases e : i = a
    · subst e
      rw [List.getElem_set_self] at hkk
      rw [List.getElem_set_ne hac]
      exact (nw k hkk).2.2 c hc hac
    · rw [List.getElem_set_ne e] at hkk
      by_cases e2 : i = c
      · subst e2
        rw [List.getElem_set_self]
        intro e3
        exact (nw k e3).2.2 a ha e hkk
      · rw [List.getElem_set_ne e2]
        exact h.sep a c ha hc hac k hkk
  · rcases List.mem_iff_getElem.1 hs with ⟨j, hj, rfl⟩
    rw [List.length_set] at hj
    by_cases e : i = j
    · subst e
      rw [List.getElem_set_self]
      exact ⟨fun e2 => (nw gs e2).1 rfl, fun e2 => (nw gd e2).2.1 rfl⟩
    · rw [List.getElem_set_ne e]
      exact h.own ss[j] (List.getElem_mem hj)
  · refine keptB_set (keptB_mono hk (fun k e => ?_)) (.inl rfl) 1 _
    rcases e with e | e
    · exact .inr (.inl e)
    · exact .inr (.inr ⟨ss[i], hm, e⟩)

set_option maxRecDepth 100000 in
set_option maxHeartbeats 1000000 in
theorem write_any (at_ : Int) (t : ByteArray) (B gd gs : Nat) (bit : Int) (ss : List Sec) (w : World) (h : DskR w B gd gs bit (-1) false ss) (hss : ss.length ≤ 200) (hbit : 0 ≤ bit ∧ bit ≤ 62) (hlen : ∀ s ∈ ss, s.ws.length ≤ 800) (hts : t.size ≤ 100000) :
    Calls Try.prog 11 #[.pointer (some ⟨gd, 0, none⟩), .int .i64 at_, .string t] w fun e w' =>
      (e = .returned (.iface 54 (.int .i64 1)) ∧ Below w.heap.size w w') ∨
      (∃ (i : Nat) (hi : i < ss.length) (ht : t.size ≤ 256) (wv' : Value), at_ = (i : Int) ∧ e = .returned .nilIface ∧ KeptB w w' (dskBad gd gs ss) ∧ (wv'.ownBlock = ss[i].wv.ownBlock ∨ ∃ k, wv'.ownBlock = some k ∧ w.heap.size ≤ k) ∧ DskR w' B gd gs (bit + 1) (-1) false (ss.set i ⟨ss[i].kept, ss[i].ws ++ [(bit, pad t ht)], wv'⟩)) := by
  have HA := hidE (has_any B gd gs bit (-1) false ss at_ w h)
  have HD := hidE h
  clear h
  go_enter Try.func11, Try.ntmps11
  go_wp2_with fail
  refine HA.out.mono ?_
  rintro e w1 ⟨rfl, hb⟩
  have HB := hidE hb
  clear hb HA
  by_cases hin : 0 ≤ at_ ∧ at_ < (ss.length : Int)
  case neg =>
    have dn : (decide (0 ≤ at_) && decide (at_ < (ss.length : Int))) = false := by
      simp only [Bool.and_eq_false_iff, decide_eq_false_iff_not]
      omega
    rw [dn]
    go_wp2_with fail
    go_ret
    exact .inl ⟨rfl, HB.out⟩
  have dn : (decide (0 ≤ at_) && decide (at_ < (ss.length : Int))) = true := by
    simp only [Bool.and_eq_true, decide_eq_true_eq]
    exact hin
  rw [dn]
  by_cases hts2 : t.size ≤ 256
  case neg =>
    have d1 : decide (256 < (t.size : Int)) = true := by simp; omega
    go_wp2_with fail
    go_ret
    exact .inl ⟨rfl, HB.out⟩
  have d1 : decide (256 < (t.size : Int)) = false := by simp; omega
  obtain ⟨i, rfl⟩ : ∃ i : Nat, at_ = (i : Int) := ⟨at_.toNat, by omega⟩
  have hi : i < ss.length := by omega
  have HD1 := hidE (dsk_below HD.out HB.out)
  have SU := hidE (step_up B gd gs bit ss w1 HD1.out)
  clear dn
  go_wp2_with fail
  refine SU.out.mono ?_
  rintro e w2 ⟨rfl, hb⟩
  have HB2 := nxt HB hb
  have HD2 := hidE (dsk_below HD1.out hb)
  clear hb SU HD1 HB d1
  have c0 : w2.cell? ⟨gd, 0, none⟩ = some (.slice (some ⟨gs, 0, none⟩) ss.length ss.length) := HD2.out.bd.c 0 (by simp)
  have c1 : w2.cell? ⟨gd, 1, none⟩ = some (.int .i64 bit) := HD2.out.bd.c 1 (by simp)
  have lgd := HD2.out.bd.lt
  have hm := List.getElem_mem hi
  have SW : Hid (∀ w', Below w2.heap.size w2 w' → Calls Try.prog 24 #[.pointer (some ⟨gs, i * 257, none⟩), .int .i64 bit, .string t] w' fun e w'' => e = .returned (.tuple #[]) ∧ ∃ wv', KeptB w' w'' (fun k => k = gs ∨ ss[i].wv.ownBlock = some k) ∧ BlkAt w'' gs (rowOf cellsS (ss.take i) ++ (cellsS ⟨ss[i].kept, ss[i].ws ++ [(bit, pad t hts2)], wv'⟩ ++ rowOf cellsS (ss.drop (i + 1)))) ∧
      w''.ownsRow B 74 257 wv' (ss[i].ws ++ [(bit, pad t hts2)]).length (rowW (ss[i].ws ++ [(bit, pad t hts2)])) ∧ (wv'.ownBlock = ss[i].wv.ownBlock ∨ ∃ k, wv'.ownBlock = some k ∧ w'.heap.size ≤ k)) := fun w' hb' => by
    have hd := dsk_below HD2.out hb'
    have hbs := hd.bs
    rw [row_split ss i hi] at hbs
    have := scwrite_any bit t hts2 ss[i] B gs _ _ w' hbs (hd.row _ hm) (by have := hd.b1; have := hd.bd.lt; omega) (by have := hlen _ hm; omega) (fun p hp e => by have := hd.bits _ hm p hp; omega) (hd.own _ hm).1
    rw [pre_len ss i (by omega)] at this
    exact this
  by_cases hz : (0 : Int) = 0
  case neg => exact absurd rfl hz
  · clear hz
    go_upto_region 6 with fail
    have dd : Below w2.heap.size w2 ({ w2 with drawn := w2.drawn + 1 } : World) := (Below.refl _ _).drew
    have hS := dd
    refine wp_region_last (fun w' => Below w2.heap.size w2 w') 11 (by kernel_rfl) ?_
    generalize ({ w2 with drawn := w2.drawn + 1 } : World) = wd at *
    refine last_take (i := 0) (v := .pointer (some ⟨gd, 0, none⟩)) (L := #[true, false, false, false, false, false, false, false, false, false, false, false]) [1, 2, 3, 5, 11] rfl (by kernel_rfl) (by kernel_rfl) (by kernel_rfl) (by kernel_rfl) (by kernel_rfl) (fun c a w h => h) (Or.inl ⟨by kernel_rfl, fun wq hq => by go_simp⟩) hS (by kernel_rfl) ?_
    refine last_take (i := 1) (v := .pointer (some ⟨gd, 0, none⟩)) (L := #[true, true, false, false, false, false, false, false, false, false, false, false]) [2, 3, 5, 11] rfl (by kernel_rfl) (by kernel_rfl) (by kernel_rfl) (by kernel_rfl) (by kernel_rfl) (fun c a w h => h) (Or.inl ⟨by kernel_rfl, fun wq hq => by go_simp⟩) hS (by kernel_rfl) ?_
    refine last_take (i := 2) (v := .pointer (some ⟨gd, 0, none⟩)) (L := #[true, true, true, false, false, false, false, false, false, false, false, false]) [3, 5, 11] rfl (by kernel_rfl) (by kernel_rfl) (by kernel_rfl) (by kernel_rfl) (by kernel_rfl) (fun c a w h => h) (Or.inl ⟨by kernel_rfl, fun wq hq => by go_simp⟩) hS (by kernel_rfl) ?_
    refine last_take (i := 3) (v := .slice (some ⟨gs, 0, none⟩) ss.length ss.length) (L := #[true, true, true, true, false, false, false, false, false, false, false, false]) [5, 11] rfl (by kernel_rfl) (by kernel_rfl) (by kernel_rfl) (by kernel_rfl) (by kernel_rfl) (fun c a w h => h) (Or.inl ⟨by kernel_rfl, fun wq hq => by have q := hq.cell (p := ⟨gd, 0, none⟩) lgd; rw [c0] at q; go_simp⟩) hS (by kernel_rfl) ?_
    refine last_take (i := 4) (v := .int .i64 (i : Int)) (L := #[true, true, true, true, true, false, false, false, false, false, false, false]) [5, 11] rfl (by kernel_rfl) (by kernel_rfl) (by kernel_rfl) (by kernel_rfl) (by kernel_rfl) (fun c a w h => h) (Or.inl ⟨by kernel_rfl, fun wq hq => by go_simp⟩) hS (by kernel_rfl) ?_
    refine last_take (i := 5) (v := .pointer (some ⟨gs, i * 257, none⟩)) (L := #[true, true, true, true, true, true, false, false, false, false, false, false]) [11] rfl (by kernel_rfl) (by kernel_rfl) (by kernel_rfl) (by kernel_rfl) (by kernel_rfl) (fun c a w h => h) (Or.inl ⟨by kernel_rfl, fun wq hq => by go_simp⟩) hS (by kernel_rfl) ?_
    refine last_take (i := 6) (v := .pointer (some ⟨gd, 0, none⟩)) (L := #[true, true, true, true, true, true, true, false, false, false, false, false]) [7, 8, 9, 11] rfl (by kernel_rfl) (by kernel_rfl) (by kernel_rfl) (by kernel_rfl) (by kernel_rfl) (fun c a w h => h) (Or.inl ⟨by kernel_rfl, fun wq hq => by go_simp⟩) hS (by kernel_rfl) ?_
    refine last_take (i := 7) (v := .pointer (some ⟨gd, 0, none⟩)) (L := #[true, true, true, true, true, true, true, true, false, false, false, false]) [8, 9, 11] rfl (by kernel_rfl) (by kernel_rfl) (by kernel_rfl) (by kernel_rfl) (by kernel_rfl) (fun c a w h => h) (Or.inl ⟨by kernel_rfl, fun wq hq => by go_simp⟩) hS (by kernel_rfl) ?_
    refine last_take (i := 8) (v := .pointer (some ⟨gd, 1, none⟩)) (L := #[true, true, true, true, true, true, true, true, true, false, false, false]) [9, 11] rfl (by kernel_rfl) (by kernel_rfl) (by kernel_rfl) (by kernel_rfl) (by kernel_rfl) (fun c a w h => h) (Or.inl ⟨by kernel_rfl, fun wq hq => by go_simp⟩) hS (by kernel_rfl) ?_
    refine last_take (i := 9) (v := .int .i64 bit) (L := #[true, true, true, true, true, true, true, true, true, true, false, false]) [11] rfl (by kernel_rfl) (by kernel_rfl) (by kernel_rfl) (by kernel_rfl) (by kernel_rfl) (fun c a w h => h) (Or.inl ⟨by kernel_rfl, fun wq hq => by have q := hq.cell (p := ⟨gd, 1, none⟩) lgd; rw [c1] at q; go_simp⟩) hS (by kernel_rfl) ?_
    refine last_take (i := 10) (v := .string t) (L := #[true, true, true, true, true, true, true, true, true, true, true, false]) [11] rfl (by kernel_rfl) (by kernel_rfl) (by kernel_rfl) (by kernel_rfl) (by kernel_rfl) (fun c a w h => h) (Or.inl ⟨by kernel_rfl, fun wq hq => by go_simp⟩) hS (by kernel_rfl) ?_
    refine last_go (i := 11) (L := #[true, true, true, true, true, true, true, true, true, true, true, true]) (by kernel_rfl) rfl (by kernel_rfl) (by kernel_rfl) ?_
    intro K' hK
    go_simp
    refine (SW.out wd dd).mono ?_
    rintro e w4 ⟨rfl, wv', hk4, hb4, ho4, hob4⟩
    refine hK _ _ ⟨fun h => absurd rfl h, ?_⟩
    clear hK
    refine last_done (by kernel_rfl) ?_ _
    have HDd := hidE (dsk_below HD2.out dd)
    obtain ⟨bd4, dk5, kp5⟩ := dsk_write HDd.out i hi (pad t hts2) wv' hk4 hb4 ho4 hob4 hbit.1 (hlen _ hm)
    have e1 : w4.cell? ⟨gd, 1, none⟩ = some (.int .i64 bit) := bd4.c 1 (by simp)
    have f1 := bd4.fz 1
    have wr1 : IntKind.i64.wrap (bit + 1) = bit + 1 := wrapIn2 _ (by omega) (by omega)
    have rm1 : (bit + 1).tmod 64 = bit + 1 := Int.tmod_eq_of_lt (by omega) (by omega)
    have DK5 := hidE dk5
    have KP5 := hidE (keptB_trans (keptB_of_below (bad := dskBad gd gs ss) (HB2.out.trans (dd.mono HB2.out.size))) kp5)
    have OB5 : Hid (wv'.ownBlock = ss[i].wv.ownBlock ∨ ∃ k, wv'.ownBlock = some k ∧ w.heap.size ≤ k) := by
      rcases hob4 with e | ⟨k, e, hk9⟩
      · exact .inl e
      · exact .inr ⟨k, e, by have := HB2.out.size; have := dd.size; omega⟩
    clear hk4 hb4 ho4 hob4 dk5 kp5 bd4 SW HDd HD2 c0 c1
    go_wp2_with fail
    go_ret
    exact .inr ⟨i, hi, hts2, wv', rfl, rfl, KP5.out, OB5.out, DK5.out⟩

set_option maxRecDepth 100000 in
theorem read_in (i : Nat) (B gd gs : Nat) (bit left : Int) (ss : List Sec) (w : World) (h : DskR w B gd gs bit left false ss) (hi : i < ss.length) (hss : ss.length ≤ 200) :
    Calls Try.prog 13 #[.pointer (some ⟨gd, 0, none⟩), .int .i64 (i : Int)] w fun e w' => e = .returned (.tuple #[strB (textS ss[i]), .nilIface]) ∧ Below w.heap.size w w' := by
  have HA := hidE (has_any B gd gs bit left false ss (i : Int) w h)
  have HD := hidE h
  have c3 : w.cell? ⟨gd, 3, none⟩ = some (.bool false) := h.bd.c 3 (by simp)
  clear h
  go_enter Try.func13, Try.ntmps13
  go_wp2_with fail
  refine HA.out.mono ?_
  rintro e w1 ⟨rfl, hb⟩
  have HB := hidE hb
  have HD1 := hidE (dsk_below HD.out hb)
  have dn : (decide (0 ≤ (i : Int)) && decide ((i : Int) < (ss.length : Int))) = true := by
    simp only [Bool.and_eq_true, decide_eq_true_eq]
    omega
  rw [dn]
  have c0 : w1.cell? ⟨gd, 0, none⟩ = some (.slice (some ⟨gs, 0, none⟩) ss.length ss.length) := HD1.out.bd.c 0 (by simp)
  have hm := List.getElem_mem hi
  have TX := text_any ss[i] gs (rowOf cellsS (ss.take i)).length w1 (fun j hj => by
    have hbs := HD1.out.bs
    rw [row_split ss i hi] at hbs
    exact sec_at hbs j hj) HD1.out.bs.lt (rowG_of_owns (HD1.out.row _ hm)) (by have := HD1.out.len _ hm; omega)
  rw [pre_len ss i (by omega)] at TX
  have TXH := hidE TX
  clear hb dn HA TX c3
  go_wp2_with fail
  refine TXH.out.mono ?_
  rintro e w2 ⟨rfl, hb⟩
  have HB2 := nxt HB hb
  clear hb TXH c0
  unfold strB
  go_wp2_with fail
  go_ret2
  exact ⟨rfl, HB2.out⟩

theorem kb_all : ∀ b : Int, 0 ≤ b → b ≤ 63 → kb 18446744073709551615 b = true := by
  intro b h0 h1
  obtain ⟨n, rfl⟩ : ∃ n : Nat, b = (n : Int) := ⟨b.toNat, by omega⟩
  have hn : n < 64 := by omega
  have hd : ∀ n : Fin 64, kb 18446744073709551615 ((n.val : Nat) : Int) = true := by decide +kernel
  exact hd ⟨n, hn⟩
set_option maxRecDepth 100000 in
theorem flush_any (B gd gs : Nat) (bit : Int) (ss : List Sec) (w : World) (h : DskR w B gd gs bit (-1) false ss) (hl : ss.length ≤ 200) (hb : bit ≤ 64) :
    Calls Try.prog 15 #[.pointer (some ⟨gd, 0, none⟩)] w fun e w' => e = .returned .nilIface ∧ KeptB w w' (fun k => k = gd ∨ k = gs) ∧ DskR w' B gd gs 0 (-1) false (ss.map (settleS 18446744073709551615)) := by
  have SU := hidE (step_up B gd gs bit ss w h)
  have HD := hidE h
  clear h
  go_enter Try.func15, Try.ntmps15
  go_wp2_with fail
  refine SU.out.mono ?_
  rintro e w1 ⟨rfl, hb1⟩
  have KB := hidE (keptB_of_below (bad := fun k => k = gd ∨ k = gs) hb1)
  have SA := hidE (settle_all 18446744073709551615 (by decide) B gd gs bit (-1) false ss w1 (dsk_below HD.out hb1) hl hb)
  clear hb1 SU
  go_wp2_with fail
  refine SA.out.mono ?_
  rintro e w2 ⟨rfl, hk, hd⟩
  have HK := hidE (keptB_trans KB.out hk)
  have HDD := hidE hd
  clear hk hd SA
  go_wp2_with fail
  go_ret
  exact ⟨rfl, HK.out, HDD.out⟩
set_option maxRecDepth 100000 in
theorem restart_any (keep : Int) (hk : 0 ≤ keep ∧ keep ≤ 18446744073709551615) (B gd gs : Nat) (bit : Int) (ss : List Sec) (w : World) (h : DskR w B gd gs bit (-1) false ss) (hl : ss.length ≤ 200) (hb : bit ≤ 64) :
    Calls Try.prog 18 #[.pointer (some ⟨gd, 0, none⟩), .int .u64 keep] w fun e w' => e = .returned (.tuple #[]) ∧ KeptB w w' (fun k => k = gd ∨ k = gs) ∧ DskR w' B gd gs 0 (-1) false (ss.map (settleS keep)) := by
  have SA := hidE (settle_all keep hk B gd gs bit (-1) false ss w h hl hb)
  clear h
  go_enter Try.func18, Try.ntmps18
  go_wp2_with fail
  refine SA.out.mono ?_
  rintro e w1 ⟨rfl, hk1, hd1⟩
  have HK := hidE hk1
  have HD := hidE hd1
  have c3 : w1.cell? ⟨gd, 3, none⟩ = some (.bool false) := hd1.bd.c 3 (by simp)
  have f3 := hd1.bd.fz 3
  have B3 := blk_set hd1.bd 3 (.bool false) (by simp)
  have c2 : (w1.setCell ⟨gd, 3, none⟩ (.bool false)).cell? ⟨gd, 2, none⟩ = some (.int .i64 (-1)) := B3.c 2 (by simp)
  have f2 := B3.fz 2
  have B4 := hidE (blk_set B3 2 (.int .i64 (-1)) (by simp))
  have K4 := hidE (keptB_set (keptB_set HK.out (.inl rfl) 3 (.bool false)) (.inl rfl) 2 (.int .i64 (-1)))
  have ks : KeptB w1 ((w1.setCell ⟨gd, 3, none⟩ (.bool false)).setCell ⟨gd, 2, none⟩ (.int .i64 (-1))) (fun k => k = gd) := keptB_set (keptB_set (keptB_of_below (bad := fun k => k = gd) (Below.refl w1.heap.size w1)) rfl 3 _) rfl 2 _
  have D4 : Hid (DskR ((w1.setCell ⟨gd, 3, none⟩ (.bool false)).setCell ⟨gd, 2, none⟩ (.int .i64 (-1))) B gd gs 0 (-1) false (ss.map (settleS keep))) :=
    ⟨by simpa using B4.out, blk_kept hd1.bs ks (fun e => hd1.ne e.symm), fun s hs => own_kept (hd1.row s hs) ks (fun k hkk e => (hd1.own s hs).2 (by rw [hkk, e])), hd1.bits, hd1.len, hd1.sep, hd1.own, hd1.ne, hd1.b1, hd1.b2⟩
  clear hk1 hd1 SA B3 ks B4 HD HK
  go_wp2_with fail
  exact ⟨rfl, _, by simp [results], rfl, K4.out, D4.out⟩
end Go.Proofs.Ytjiopjdbifcfkac
