/- The contract of a disk's Write, whatever was done to it, over this seat's translation. Conditions: as named. -/
import Derived.Test.YtjiopjdbifcfkacDiskC
namespace Go.Proofs.Ytjiopjdbifcfkac
open Go.ChangeShapes Go.WideShapes Go.ChangeAt Go.RowKit
set_option linter.unusedVariables false
set_option linter.unusedSimpArgs false

/-- the next write's bit -/
def nextB (bit : Int) : Int := if bit = 63 then 0 else bit + 1
/-- what Write answers, and what is there behind it -/
def WriteR (w w' : World) (B gd gs : Nat) (bit left : Int) (down : Bool) (ss : List Sec) (at_ : Int) (t : ByteArray) (e : Ending) : Prop :=
  (¬ (0 ≤ at_ ∧ at_ < (ss.length : Int) ∧ t.size ≤ 256) ∧ e = .returned (.iface 54 (.int .i64 1)) ∧ Below w.heap.size w w') ∨
  ((0 ≤ at_ ∧ at_ < (ss.length : Int) ∧ t.size ≤ 256) ∧ (down = true ∨ left = 0) ∧ e = .returned (.iface 54 (.int .i64 7)) ∧ KeptB w w' (dskBad gd gs ss) ∧ DskG w' B gd gs bit left true ss) ∨
  (∃ (i : Nat) (hi : i < ss.length) (ht : t.size ≤ 256) (wv' : Value), at_ = (i : Int) ∧ down = false ∧ left ≠ 0 ∧ e = .returned .nilIface ∧ KeptB w w' (dskBad gd gs ss) ∧ (wv'.ownBlock = ss[i].wv.ownBlock ∨ ∃ k, wv'.ownBlock = some k ∧ w.heap.size ≤ k) ∧
    DskG w' B gd gs (nextB bit) (stepL left) false (ss.set i ⟨ss[i].kept, ss[i].ws.filter (fun p => !(p.1 == bit)) ++ [(bit, pad t ht)], wv'⟩))

set_option maxRecDepth 100000 in
set_option maxHeartbeats 1000000 in
theorem write_g (at_ : Int) (t : ByteArray) (B gd gs : Nat) (bit left : Int) (down : Bool) (ss : List Sec) (w : World) (h : DskG w B gd gs bit left down ss) (hss : ss.length ≤ 200) (hbit : 0 ≤ bit ∧ bit ≤ 63) (hlen : ∀ s ∈ ss, s.ws.length ≤ 800) (hts : t.size ≤ 100000) (hlf : left ≤ 9223372036854775807) :
    Calls Try.prog 11 #[.pointer (some ⟨gd, 0, none⟩), .int .i64 at_, .string t] w fun e w' => WriteR w w' B gd gs bit left down ss at_ t e := by
  have HA := hidE (has_g B gd gs bit left down ss at_ w h)
  have HD := hidE h
  clear h
  go_enter Try.func11, Try.ntmps11
  go_wp2_with fail
  refine HA.out.mono ?_
  rintro e w1 ⟨rfl, hb⟩
  have HB := hidE hb
  clear hb HA
  by_cases hin : 0 ≤ at_ ∧ at_ < (ss.length : Int)
  case neg =>
    have dn : (decide (0 ≤ at_) && decide (at_ < (ss.length : Int))) = false := by
      simp only [Bool.and_eq_false_iff, decide_eq_false_iff_not]
      omega
    rw [dn]
    go_wp2_with fail
    go_ret
    exact .inl ⟨fun h => hin ⟨h.1, h.2.1⟩, rfl, HB.out⟩
  have dn : (decide (0 ≤ at_) && decide (at_ < (ss.length : Int))) = true := by
    simp only [Bool.and_eq_true, decide_eq_true_eq]
    exact hin
  rw [dn]
  by_cases hts2 : t.size ≤ 256
  case neg =>
    have d1 : decide (256 < (t.size : Int)) = true := by simp; omega
    go_wp2_with fail
    go_ret
    exact .inl ⟨fun h => hts2 h.2.2, rfl, HB.out⟩
  have d1 : decide (256 < (t.size : Int)) = false := by simp; omega
  obtain ⟨i, rfl⟩ : ∃ i : Nat, at_ = (i : Int) := ⟨at_.toNat, by omega⟩
  have hi : i < ss.length := by omega
  have HD1 := hidE (dskG_below HD.out HB.out)
  have SU := hidE (step_g B gd gs bit left down ss w1 HD1.out hlf)
  clear dn
  go_wp2_with fail
  refine SU.out.mono ?_
  rintro e w2 ⟨hk2, hst⟩
  have KB2 := hidE (keptB_trans (keptB_of_below (bad := dskBad gd gs ss) HB.out) (keptB_mono hk2 (fun k h => .inl h)))
  have hsz2 : w.heap.size ≤ w2.heap.size := Nat.le_trans HB.out.size hk2.b0.size
  unfold StepR at hst
  rcases hst with ⟨hdn, rfl, hd2⟩ | ⟨hdn, hl0, rfl, hd2⟩
  · have HDD := hidE hd2
    have HDN := hidE hdn
    have hin3 : Hid (0 ≤ (i : Int) ∧ (i : Int) < (ss.length : Int) ∧ t.size ≤ 256) := ⟨hin.1, hin.2, hts2⟩
    clear hd2 hdn hk2 SU HD1 HB d1
    go_wp2_with fail
    go_ret
    exact .inr (.inl ⟨hin3.out, HDN.out, rfl, KB2.out, HDD.out⟩)
  have HD2 := hidE hd2
  have HDN := hidE hdn
  have HL0 := hidE hl0
  generalize hsl : stepL left = sl at *
  have HSL := hidE hsl
  clear hd2 hdn hl0 hk2 SU HD1 HB d1 hsl
  have c0 : w2.cell? ⟨gd, 0, none⟩ = some (.slice (some ⟨gs, 0, none⟩) ss.length ss.length) := HD2.out.bd.c 0 (by simp)
  have c1 : w2.cell? ⟨gd, 1, none⟩ = some (.int .i64 bit) := HD2.out.bd.c 1 (by simp)
  have lgd := HD2.out.bd.lt
  have hm := List.getElem_mem hi
  have SW : Hid (∀ w', Below w2.heap.size w2 w' → Calls Try.prog 24 #[.pointer (some ⟨gs, i * 257, none⟩), .int .i64 bit, .string t] w' fun e w'' => e = .returned (.tuple #[]) ∧ ∃ wv', KeptB w' w'' (fun k => k = gs ∨ ss[i].wv.ownBlock = some k) ∧ BlkAt w'' gs (rowOf cellsS (ss.take i) ++ (cellsS ⟨ss[i].kept, ss[i].ws.filter (fun p => !(p.1 == bit)) ++ [(bit, pad t hts2)], wv'⟩ ++ rowOf cellsS (ss.drop (i + 1)))) ∧
      w''.ownsRow B 74 257 wv' (ss[i].ws.filter (fun p => !(p.1 == bit)) ++ [(bit, pad t hts2)]).length (rowW (ss[i].ws.filter (fun p => !(p.1 == bit)) ++ [(bit, pad t hts2)])) ∧ (wv'.ownBlock = ss[i].wv.ownBlock ∨ ∃ k, wv'.ownBlock = some k ∧ w'.heap.size ≤ k)) := fun w' hb' => by
    have hd := dskG_below HD2.out hb'
    have hbs := hd.bs
    rw [row_split ss i hi] at hbs
    have := scwrite_gen bit t hts2 ss[i] B gs _ _ w' hbs (hd.row _ hm) (by have := hd.b1; have := hd.bd.lt; omega) (by have := hlen _ hm; omega) (hd.own _ hm).1
    rw [pre_len ss i (by omega)] at this
    exact this
  by_cases hz : (0 : Int) = 0
  case neg => exact absurd rfl hz
  · clear hz
    go_upto_region 6 with fail
    have dd : Below w2.heap.size w2 ({ w2 with drawn := w2.drawn + 1 } : World) := (Below.refl _ _).drew
    have hS := dd
    refine wp_region_last (fun w' => Below w2.heap.size w2 w') 11 (by kernel_rfl) ?_
    generalize ({ w2 with drawn := w2.drawn + 1 } : World) = wd at *
    refine last_take (i := 0) (v := .pointer (some ⟨gd, 0, none⟩)) (L := #[true, false, false, false, false, false, false, false, false, false, false, false]) [1, 2, 3, 5, 11] rfl (by kernel_rfl) (by kernel_rfl) (by kernel_rfl) (by kernel_rfl) (by kernel_rfl) (fun c a w h => h) (Or.inl ⟨by kernel_rfl, fun wq hq => by go_simp⟩) hS (by kernel_rfl) ?_
    refine last_take (i := 1) (v := .pointer (some ⟨gd, 0, none⟩)) (L := #[true, true, false, false, false, false, false, false, false, false, false, false]) [2, 3, 5, 11] rfl (by kernel_rfl) (by kernel_rfl) (by kernel_rfl) (by kernel_rfl) (by kernel_rfl) (fun c a w h => h) (Or.inl ⟨by kernel_rfl, fun wq hq => by go_simp⟩) hS (by kernel_rfl) ?_
    refine last_take (i := 2) (v := .pointer (some ⟨gd, 0, none⟩)) (L := #[true, true, true, false, false, false, false, false, false, false, false, false]) [3, 5, 11] rfl (by kernel_rfl) (by kernel_rfl) (by kernel_rfl) (by kernel_rfl) (by kernel_rfl) (fun c a w h => h) (Or.inl ⟨by kernel_rfl, fun wq hq => by go_simp⟩) hS (by kernel_rfl) ?_
    refine last_take (i := 3) (v := .slice (some ⟨gs, 0, none⟩) ss.length ss.length) (L := #[true, true, true, true, false, false, false, false, false, false, false, false]) [5, 11] rfl (by kernel_rfl) (by kernel_rfl) (by kernel_rfl) (by kernel_rfl) (by kernel_rfl) (fun c a w h => h) (Or.inl ⟨by kernel_rfl, fun wq hq => by have q := hq.cell (p := ⟨gd, 0, none⟩) lgd; rw [c0] at q; go_simp⟩) hS (by kernel_rfl) ?_
    refine last_take (i := 4) (v := .int .i64 (i : Int)) (L := #[true, true, true, true, true, false, false, false, false, false, false, false]) [5, 11] rfl (by kernel_rfl) (by kernel_rfl) (by kernel_rfl) (by kernel_rfl) (by kernel_rfl) (fun c a w h => h) (Or.inl ⟨by kernel_rfl, fun wq hq => by go_simp⟩) hS (by kernel_rfl) ?_
    refine last_take (i := 5) (v := .pointer (some ⟨gs, i * 257, none⟩)) (L := #[true, true, true, true, true, true, false, false, false, false, false, false]) [11] rfl (by kernel_rfl) (by kernel_rfl) (by kernel_rfl) (by kernel_rfl) (by kernel_rfl) (fun c a w h => h) (Or.inl ⟨by kernel_rfl, fun wq hq => by go_simp⟩) hS (by kernel_rfl) ?_
    refine last_take (i := 6) (v := .pointer (some ⟨gd, 0, none⟩)) (L := #[true, true, true, true, true, true, true, false, false, false, false, false]) [7, 8, 9, 11] rfl (by kernel_rfl) (by kernel_rfl) (by kernel_rfl) (by kernel_rfl) (by kernel_rfl) (fun c a w h => h) (Or.inl ⟨by kernel_rfl, fun wq hq => by go_simp⟩) hS (by kernel_rfl) ?_
    refine last_take (i := 7) (v := .pointer (some ⟨gd, 0, none⟩)) (L := #[true, true, true, true, true, true, true, true, false, false, false, false]) [8, 9, 11] rfl (by kernel_rfl) (by kernel_rfl) (by kernel_rfl) (by kernel_rfl) (by kernel_rfl) (fun c a w h => h) (Or.inl ⟨by kernel_rfl, fun wq hq => by go_simp⟩) hS (by kernel_rfl) ?_
    refine last_take (i := 8) (v := .pointer (some ⟨gd, 1, none⟩)) (L := #[true, true, true, true, true, true, true, true, true, false, false, false]) [9, 11] rfl (by kernel_rfl) (by kernel_rfl) (by kernel_rfl) (by kernel_rfl) (by kernel_rfl) (fun c a w h => h) (Or.inl ⟨by kernel_rfl, fun wq hq => by go_simp⟩) hS (by kernel_rfl) ?_
    refine last_take (i := 9) (v := .int .i64 bit) (L := #[true, true, true, true, true, true, true, true, true, true, false, false]) [11] rfl (by kernel_rfl) (by kernel_rfl) (by kernel_rfl) (by kernel_rfl) (by kernel_rfl) (fun c a w h => h) (Or.inl ⟨by kernel_rfl, fun wq hq => by have q := hq.cell (p := ⟨gd, 1, none⟩) lgd; rw [c1] at q; go_simp⟩) hS (by kernel_rfl) ?_
    refine last_take (i := 10) (v := .string t) (L := #[true, true, true, true, true, true, true, true, true, true, true, false]) [11] rfl (by kernel_rfl) (by kernel_rfl) (by kernel_rfl) (by kernel_rfl) (by kernel_rfl) (fun c a w h => h) (Or.inl ⟨by kernel_rfl, fun wq hq => by go_simp⟩) hS (by kernel_rfl) ?_
    refine last_go (i := 11) (L := #[true, true, true, true, true, true, true, true, true, true, true, true]) (by kernel_rfl) rfl (by kernel_rfl) (by kernel_rfl) ?_
    intro K' hK
    go_simp
    refine (SW.out wd dd).mono ?_
    rintro e w4 ⟨rfl, wv', hk4, hb4, ho4, hob4⟩
    refine hK _ _ ⟨fun h => absurd rfl h, ?_⟩
    clear hK
    refine last_done (by kernel_rfl) ?_ _
    have HDd := hidE (dskG_below HD2.out dd)
    obtain ⟨bd4, dk5, kp5⟩ := dskG_write HDd.out i hi (pad t hts2) wv' hk4 hb4 ho4 hob4 (by omega) (hlen _ hm) (nextB bit)
    have e1 : w4.cell? ⟨gd, 1, none⟩ = some (.int .i64 bit) := bd4.c 1 (by simp)
    have f1 := bd4.fz 1
    have wr1 : IntKind.i64.wrap (bit + 1) = bit + 1 := wrapIn2 _ (by omega) (by omega)
    have rm1 : (bit + 1).tmod 64 = nextB bit := by
      unfold nextB
      by_cases h63 : bit = 63
      · rw [if_pos h63, h63]
        rfl
      · rw [if_neg h63]
        exact Int.tmod_eq_of_lt (by omega) (by omega)
    have DK5 := hidE dk5
    have KP5 := hidE (keptB_trans (keptB_trans KB2.out (keptB_of_below dd)) kp5)
    have OB5 : Hid (wv'.ownBlock = ss[i].wv.ownBlock ∨ ∃ k, wv'.ownBlock = some k ∧ w.heap.size ≤ k) := by
      rcases hob4 with e | ⟨k, e, hk9⟩
      · exact .inl e
      · exact .inr ⟨k, e, by have := dd.size; omega⟩
    generalize hnbx : nextB bit = nb at *
    have HNBX := hidE hnbx
    clear hnbx
    clear hk4 hb4 ho4 hob4 dk5 kp5 bd4 SW HDd HD2 c0 c1
    go_wp2_with fail
    go_ret
    exact .inr (.inr ⟨i, hi, hts2, wv', rfl, HDN.out, HL0.out, rfl, KP5.out, OB5.out, by rw [HSL.out, HNBX.out]; exact DK5.out⟩)


/-- what Flush answers, and what is there behind it -/
def FlushR (w w' : World) (B gd gs : Nat) (bit left : Int) (down : Bool) (ss : List Sec) (e : Ending) : Prop :=
  ((down = true ∨ left = 0) ∧ e = .returned (.iface 54 (.int .i64 7)) ∧ KeptB w w' (fun k => k = gd ∨ k = gs) ∧ DskG w' B gd gs bit left true ss) ∨ (down = false ∧ left ≠ 0 ∧ e = .returned .nilIface ∧ KeptB w w' (fun k => k = gd ∨ k = gs) ∧ DskG w' B gd gs 0 (stepL left) false (ss.map (settleS 18446744073709551615)))
set_option maxRecDepth 100000 in
theorem flush_g (B gd gs : Nat) (bit left : Int) (down : Bool) (ss : List Sec) (w : World) (h : DskG w B gd gs bit left down ss) (hl : ss.length ≤ 200) (hlf : left ≤ 9223372036854775807) :
    Calls Try.prog 15 #[.pointer (some ⟨gd, 0, none⟩)] w fun e w' => FlushR w w' B gd gs bit left down ss e := by
  have SU := hidE (step_g B gd gs bit left down ss w h hlf)
  clear h
  go_enter Try.func15, Try.ntmps15
  go_wp2_with fail
  refine SU.out.mono ?_
  rintro e w1 ⟨hk1, hst⟩
  have KB := hidE (keptB_mono (bad' := fun k => k = gd ∨ k = gs) hk1 (fun k h => .inl h))
  unfold StepR at hst
  rcases hst with ⟨hdn, rfl, hd2⟩ | ⟨hdn, hl0, rfl, hd2⟩
  · have HDD := hidE hd2
    have HDN := hidE hdn
    clear hd2 hdn hk1 SU
    go_wp2_with fail
    go_ret
    exact .inl ⟨HDN.out, rfl, KB.out, HDD.out⟩
  have SA := hidE (settle_g 18446744073709551615 (by decide) B gd gs bit (stepL left) false ss w1 hd2 hl)
  have HDN := hidE hdn
  have HL0 := hidE hl0
  generalize hsl : stepL left = sl at *
  have HSL := hidE hsl
  clear hd2 hdn hl0 hk1 SU hsl
  go_wp2_with fail
  refine SA.out.mono ?_
  rintro e w2 ⟨rfl, hk, hd⟩
  have HK := hidE (keptB_trans KB.out hk)
  have HDD := hidE hd
  clear hk hd SA
  go_wp2_with fail
  go_ret
  exact .inr ⟨HDN.out, HL0.out, rfl, HK.out, by rw [HSL.out]; exact HDD.out⟩
set_option maxRecDepth 100000 in
theorem restart_g (keep : Int) (hk : 0 ≤ keep ∧ keep ≤ 18446744073709551615) (B gd gs : Nat) (bit left : Int) (down : Bool) (ss : List Sec) (w : World) (h : DskG w B gd gs bit left down ss) (hl : ss.length ≤ 200) :
    Calls Try.prog 18 #[.pointer (some ⟨gd, 0, none⟩), .int .u64 keep] w fun e w' => e = .returned (.tuple #[]) ∧ KeptB w w' (fun k => k = gd ∨ k = gs) ∧ DskG w' B gd gs 0 (-1) false (ss.map (settleS keep)) := by
  have SA := hidE (settle_g keep hk B gd gs bit left down ss w h hl)
  clear h
  go_enter Try.func18, Try.ntmps18
  go_wp2_with fail
  refine SA.out.mono ?_
  rintro e w1 ⟨rfl, hk1, hd1⟩
  have HK := hidE hk1
  have HD := hidE hd1
  have c3 : w1.cell? ⟨gd, 3, none⟩ = some (.bool down) := hd1.bd.c 3 (by simp)
  have f3 := hd1.bd.fz 3
  have B3 := blk_set hd1.bd 3 (.bool false) (by simp)
  have c2 : (w1.setCell ⟨gd, 3, none⟩ (.bool false)).cell? ⟨gd, 2, none⟩ = some (.int .i64 left) := B3.c 2 (by simp)
  have f2 := B3.fz 2
  have B4 := hidE (blk_set B3 2 (.int .i64 (-1)) (by simp))
  have K4 := hidE (keptB_set (keptB_set HK.out (.inl rfl) 3 (.bool false)) (.inl rfl) 2 (.int .i64 (-1)))
  have ks : KeptB w1 ((w1.setCell ⟨gd, 3, none⟩ (.bool false)).setCell ⟨gd, 2, none⟩ (.int .i64 (-1))) (fun k => k = gd) := keptB_set (keptB_set (keptB_of_below (bad := fun k => k = gd) (Below.refl w1.heap.size w1)) rfl 3 _) rfl 2 _
  have D4 : Hid (DskG ((w1.setCell ⟨gd, 3, none⟩ (.bool false)).setCell ⟨gd, 2, none⟩ (.int .i64 (-1))) B gd gs 0 (-1) false (ss.map (settleS keep))) :=
    ⟨by simpa using B4.out, blk_kept hd1.bs ks (fun e => hd1.ne e.symm), fun s hs => own_kept (hd1.row s hs) ks (fun k hkk e => (hd1.own s hs).2 (by rw [hkk, e])), hd1.bits, hd1.len, hd1.sep, hd1.own, hd1.ne, hd1.b1, hd1.b2⟩
  clear hk1 hd1 SA B3 ks B4 HD HK
  go_wp2_with fail
  exact ⟨rfl, _, by simp [results], rfl, K4.out, D4.out⟩
end Go.Proofs.Ytjiopjdbifcfkac
