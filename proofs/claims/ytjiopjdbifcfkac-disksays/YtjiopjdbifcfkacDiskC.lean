/- The contracts of a disk's Write and Read, whatever was done to it, over this seat's translation. Conditions: as named. -/
import Derived.Test.YtjiopjdbifcfkacDiskA
import Derived.Test.YtjiopjdbifcfkacDiskB
import Derived.Test.YtjiopjdbifcfkacDisk6
namespace Go.Proofs.Ytjiopjdbifcfkac
open Go.ChangeShapes Go.WideShapes Go.ChangeAt Go.RowKit
set_option linter.unusedVariables false
set_option linter.unusedSimpArgs false

theorem dskG_below {w w' : World} {B gd gs : Nat} {bit left : Int} {down : Bool} {ss : List Sec} (h : DskG w B gd gs bit left down ss) (hb : Below w.heap.size w w') : DskG w' B gd gs bit left down ss :=
  ⟨blk_below h.bd hb h.bd.lt, blk_below h.bs hb h.bs.lt, fun s hs => own_keep (h.row s hs) hb (Nat.le_refl _), h.bits, h.len, h.sep, h.own, h.ne, h.b1, h.b2⟩
theorem dskG_lt {w : World} {B gd gs : Nat} {bit left : Int} {down : Bool} {ss : List Sec} (h : DskG w B gd gs bit left down ss) {k : Nat} (hk : dskBad gd gs ss k) : B ≤ k ∧ k < w.heap.size := by
  rcases hk with rfl | rfl | ⟨s, hs, e⟩
  · exact ⟨h.b1, h.bd.lt⟩
  · exact ⟨h.b2, h.bs.lt⟩
  · exact own_at (h.row s hs) k e
/-- a disk behind a write -/
theorem dskG_write {w w4 : World} {B gd gs : Nat} {bit left : Int} {ss : List Sec} (h : DskG w B gd gs bit left false ss) (i : Nat) (hi : i < ss.length) (b : Blk) (wv' : Value) (hk : KeptB w w4 (fun k => k = gs ∨ ss[i].wv.ownBlock = some k))
    (hb : BlkAt w4 gs (rowOf cellsS (ss.take i) ++ (cellsS ⟨ss[i].kept, (ss[i].ws.filter (fun p => !(p.1 == bit))) ++ [(bit, b)], wv'⟩ ++ rowOf cellsS (ss.drop (i + 1))))) (ho : w4.ownsRow B 74 257 wv' ((ss[i].ws.filter (fun p => !(p.1 == bit))) ++ [(bit, b)]).length (rowW ((ss[i].ws.filter (fun p => !(p.1 == bit))) ++ [(bit, b)])))
    (hob : wv'.ownBlock = ss[i].wv.ownBlock ∨ ∃ k, wv'.ownBlock = some k ∧ w.heap.size ≤ k) (h0 : 0 ≤ bit ∧ bit < 64) (hl : ss[i].ws.length ≤ 800) (nb : Int) :
    BlkAt w4 gd [.slice (some ⟨gs, 0, none⟩) ss.length ss.length, .int .i64 bit, .int .i64 left, .bool false] ∧ DskG (w4.setCell ⟨gd, 1, none⟩ (.int .i64 nb)) B gd gs nb left false (ss.set i ⟨ss[i].kept, (ss[i].ws.filter (fun p => !(p.1 == bit))) ++ [(bit, b)], wv'⟩) ∧
      KeptB w (w4.setCell ⟨gd, 1, none⟩ (.int .i64 nb)) (dskBad gd gs ss) := by
  have hm := List.getElem_mem hi
  have o1 := h.own ss[i] hm
  have bd4 := blk_kept h.bd hk (fun e => by
    rcases e with e | e
    · exact h.ne e
    · exact o1.2 e)
  have nw : ∀ k, wv'.ownBlock = some k → k ≠ gs ∧ k ≠ gd ∧ ∀ j (hj : j < ss.length), i ≠ j → ss[j].wv.ownBlock ≠ some k := fun k hkk => by
    rcases hob with e | ⟨k2, e, hlt⟩
    · rw [e] at hkk
      exact ⟨fun e2 => o1.1 (by rw [hkk, e2]), fun e2 => o1.2 (by rw [hkk, e2]), fun j hj hij => h.sep i j hi hj hij k hkk⟩
    · rw [e] at hkk
      have e3 := Option.some.inj hkk
      have l1 := h.bd.lt
      have l2 := h.bs.lt
      exact ⟨by omega, by omega, fun j hj _ e4 => by have := (own_at (h.row _ (List.getElem_mem hj)) k e4).2; omega⟩
  have eR : rowOf cellsS (ss.set i ⟨ss[i].kept, (ss[i].ws.filter (fun p => !(p.1 == bit))) ++ [(bit, b)], wv'⟩) = rowOf cellsS (ss.take i) ++ (cellsS ⟨ss[i].kept, (ss[i].ws.filter (fun p => !(p.1 == bit))) ++ [(bit, b)], wv'⟩ ++ rowOf cellsS (ss.drop (i + 1))) := by
    rw [row_split _ i (by simpa using hi), List.take_set_of_le (Nat.le_refl _), List.drop_set_of_lt (by omega), List.getElem_set_self]
  have ks : KeptB w4 (w4.setCell ⟨gd, 1, none⟩ (.int .i64 nb)) (fun k => k = gd) := keptB_set (keptB_of_below (bad := fun k => k = gd) (Below.refl w4.heap.size w4)) rfl 1 _
  refine ⟨bd4, ⟨?_, ?_, fun s hs => ?_, fun s hs p hp => ?_, fun s hs => ?_, fun a c ha hc hac k hkk => ?_, fun s hs => ?_, h.ne, h.b1, h.b2⟩, ?_⟩
  · rw [List.length_set]
    simpa using blk_set bd4 1 (.int .i64 nb) (by simp)
  · rw [eR]
    exact blk_far hb (g' := gd) h.ne 1 _
  · rcases List.mem_iff_getElem.1 hs with ⟨j, hj, rfl⟩
    rw [List.length_set] at hj
    by_cases e : i = j
    · subst e
      rw [List.getElem_set_self]
      exact own_kept ho ks (fun k hkk => (nw k hkk).2.1)
    · rw [List.getElem_set_ne e]
      have hro := h.row ss[j] (List.getElem_mem hj)
      refine own_kept (own_kept hro hk (fun k hkk e2 => ?_)) ks (fun k hkk e2 => (h.own ss[j] (List.getElem_mem hj)).2 (by rw [hkk, e2]))
      rcases e2 with e2 | e2
      · exact (h.own ss[j] (List.getElem_mem hj)).1 (by rw [hkk, e2])
      · exact h.sep i j hi hj e k e2 hkk
  · rcases List.mem_iff_getElem.1 hs with ⟨j, hj, rfl⟩
    rw [List.length_set] at hj
    by_cases e : i = j
    · subst e
      rw [List.getElem_set_self] at hp
      rcases List.mem_append.1 hp with hp | hp
      · exact h.bits ss[i] hm p (List.mem_filter.1 hp).1
      · rw [List.mem_singleton.1 hp]
        exact h0
    · rw [List.getElem_set_ne e] at hp
      have := h.bits ss[j] (List.getElem_mem hj) p hp
      omega
  · rcases List.mem_iff_getElem.1 hs with ⟨j, hj, rfl⟩
    rw [List.length_set] at hj
    by_cases e : i = j
    · subst e
      rw [List.getElem_set_self]
      have hfl := List.length_filter_le (fun p : Wr => !(p.1 == bit)) ss[i].ws
      simp only [List.length_append, List.length_cons, List.length_nil]
      omega
    · rw [List.getElem_set_ne e]
      exact h.len ss[j] (List.getElem_mem hj)
  · rw [List.length_set] at ha hc
    by_cases e : i = a
    · subst e
      rw [List.getElem_set_self] at hkk
      rw [List.getElem_set_ne hac]
      exact (nw k hkk).2.2 c hc hac
    · rw [List.getElem_set_ne e] at hkk
      by_cases e2 : i = c
      · subst e2
        rw [List.getElem_set_self]
        intro e3
        exact (nw k e3).2.2 a ha e hkk
      · rw [List.getElem_set_ne e2]
        exact h.sep a c ha hc hac k hkk
  · rcases List.mem_iff_getElem.1 hs with ⟨j, hj, rfl⟩
    rw [List.length_set] at hj
    by_cases e : i = j
    · subst e
      rw [List.getElem_set_self]
      exact ⟨fun e2 => (nw gs e2).1 rfl, fun e2 => (nw gd e2).2.1 rfl⟩
    · rw [List.getElem_set_ne e]
      exact h.own ss[j] (List.getElem_mem hj)
  · refine keptB_set (keptB_mono hk (fun k e => ?_)) (.inl rfl) 1 _
    rcases e with e | e
    · exact .inr (.inl e)
    · exact .inr (.inr ⟨ss[i], hm, e⟩)

set_option maxRecDepth 100000 in
theorem read_g (i : Nat) (B gd gs : Nat) (bit left : Int) (ss : List Sec) (w : World) (h : DskG w B gd gs bit left false ss) (hi : i < ss.length) (hss : ss.length ≤ 200) :
    Calls Try.prog 13 #[.pointer (some ⟨gd, 0, none⟩), .int .i64 (i : Int)] w fun e w' => e = .returned (.tuple #[strB (textS ss[i]), .nilIface]) ∧ Below w.heap.size w w' := by
  have HA := hidE (has_g B gd gs bit left false ss (i : Int) w h)
  have HD := hidE h
  have c3 : w.cell? ⟨gd, 3, none⟩ = some (.bool false) := h.bd.c 3 (by simp)
  clear h
  go_enter Try.func13, Try.ntmps13
  go_wp2_with fail
  refine HA.out.mono ?_
  rintro e w1 ⟨rfl, hb⟩
  have HB := hidE hb
  have HD1 := hidE (dskG_below HD.out hb)
  have dn : (decide (0 ≤ (i : Int)) && decide ((i : Int) < (ss.length : Int))) = true := by
    simp only [Bool.and_eq_true, decide_eq_true_eq]
    omega
  rw [dn]
  have c0 : w1.cell? ⟨gd, 0, none⟩ = some (.slice (some ⟨gs, 0, none⟩) ss.length ss.length) := HD1.out.bd.c 0 (by simp)
  have hm := List.getElem_mem hi
  have TX := text_any ss[i] gs (rowOf cellsS (ss.take i)).length w1 (fun j hj => by
    have hbs := HD1.out.bs
    rw [row_split ss i hi] at hbs
    exact sec_at hbs j hj) HD1.out.bs.lt (rowG_of_owns (HD1.out.row _ hm)) (by have := HD1.out.len _ hm; omega)
  rw [pre_len ss i (by omega)] at TX
  have TXH := hidE TX
  clear hb dn HA TX c3
  go_wp2_with fail
  refine TXH.out.mono ?_
  rintro e w2 ⟨rfl, hb⟩
  have HB2 := nxt HB hb
  clear hb TXH c0
  unfold strB
  go_wp2_with fail
  go_ret2
  exact ⟨rfl, HB2.out⟩

end Go.Proofs.Ytjiopjdbifcfkac
