/- Both disks side by side: Flush, Restart, Arm, Read, and new ones. Conditions: as named. -/
import Derived.Test.YtjiopjdbifcfkacDiskQ
namespace Go.Proofs.Ytjiopjdbifcfkac
open Go.ChangeShapes Go.WideShapes Go.ChangeAt Go.RowKit
set_option linter.unusedVariables false
set_option linter.unusedSimpArgs false

theorem kb_ones : ∀ n : Fin 64, kb 18446744073709551615 (n.val : Int) = true := by decide +kernel
theorem settleK_ones (k : Blk) : ∀ (ws : List Wr), (∀ p ∈ ws, 0 ≤ p.1 ∧ p.1 < 64) → settleK 18446744073709551615 k ws = (ws.getLast?.map (·.2)).getD k := by
  intro ws
  induction ws generalizing k with
  | nil => intro _; rfl
  | cons p ws ih =>
    intro h
    have h0 := h p (List.mem_cons_self ..)
    have hk : kb 18446744073709551615 p.1 = true := by
      have h9 := kb_ones ⟨p.1.toNat, by omega⟩
      have e : ((p.1.toNat : Nat) : Int) = p.1 := by omega
      rw [← e]
      exact h9
    show settleK 18446744073709551615 (if kb 18446744073709551615 p.1 then p.2 else k) ws = _
    rw [if_pos hk, ih p.2 (fun q hq => h q (List.mem_cons_of_mem _ hq))]
    cases ws with
    | nil => rfl
    | cons q ws =>
      rw [List.getLast?_cons_cons]
      cases hl : (q :: ws).getLast? with
      | none => simp at hl
      | some z => rfl
theorem textS_settle (keep : Int) (s : Sec) : textS (settleS keep s) = settleK keep s.kept s.ws := rfl
theorem dskBad_settle {gd gs : Nat} {keep : Int} {ss : List Sec} {k : Nat} (h : dskBad gd gs (ss.map (settleS keep)) k) : k = gd ∨ k = gs := by
  rcases h with e | e | ⟨s, hs, e⟩
  · exact .inl e
  · exact .inr e
  · obtain ⟨q, hq, rfl⟩ := List.mem_map.1 hs
    simp [settleS, Value.ownBlock] at e
/-- what a relation is behind all that waited is settled -/
theorem rel_settled {n m : Nat} {G : Gh} (h : Rel n m G) (keep : Int) (l2 : List ByteArray) (hl2 : l2.length = n) (lf fz : Int) (hlf : lf ≤ 9223372036854775807) (hfz : fz ≤ 9223372036854775807) (hup : (lf < 0 ∧ fz = -1) ∨ lf = fz) (kv nv tv : Value)
    (hnow : ∀ (i : Nat) (s : Sec) (t : ByteArray), G.ss[i]? = some s → l2[i]? = some t → strB (settleK keep s.kept s.ws) = .string t) :
    Rel n m { bit := 0, left := lf, down := false, ss := G.ss.map (settleS keep), kl := l2, nl := l2, tl := [], fuse := fz, kv := kv, nv := nv, tv := tv } := by
  have hg : ∀ (i : Nat) (s : Sec) (t : ByteArray), (G.ss.map (settleS keep))[i]? = some s → l2[i]? = some t → ∃ q, s = settleS keep q ∧ strB (settleK keep q.kept q.ws) = .string t := fun i s t hs ht => by
    rw [List.getElem?_map] at hs
    cases hq : G.ss[i]? with
    | none => rw [hq] at hs; cases hs
    | some q =>
      rw [hq] at hs
      exact ⟨q, (Option.some.inj hs).symm, hnow i q t hq ht⟩
  refine ⟨by simpa using h.ls, hl2, hl2, rfl, Nat.zero_le _, fun p hp => by simp at hp, fun s hs => ?_, hlf, hfz, fun _ => hup, fun i s t hs ht => ?_, fun keep2 i s t hs ht => ?_⟩
  · obtain ⟨q, hq, rfl⟩ := List.mem_map.1 hs
    exact Nat.zero_le _
  · obtain ⟨q, rfl, e⟩ := hg i s t hs ht
    exact e
  · obtain ⟨q, rfl, e⟩ := hg i s t hs ht
    exact e
theorem dd_flush1 {W w w1 : World} {n gd gs Br gr m : Nat} {G : Gh} {e1 : Ending} (h : DD W w n gd gs Br gr m G) (hW : FlushR w w1 W.heap.size gd gs G.bit G.left G.down G.ss e1) :
    ∃ v, e1 = .returned v ∧ RefD w1 Br gr G.kl G.nl G.tl G.fuse G.down G.kv G.nv G.tv := by
  have hn : ∀ k, refBad gr G.kv G.nv G.tv k → ¬ (k = gd ∨ k = gs) := fun k hr hd => by
    rcases hd with e | e
    · exact h.sep k (.inl e) hr
    · exact h.sep k (.inr (.inl e)) hr
  rcases hW with ⟨-, rfl, hk, -⟩ | ⟨-, -, rfl, hk, -⟩
  · exact ⟨_, rfl, refD_kept h.rd hk hn⟩
  · exact ⟨_, rfl, refD_kept h.rd hk hn⟩
theorem dd_two {W w : World} {n gd gs Br gr m : Nat} {G : Gh} (h : DD W w n gd gs Br gr m G) : ∀ k, k = gd ∨ k = gs → W.heap.size ≤ k := fun k e => by
  rcases e with e | e
  · have := h.dk.b1; omega
  · have := h.dk.b2; omega
theorem dd_flush2 {W w w1 w2 : World} {n gd gs Br gr m : Nat} {G : Gh} {v : Value} {e2 : Ending} (h : DD W w n gd gs Br gr m G) (hW : FlushR w w1 W.heap.size gd gs G.bit G.left G.down G.ss (.returned v))
    (hR : RFlushR w1 w2 Br gr G.kl G.nl G.tl G.fuse G.down G.kv G.nv G.tv e2) : ∃ f G', e2 = .returned (.int .i64 f) ∧ Alike v f ∧ DD W w2 n gd gs Br gr (m + 1) G' := by
  have hup := up_iff h.rel
  have hgr : ∀ k, k = gr → W.heap.size ≤ k := fun k e => by have := h.rd.b1; have := h.hB; omega
  rcases hW with ⟨hdn, hv, hk, hd⟩ | ⟨hdn, hl0, hv, hk, hd⟩
  · rcases hR with ⟨hdn2, rfl, hk2, hd2⟩ | ⟨hdn2, hf, -⟩
    · cases hv
      refine ⟨7, { G with down := true, fuse := if G.down then G.fuse else -1 }, rfl, .inr ⟨7, by decide, rfl, rfl⟩, dd_frame h hk hk2 (dd_two h) hgr, ?_, hd2, h.hB, h.sep, ?_⟩
      · exact dskG_kept hd hk2 (fun k e e2 => h.sep k e (.inl e2))
      · refine ⟨h.rel.ls, h.rel.lk, h.rel.ln, h.rel.bt, by have := h.rel.lt; show G.tl.length ≤ m + 1; omega, h.rel.tin, fun s hs => by have := h.rel.lw s hs; omega, h.rel.ll, ?_, fun e => (by cases e), h.rel.now, h.rel.fall⟩
        have := h.rel.lf
        show (if G.down then G.fuse else -1) ≤ _
        split <;> omega
    · rw [hdn2] at hup hdn
      rcases hup.1 hdn with e | e
      · cases e
      · exact absurd e hf
  · rcases hR with ⟨hdn2, -⟩ | ⟨hdn2, hf0, rfl, hk2, kv', hnew, hd2⟩
    · rcases hup.2 hdn2 with e | e
      · rw [hdn] at e; cases e
      · exact absurd e hl0
    · cases hv
      have h12 := hk.b0.size
      have hsep : ∀ k, dskBad gd gs (G.ss.map (settleS 18446744073709551615)) k → ¬ refBad gr kv' G.nv (.slice none 0 0) k := fun k hd9 hr9 => by
        have hd8 : dskBad gd gs G.ss k := by
          rcases dskBad_settle hd9 with e | e
          · exact .inl e
          · exact .inr (.inl e)
        rcases hr9 with e | e | e | e
        · exact h.sep k hd8 (.inl e)
        · have h1 := hnew k e
          have h2 := (dskG_lt h.dk hd8).2
          omega
        · exact h.sep k hd8 (.inr (.inr (.inl e)))
        · simp [Value.ownBlock] at e
      refine ⟨0, { bit := 0, left := stepL G.left, down := false, ss := G.ss.map (settleS 18446744073709551615), kl := G.nl, nl := G.nl, tl := [], fuse := stepL G.fuse, kv := kv', nv := G.nv, tv := .slice none 0 0 }, rfl, .inl ⟨rfl, rfl⟩, dd_frame h hk hk2 (dd_two h) hgr, ?_, hd2, h.hB, hsep, ?_⟩
      · exact dskG_kept hd hk2 (fun k e e2 => by
          rcases dskBad_settle e with e | e
          · exact h.sep k (.inl e) (.inl e2)
          · exact h.sep k (.inr (.inl e)) (.inl e2))
      · refine rel_mono (rel_settled h.rel _ _ h.rel.ln _ _ (step_le _ h.rel.ll) (step_le _ h.rel.lf) (stepL_up h.rel hdn) _ _ _ (fun i s t hs ht => ?_)) (by omega)
        have h9 := h.rel.now i s t hs ht
        rw [settleK_ones _ _ (h.dk.bits s (List.mem_of_getElem? hs))]
        exact h9
theorem dd_restart1 {W w w1 : World} {n gd gs Br gr m : Nat} {G : Gh} (h : DD W w n gd gs Br gr m G) (hk : KeptB w w1 (fun k => k = gd ∨ k = gs)) : RefD w1 Br gr G.kl G.nl G.tl G.fuse G.down G.kv G.nv G.tv :=
  refD_kept h.rd hk (fun k hr hd => by
    rcases hd with e | e
    · exact h.sep k (.inl e) hr
    · exact h.sep k (.inr (.inl e)) hr)
theorem dd_restart2 {W w w1 w2 : World} {n gd gs Br gr m : Nat} {G : Gh} {keep : Int} (h : DD W w n gd gs Br gr m G) (hk : KeptB w w1 (fun k => k = gd ∨ k = gs)) (hd : DskG w1 W.heap.size gd gs 0 (-1) false (G.ss.map (settleS keep)))
    (hk2 : KeptB w1 w2 (fun k => k = gr ∨ G.kv.ownBlock = some k)) {nv' : Value} (hnew : ∀ k, nv'.ownBlock = some k → w1.heap.size ≤ k) (hd2 : RefD w2 Br gr (rk keep G.kl G.tl G.tl.length) (rk keep G.kl G.tl G.tl.length) [] (-1) false G.kv nv' (.slice none 0 0)) :
    ∃ G', DD W w2 n gd gs Br gr (m + 1) G' := by
  have h12 := hk.b0.size
  have hb2 : ∀ k, k = gr ∨ G.kv.ownBlock = some k → refBad gr G.kv G.nv G.tv k := fun k e => by
    rcases e with e | e
    · exact .inl e
    · exact .inr (.inl e)
  have hsep : ∀ k, dskBad gd gs (G.ss.map (settleS keep)) k → ¬ refBad gr G.kv nv' (.slice none 0 0) k := fun k hd9 hr9 => by
    have hd8 : dskBad gd gs G.ss k := by
      rcases dskBad_settle hd9 with e | e
      · exact .inl e
      · exact .inr (.inl e)
    rcases hr9 with e | e | e | e
    · exact h.sep k hd8 (.inl e)
    · exact h.sep k hd8 (.inr (.inl e))
    · have h1 := hnew k e
      have h2 := (dskG_lt h.dk hd8).2
      omega
    · simp [Value.ownBlock] at e
  refine ⟨{ bit := 0, left := -1, down := false, ss := G.ss.map (settleS keep), kl := rk keep G.kl G.tl G.tl.length, nl := rk keep G.kl G.tl G.tl.length, tl := [], fuse := -1, kv := G.kv, nv := nv', tv := .slice none 0 0 }, dd_frame h hk hk2 (dd_two h) (fun k e => ?_), ?_, hd2, h.hB, hsep, ?_⟩
  · have := (refBad_lt h.rd (hb2 k e)).1
    have := h.hB
    omega
  · exact dskG_kept hd hk2 (fun k e e2 => by
      rcases dskBad_settle e with e | e
      · exact h.sep k (.inl e) (hb2 k e2)
      · exact h.sep k (.inr (.inl e)) (hb2 k e2))
  · exact rel_mono (rel_settled h.rel keep _ (by rw [rk_len]; exact h.rel.lk) _ _ (by decide) (by decide) (.inl ⟨by decide, rfl⟩) _ _ _ (fun i s t hs ht => h.rel.fall keep i s t hs ht)) (by omega)
theorem dd_arm {W w w1 : World} {n gd gs Br gr m : Nat} {G : Gh} {a : Int} (ha : a ≤ 9223372036854775807) (h : DD W w n gd gs Br gr m G) (hk : KeptB w w1 (fun k => k = gd)) (hd : DskG w1 W.heap.size gd gs G.bit a G.down G.ss) :
    BlkAt w1 gr [G.kv, G.nv, G.tv, .int .i64 G.fuse, .bool G.down] ∧ ∃ G', DD W (w1.setCell ⟨gr, 3, none⟩ (.int .i64 (max a (-1)))) n gd gs Br gr (m + 1) G' := by
  have rd1 := refD_kept h.rd hk (fun k hr hd => h.sep k (.inl hd) hr)
  have ks : KeptB w1 (w1.setCell ⟨gr, 3, none⟩ (.int .i64 (max a (-1)))) (fun k => k = gr) := keptB_set (keptB_of_below (bad := fun k => k = gr) (Below.refl w1.heap.size w1)) rfl 3 _
  have B3 := blk_set rd1.bd 3 (.int .i64 (max a (-1))) (by simp)
  refine ⟨rd1.bd, { G with left := a, fuse := max a (-1) }, dd_frame h hk ks (fun k e => dd_two h k (.inl e)) (fun k e => by have := h.rd.b1; have := h.hB; omega), ?_, refD_set (fuse' := max a (-1)) (down' := G.down) rd1 ks (by simpa using B3), h.hB, h.sep, ?_⟩
  · exact dskG_kept hd ks (fun k e e2 => h.sep k e (.inl e2))
  · refine ⟨h.rel.ls, h.rel.lk, h.rel.ln, h.rel.bt, by have := h.rel.lt; show G.tl.length ≤ m + 1; omega, h.rel.tin, fun s hs => by have := h.rel.lw s hs; omega, ha, by show max a (-1) ≤ _; omega, fun _ => ?_, h.rel.now, h.rel.fall⟩
    show (a < 0 ∧ max a (-1) = -1) ∨ a = max a (-1)
    omega
/-- what a disk's Read answers, either one -/
theorem dd_read {W w : World} {n gd gs Br gr m : Nat} {G : Gh} (hn : n ≤ 160) (h : DD W w n gd gs Br gr m G) (a : Int) :
    ∃ x v f, Alike v f ∧ (Calls Try.prog 13 #[.pointer (some ⟨gd, 0, none⟩), .int .i64 a] w fun e w' => e = .returned (.tuple #[.string x, v]) ∧ Below w.heap.size w w') ∧
      ∀ w1, Below w.heap.size w w1 → Calls Try.prog 14 #[.pointer (some ⟨gr, 0, none⟩), .int .i64 a] w1 fun e w' => e = .returned (.tuple #[.string x, .int .i64 f]) ∧ Below w1.heap.size w1 w' := by
  have hls := h.rel.ls
  have hln := h.rel.ln
  cases hdn : G.down with
  | true =>
    refine ⟨⟨#[]⟩, .iface 54 (.int .i64 7), 7, .inr ⟨7, by decide, rfl, rfl⟩, ?_, fun w1 hb => ?_⟩
    · exact read_down a _ gd gs G.bit G.left G.ss w (by have := h.dk; rw [hdn] at this; exact this)
    · have := refD_below h.rd hb
      rw [hdn] at this
      exact rread_down a w1 this
  | false =>
    by_cases hin : 0 ≤ a ∧ a < (n : Int)
    · obtain ⟨i, rfl⟩ : ∃ i : Nat, a = (i : Int) := ⟨a.toNat, by omega⟩
      have hi : i < G.ss.length := by omega
      have hi2 : i < G.nl.length := by omega
      have hst := h.rel.now i _ _ (List.getElem?_eq_getElem hi) (List.getElem?_eq_getElem hi2)
      refine ⟨G.nl[i], .nilIface, 0, .inl ⟨rfl, rfl⟩, ?_, fun w1 hb => ?_⟩
      · have h9 := read_g i W.heap.size gd gs G.bit G.left G.ss w (by have := h.dk; rw [hdn] at this; exact this) hi (by omega)
        rw [hst] at h9
        exact h9
      · have h8 := refD_below h.rd hb
        rw [hdn] at h8
        exact rread_in i w1 h8 (by omega) hi2
    · refine ⟨⟨#[]⟩, .iface 54 (.int .i64 1), 1, .inr ⟨1, by decide, rfl, rfl⟩, ?_, fun w1 hb => ?_⟩
      · exact read_out a _ gd gs G.bit G.left G.ss w (by have := h.dk; rw [hdn] at this; exact this) (by rw [hls]; exact hin)
      · have := refD_below h.rd hb
        rw [hdn] at this
        exact rread_out a w1 this (by omega) (by rw [hln]; exact hin)
/-- two new disks -/
theorem dd_new {W w w1 w2 : World} {n gd gs gr : Nat} {kv nv : Value} (hb0 : Below W.heap.size W w) (hb1 : Below w.heap.size w w1) (hd : DskG w1 W.heap.size gd gs 0 (-1) false (List.replicate n sec0)) (hb2 : Below w1.heap.size w1 w2)
    (hr : RefD w2 w1.heap.size gr (List.replicate n (noughtT 256)) (List.replicate n (noughtT 256)) [] (-1) false kv nv (.slice none 0 0)) : ∃ G, G.down = false ∧ DD W w2 n gd gs w1.heap.size gr 0 G := by
  have hbl : Below W.heap.size W w1 := hb0.trans (hb1.mono hb0.size)
  have eN : ∀ (i : Nat) (s : Sec) (t : ByteArray), (List.replicate n sec0)[i]? = some s → (List.replicate n (noughtT 256))[i]? = some t → s = sec0 ∧ t = noughtT 256 := fun i s t hs ht => by
    rw [List.getElem?_replicate] at hs ht
    by_cases hi : i < n
    · rw [if_pos hi] at hs ht
      exact ⟨(Option.some.inj hs).symm, (Option.some.inj ht).symm⟩
    · rw [if_neg hi] at hs
      cases hs
  refine ⟨{ bit := 0, left := -1, down := false, ss := List.replicate n sec0, kl := List.replicate n (noughtT 256), nl := List.replicate n (noughtT 256), tl := [], fuse := -1, kv := kv, nv := nv, tv := .slice none 0 0 }, rfl, hbl.trans (hb2.mono hbl.size), dskG_below hd hb2, hr, hbl.size, fun k e1 e2 => ?_, ?_⟩
  · have h1 := (dskG_lt hd e1).2
    have h2 := (refBad_lt hr e2).1
    omega
  · refine ⟨by simp, by simp, by simp, rfl, Nat.le_refl _, fun p hp => by simp at hp, fun s hs => ?_, (by decide : (-1 : Int) ≤ 9223372036854775807), (by decide : (-1 : Int) ≤ 9223372036854775807), fun _ => .inl ⟨(by decide : (-1 : Int) < 0), rfl⟩, fun i s t hs ht => ?_, fun keep i s t hs ht => ?_⟩
    · rw [List.eq_of_mem_replicate hs]
      exact Nat.zero_le _
    · obtain ⟨rfl, rfl⟩ := eN i s t hs ht
      exact zero_is
    · obtain ⟨rfl, rfl⟩ := eN i s t hs ht
      exact zero_is
end Go.Proofs.Ytjiopjdbifcfkac
