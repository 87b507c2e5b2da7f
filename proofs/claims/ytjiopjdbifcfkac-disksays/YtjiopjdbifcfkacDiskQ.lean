/- Both disks, the code's and the document's, side by side: what they have in common, and that each act keeps it. Conditions: as named. -/
import Derived.Test.YtjiopjdbifcfkacDiskP
import Derived.Test.YtjiopjdbifcfkacSame
namespace Go.Proofs.Ytjiopjdbifcfkac
open Go.ChangeShapes Go.WideShapes Go.ChangeAt Go.RowKit
set_option linter.unusedVariables false
set_option linter.unusedSimpArgs false

/-- what both disks hold -/
structure Gh where
  bit : Int
  left : Int
  down : Bool
  ss : List Sec
  kl : List ByteArray
  nl : List ByteArray
  tl : List Tn
  fuse : Int
  kv : Value
  nv : Value
  tv : Value
/-- the blocks of the document's disk -/
def refBad (gr : Nat) (kv nv tv : Value) (k : Nat) : Prop := k = gr ∨ kv.ownBlock = some k ∨ nv.ownBlock = some k ∨ tv.ownBlock = some k
structure Rel (n m : Nat) (G : Gh) : Prop where
  ls : G.ss.length = n
  lk : G.kl.length = n
  ln : G.nl.length = n
  bt : G.bit = ((G.tl.length % 64 : Nat) : Int)
  lt : G.tl.length ≤ m
  tin : ∀ p ∈ G.tl, 0 ≤ p.1 ∧ p.1 < (n : Int)
  lw : ∀ s ∈ G.ss, s.ws.length ≤ m
  ll : G.left ≤ 9223372036854775807
  lf : G.fuse ≤ 9223372036854775807
  up : G.down = false → (G.left < 0 ∧ G.fuse = -1) ∨ G.left = G.fuse
  now : ∀ (i : Nat) (s : Sec) (t : ByteArray), G.ss[i]? = some s → G.nl[i]? = some t → strB (textS s) = .string t
  fall : ∀ (keep : Int) (i : Nat) (s : Sec) (t : ByteArray), G.ss[i]? = some s → (rk keep G.kl G.tl G.tl.length)[i]? = some t → strB (settleK keep s.kept s.ws) = .string t
theorem rel_mono {n m m' : Nat} {G : Gh} (h : Rel n m G) (hm : m ≤ m') : Rel n m' G :=
  ⟨h.ls, h.lk, h.ln, h.bt, by have := h.lt; omega, h.tin, fun s hs => by have := h.lw s hs; omega, h.ll, h.lf, h.up, h.now, h.fall⟩
structure DD (W wr : World) (n gd gs Br gr m : Nat) (G : Gh) : Prop where
  bl : Below W.heap.size W wr
  dk : DskG wr W.heap.size gd gs G.bit G.left G.down G.ss
  rd : RefD wr Br gr G.kl G.nl G.tl G.fuse G.down G.kv G.nv G.tv
  hB : W.heap.size ≤ Br
  sep : ∀ k, dskBad gd gs G.ss k → ¬ refBad gr G.kv G.nv G.tv k
  rel : Rel n m G
theorem dd_below {W wr w' : World} {n gd gs Br gr m : Nat} {G : Gh} (h : DD W wr n gd gs Br gr m G) (hb : Below wr.heap.size wr w') : DD W w' n gd gs Br gr m G :=
  ⟨h.bl.trans (hb.mono h.bl.size), dskG_below h.dk hb, refD_below h.rd hb, h.hB, h.sep, h.rel⟩
theorem dd_mono {W wr : World} {n gd gs Br gr m m' : Nat} {G : Gh} (h : DD W wr n gd gs Br gr m G) (hm : m ≤ m') : DD W wr n gd gs Br gr m' G := ⟨h.bl, h.dk, h.rd, h.hB, h.sep, rel_mono h.rel hm⟩
theorem refBad_lt {w : World} {B gr : Nat} {kl nl : List ByteArray} {tl : List Tn} {fuse : Int} {down : Bool} {kv nv tv : Value} (h : RefD w B gr kl nl tl fuse down kv nv tv) {k : Nat} (hk : refBad gr kv nv tv k) : B ≤ k ∧ k < w.heap.size := by
  rcases hk with rfl | e | e | e
  · exact ⟨h.b1, h.bd.lt⟩
  · exact own_at h.kr k e
  · exact own_at h.nr k e
  · exact own_at h.tr k e
theorem dskG_kept {w w' : World} {B gd gs : Nat} {bit left : Int} {down : Bool} {ss : List Sec} {bad : Nat → Prop} (h : DskG w B gd gs bit left down ss) (hk : KeptB w w' bad) (hn : ∀ k, dskBad gd gs ss k → ¬ bad k) : DskG w' B gd gs bit left down ss :=
  ⟨blk_kept h.bd hk (hn gd (.inl rfl)), blk_kept h.bs hk (hn gs (.inr (.inl rfl))), fun s hs => own_kept (h.row s hs) hk (fun k e => hn k (.inr (.inr ⟨s, hs, e⟩))), h.bits, h.len, h.sep, h.own, h.ne, h.b1, h.b2⟩
theorem refD_kept {w w' : World} {B gr : Nat} {kl nl : List ByteArray} {tl : List Tn} {fuse : Int} {down : Bool} {kv nv tv : Value} {bad : Nat → Prop} (h : RefD w B gr kl nl tl fuse down kv nv tv) (hk : KeptB w w' bad) (hn : ∀ k, refBad gr kv nv tv k → ¬ bad k) : RefD w' B gr kl nl tl fuse down kv nv tv :=
  ⟨blk_kept h.bd hk (hn gr (.inl rfl)), own_kept h.kr hk (fun k e => hn k (.inr (.inl e))), own_kept h.nr hk (fun k e => hn k (.inr (.inr (.inl e)))), own_kept h.tr hk (fun k e => hn k (.inr (.inr (.inr e)))), h.s1, h.s2, h.s3, h.b1⟩
/-- an error and a number that are the same -/
def Alike (v : Value) (f : Int) : Prop := (v = .nilIface ∧ f = 0) ∨ ∃ c : Int, 0 < c ∧ v = .iface 54 (.int .i64 c) ∧ f = c
theorem same_alike {v : Value} {f : Int} (h : Alike v f) (w : World) : Calls Try.prog 9 #[v, .int .i64 f] w fun e w' => e = .returned (.bool true) ∧ w' = w := by
  rcases h with ⟨hv, hf⟩ | ⟨c, hc, hv, hf⟩
  · rw [hv, hf]
    refine (same_nil 0 w).mono ?_
    rintro e w' ⟨rfl, rfl⟩
    exact ⟨by simp, rfl⟩
  · rw [hv, hf]
    refine (same_err c c w hc).mono ?_
    rintro e w' ⟨rfl, rfl⟩
    exact ⟨by simp, rfl⟩

theorem up_iff {n m : Nat} {G : Gh} (h : Rel n m G) : (G.down = true ∨ G.left = 0) ↔ (G.down = true ∨ G.fuse = 0) := by
  cases hd : G.down with
  | true => simp
  | false =>
    rcases h.up hd with ⟨h1, h2⟩ | h1
    · constructor
      · rintro (e | e)
        · cases e
        · omega
      · rintro (e | e)
        · cases e
        · omega
    · rw [h1]
theorem step_le (x : Int) (h : x ≤ 9223372036854775807) : stepL x ≤ 9223372036854775807 := by unfold stepL; split <;> omega
theorem stepL_up {n m : Nat} {G : Gh} (h : Rel n m G) (hd : G.down = false) : (stepL G.left < 0 ∧ stepL G.fuse = -1) ∨ stepL G.left = stepL G.fuse := by
  rcases h.up hd with ⟨h1, h2⟩ | h1
  · left
    unfold stepL
    rw [if_neg (by omega), if_neg (by omega)]
    exact ⟨h1, h2⟩
  · right
    rw [h1]

/-- a store into the variable of the document's disk -/
theorem dd_frame {W w w1 w2 : World} {n gd gs Br gr m : Nat} {G : Gh} (h : DD W w n gd gs Br gr m G) {b1 b2 : Nat → Prop} (k1 : KeptB w w1 b1) (k2 : KeptB w1 w2 b2) (h1 : ∀ k, b1 k → W.heap.size ≤ k) (h2 : ∀ k, b2 k → W.heap.size ≤ k) : Below W.heap.size W w2 := by
  have b1' := keptB_below k1 h.bl.size h1
  have b2' := keptB_below k2 (Nat.le_trans h.bl.size k1.b0.size) h2
  exact (h.bl.trans b1').trans b2'

theorem bt_next (tl : List Tn) (p : Tn) : nextB ((tl.length % 64 : Nat) : Int) = (((tl ++ [p]).length % 64 : Nat) : Int) := by
  unfold nextB
  rw [List.length_append, List.length_singleton]
  split <;> omega
theorem dd_write1 {W w w1 : World} {n gd gs Br gr m : Nat} {G : Gh} {a : Int} {t : ByteArray} {e1 : Ending} (h : DD W w n gd gs Br gr m G) (hW : WriteR w w1 W.heap.size gd gs G.bit G.left G.down G.ss a t e1) :
    ∃ v, e1 = .returned v ∧ RefD w1 Br gr G.kl G.nl G.tl G.fuse G.down G.kv G.nv G.tv := by
  rcases hW with ⟨-, rfl, hb⟩ | ⟨-, -, rfl, hk, -⟩ | ⟨i, hi, ht, wv', -, -, -, rfl, hk, -, -⟩
  · exact ⟨_, rfl, refD_below h.rd hb⟩
  · exact ⟨_, rfl, refD_kept h.rd hk (fun k hr hd => h.sep k hd hr)⟩
  · exact ⟨_, rfl, refD_kept h.rd hk (fun k hr hd => h.sep k hd hr)⟩
theorem dd_write2 {W w w1 w2 : World} {n gd gs Br gr m : Nat} {G : Gh} {a : Int} {t : ByteArray} {v : Value} {e2 : Ending} (h : DD W w n gd gs Br gr m G) (hW : WriteR w w1 W.heap.size gd gs G.bit G.left G.down G.ss a t (.returned v))
    (hR : RWriteR w1 w2 Br gr G.kl G.nl G.tl G.fuse G.down G.kv G.nv G.tv a t e2) : ∃ f G', e2 = .returned (.int .i64 f) ∧ Alike v f ∧ DD W w2 n gd gs Br gr (m + 1) G' := by
  have hls := h.rel.ls
  have hln := h.rel.ln
  have hup := up_iff h.rel
  rcases hW with ⟨ho, hv, hb⟩ | ⟨hi0, hdn, hv, hk, hd⟩ | ⟨i, hi, ht, wv', hai, hdn, hl0, hv, hk, hob, hd⟩
  · rcases hR with ⟨-, rfl, hb2⟩ | ⟨hc, -⟩ | ⟨i, tv', hi, ht, hai, -⟩
    · cases hv
      exact ⟨1, G, rfl, .inr ⟨1, by decide, rfl, rfl⟩, dd_mono (dd_below (dd_below h hb) hb2) (by omega)⟩
    · exact absurd hc (by rw [hln, ← hls]; exact ho)
    · exact absurd ⟨by omega, by omega, ht⟩ ho
  · rcases hR with ⟨ho, -⟩ | ⟨-, hdn2, rfl, hk2, hd2⟩ | ⟨i, tv', hi, ht, hai, hdn2, hf, -⟩
    · exact absurd hi0 (by rw [hls, ← hln]; exact ho)
    · cases hv
      refine ⟨7, { G with down := true, fuse := if G.down then G.fuse else -1 }, rfl, .inr ⟨7, by decide, rfl, rfl⟩, dd_frame h hk hk2 (fun k e => (dskG_lt h.dk e).1) (fun k e => by have := h.rd.b1; have := h.hB; omega), ?_, hd2, h.hB, h.sep, ?_⟩
      · exact dskG_kept hd hk2 (fun k e e2 => h.sep k e (.inl e2))
      · refine ⟨hls, h.rel.lk, hln, h.rel.bt, by have := h.rel.lt; show G.tl.length ≤ m + 1; omega, h.rel.tin, fun s hs => by have := h.rel.lw s hs; omega, h.rel.ll, ?_, fun e => (by cases e), h.rel.now, h.rel.fall⟩
        have := h.rel.lf
        show (if G.down then G.fuse else -1) ≤ _
        split <;> omega
    · rw [hdn2] at hup hdn
      rcases hup.1 hdn with e | e
      · cases e
      · exact absurd e hf
  · rcases hR with ⟨ho, -⟩ | ⟨-, hdn2, -⟩ | ⟨i2, tv', hi2, ht2, hai2, hdn2, hf0, rfl, hk2, hob2, hd2⟩
    · exact absurd ⟨by omega, by omega, ht⟩ ho
    · rcases hup.2 hdn2 with e | e
      · rw [hdn] at e; cases e
      · exact absurd e hl0
    · cases hv
      have hii : i2 = i := by omega
      subst hii
      have hgt := own_at (hd2.tr)
      have hbw : ∀ k, dskBad gd gs (G.ss.set i2 ⟨G.ss[i2].kept, G.ss[i2].ws.filter (fun p => !(p.1 == G.bit)) ++ [(G.bit, pad t ht)], wv'⟩) k → dskBad gd gs G.ss k ∨ (w.heap.size ≤ k ∧ k < w1.heap.size) := fun k hkb => by
        have hlt := (dskG_lt hd hkb).2
        rcases hkb with e | e | ⟨s, hs, e⟩
        · exact .inl (.inl e)
        · exact .inl (.inr (.inl e))
        · rcases List.mem_or_eq_of_mem_set hs with hs | rfl
          · exact .inl (.inr (.inr ⟨s, hs, e⟩))
          · rcases hob with e2 | ⟨k2, e2, hlt2⟩
            · exact .inl (.inr (.inr ⟨G.ss[i2], List.getElem_mem hi, by rw [← e2]; exact e⟩))
            · have e3 : wv'.ownBlock = some k := e
              rw [e2] at e3
              have := Option.some.inj e3
              exact .inr ⟨by omega, hlt⟩
      have hbr : ∀ k, refBad gr G.kv G.nv tv' k → refBad gr G.kv G.nv G.tv k ∨ w1.heap.size ≤ k := fun k hkb => by
        rcases hkb with e | e | e | e
        · exact .inl (.inl e)
        · exact .inl (.inr (.inl e))
        · exact .inl (.inr (.inr (.inl e)))
        · rcases hob2 with e2 | ⟨k2, e2, hlt2⟩
          · exact .inl (.inr (.inr (.inr (by rw [← e2]; exact e))))
          · rw [e2] at e
            have := Option.some.inj e
            exact .inr (by omega)
      have h12 := hk.b0.size
      have hsep : ∀ k, dskBad gd gs (G.ss.set i2 ⟨G.ss[i2].kept, G.ss[i2].ws.filter (fun p => !(p.1 == G.bit)) ++ [(G.bit, pad t ht)], wv'⟩) k → ¬ refBad gr G.kv G.nv tv' k := fun k hd9 hr9 => by
        rcases hbw k hd9 with e | ⟨e, e'⟩
        · rcases hbr k hr9 with e2 | e2
          · exact h.sep k e e2
          · have := (dskG_lt h.dk e).2
            omega
        · rcases hbr k hr9 with e2 | e2
          · have := (refBad_lt h.rd e2).2
            omega
          · omega
      refine ⟨0, { G with bit := nextB G.bit, left := stepL G.left, down := false, ss := G.ss.set i2 ⟨G.ss[i2].kept, G.ss[i2].ws.filter (fun p => !(p.1 == G.bit)) ++ [(G.bit, pad t ht)], wv'⟩, nl := G.nl.set i2 (padT t), tl := G.tl ++ [((i2 : Int), padT t)], fuse := stepL G.fuse, tv := tv' }, rfl, .inl ⟨rfl, rfl⟩, dd_frame h hk hk2 (fun k e => (dskG_lt h.dk e).1) (fun k e => ?_), ?_, hd2, h.hB, hsep, ?_⟩
      · have h9 : refBad gr G.kv G.nv G.tv k := by
          rcases e with e | e | e
          · exact .inl e
          · exact .inr (.inr (.inl e))
          · exact .inr (.inr (.inr e))
        have := (refBad_lt h.rd h9).1
        have := h.hB
        omega
      · refine dskG_kept hd hk2 (fun k e e2 => ?_)
        have h9 : refBad gr G.kv G.nv G.tv k := by
          rcases e2 with e2 | e2 | e2
          · exact .inl e2
          · exact .inr (.inr (.inl e2))
          · exact .inr (.inr (.inr e2))
        rcases hbw k e with e3 | ⟨e3, -⟩
        · exact h.sep k e3 h9
        · have := (refBad_lt h.rd h9).2
          omega
      · have hin : i2 < n := by omega
        refine ⟨by show (List.set _ _ _).length = n; rw [List.length_set]; exact hls, h.rel.lk, by show (List.set _ _ _).length = n; rw [List.length_set]; exact hln, ?_, ?_, ?_, ?_, step_le _ h.rel.ll, step_le _ h.rel.lf, fun _ => stepL_up h.rel hdn, ?_, ?_⟩
        · show nextB G.bit = _
          rw [h.rel.bt]
          exact bt_next _ _
        · show (G.tl ++ [_]).length ≤ m + 1
          have := h.rel.lt
          simp
          omega
        · intro p hp
          rcases List.mem_append.1 hp with hp | hp
          · exact h.rel.tin p hp
          · rw [List.mem_singleton.1 hp]
            exact ⟨by show 0 ≤ (i2 : Int); omega, by show (i2 : Int) < n; omega⟩
        · intro s hs
          rcases List.mem_or_eq_of_mem_set hs with hs | rfl
          · have := h.rel.lw s hs; omega
          · have h9 := h.rel.lw G.ss[i2] (List.getElem_mem hi)
            have hfl := List.length_filter_le (fun p : Wr => !(p.1 == G.bit)) G.ss[i2].ws
            show (G.ss[i2].ws.filter (fun p : Wr => !(p.1 == G.bit)) ++ [(G.bit, pad t ht)]).length ≤ m + 1
            rw [List.length_append, List.length_singleton]
            omega
        · intro j s u hs hu
          have hs : (G.ss.set i2 ⟨G.ss[i2].kept, G.ss[i2].ws.filter (fun p => !(p.1 == G.bit)) ++ [(G.bit, pad t ht)], wv'⟩)[j]? = some s := hs
          have hu : (G.nl.set i2 (padT t))[j]? = some u := hu
          by_cases e : i2 = j
          · subst e
            rw [List.getElem?_set_self hi] at hs
            rw [List.getElem?_set_self hi2] at hu
            cases hs
            cases hu
            rw [textS_write]
            exact pad_is t ht
          · rw [List.getElem?_set_ne e] at hs hu
            exact h.rel.now j s u hs hu
        · intro keep j s u hs hu
          have hs : (G.ss.set i2 ⟨G.ss[i2].kept, G.ss[i2].ws.filter (fun p => !(p.1 == G.bit)) ++ [(G.bit, pad t ht)], wv'⟩)[j]? = some s := hs
          have hu : (rk keep G.kl (G.tl ++ [((i2 : Int), padT t)]) (G.tl ++ [((i2 : Int), padT t)]).length)[j]? = some u := hu
          rw [rk_next, ← h.rel.bt] at hu
          have hkl : i2 < (rk keep G.kl G.tl G.tl.length).length := by
            rw [rk_len]
            have := h.rel.lk
            omega
          have e9 : ((i2 : Int), padT t).1.toNat = i2 := by simp
          by_cases e : i2 = j
          · subst e
            rw [List.getElem?_set_self hi] at hs
            cases hs
            show strB (settleK keep G.ss[i2].kept (G.ss[i2].ws.filter (fun p => !(p.1 == G.bit)) ++ [(G.bit, pad t ht)])) = _
            rw [settleK_write]
            by_cases hkb : kb keep G.bit = true
            · rw [if_pos hkb] at hu ⊢
              rw [e9, List.getElem?_set_self hkl] at hu
              cases hu
              exact pad_is t ht
            · rw [if_neg hkb] at hu ⊢
              exact h.rel.fall keep i2 _ u (List.getElem?_eq_getElem hi) hu
          · rw [List.getElem?_set_ne e] at hs
            refine h.rel.fall keep j s u hs ?_
            by_cases hkb : kb keep G.bit = true
            · rw [if_pos hkb, e9, List.getElem?_set_ne e] at hu
              exact hu
            · rw [if_neg hkb] at hu
              exact hu
end Go.Proofs.Ytjiopjdbifcfkac
