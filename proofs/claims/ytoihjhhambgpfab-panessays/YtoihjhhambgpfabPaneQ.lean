/- What the law PanesSays keeps in memory: the table, what was added, the map of what was told. Conditions: as named. -/
import Derived.Test.YtoihjhhambgpfabPaneP
namespace Go.Proofs.Ytoihjhhambgpfab
open Go.ChangeShapes Go.WideShapes Go.ChangeAt Go.RowKit
set_option linter.unusedVariables false
set_option linter.unusedSimpArgs false

structure PInv (w wr : World) (B gt gm : Nat) (x tv av : Value) (ps : List Pn) (al : List Ad) (K : List K3) : Prop where
  bl : Below w.heap.size w wr
  sz : B ≤ wr.heap.size
  tb : BlkAt wr gt [x]
  mp : MapR wr gm K
  tr : TblR wr tv ps
  ar : wr.ownsRow B 89 6 av al.length (rowOf cellsAd al)
  f1 : FromB B tv
  f2 : ∀ p ∈ ps, FromB B p.av
  sp : ∀ k, av.ownBlock = some k → tv.ownBlock ≠ some k ∧ ∀ p ∈ ps, p.av.ownBlock ≠ some k
  g1 : w.heap.size ≤ gt ∧ gt < B
  g2 : w.heap.size ≤ gm ∧ gm < B
  g3 : gt ≠ gm
theorem tblR_kept {w w' : World} {v : Value} {ps : List Pn} {bad : Nat → Prop} (h : TblR w v ps) (hk : KeptB w w' bad) (h1 : ∀ k, v.ownBlock = some k → ¬ bad k) (h2 : ∀ p ∈ ps, ∀ k, p.av.ownBlock = some k → ¬ bad k) : TblR w' v ps :=
  ⟨rowS_kept h.row hk h1, fun p hp => rowS_kept (h.acc p hp) hk (h2 p hp)⟩
theorem rowS_lt {w : World} {v : Value} {size n : Nat} {xs : List Value} (h : RowS w v size n xs) {k : Nat} (hk : v.ownBlock = some k) : k < w.heap.size := by
  obtain ⟨_, h⟩ := h
  rcases h with ⟨h1, _⟩ | ⟨g, off, cap, h1, _, _, h4, _⟩
  · rw [h1] at hk
    simp [Value.ownBlock] at hk
  · rw [h1] at hk
    have : g = k := by simpa [Value.ownBlock] using hk
    omega
section
variable {w wr w' : World} {B gt gm : Nat} {x tv av : Value} {ps : List Pn} {al : List Ad} {K : List K3}
theorem pinv_below (h : PInv w wr B gt gm x tv av ps al K) (hb : Below wr.heap.size wr w') : PInv w w' B gt gm x tv av ps al K :=
  ⟨h.bl.trans (hb.mono h.bl.size), Nat.le_trans h.sz hb.size, blk_below h.tb hb h.tb.lt, mapR_below h.mp hb, tblR_below h.tr hb, own_keep h.ar hb (Nat.le_refl _), h.f1, h.f2, h.sp, h.g1, h.g2, h.g3⟩
theorem pinv_table {u : Value} {qs : List Pn} (h : PInv w wr B gt gm x tv av ps al K) (hb : Below wr.heap.size wr w') (ht : TblR w' u qs) (hu : FromB wr.heap.size u) (hq : ∀ q ∈ qs, FromB wr.heap.size q.av ∨ ∃ p ∈ ps, p.av = q.av) : PInv w w' B gt gm x u av qs al K := by
  have h0 := pinv_below h hb
  have hlt := fun k (hk : av.ownBlock = some k) => (own_at h.ar k hk).2
  refine ⟨h0.bl, h0.sz, h0.tb, h0.mp, ht, h0.ar, fun k hk => Nat.le_trans h.sz (hu k hk), fun q hq2 k hk => ?_, fun k hk => ⟨fun e => ?_, fun q hq2 e => ?_⟩, h.g1, h.g2, h.g3⟩
  · rcases hq q hq2 with h1 | ⟨p, hp, e⟩
    · exact Nat.le_trans h.sz (h1 k hk)
    · exact h.f2 p hp k (by rw [e]; exact hk)
  · have := hu k e
    have := hlt k hk
    omega
  · rcases hq q hq2 with h1 | ⟨p, hp, e2⟩
    · have := h1 k e
      have := hlt k hk
      omega
    · exact (h.sp k hk).2 p hp (by rw [e2]; exact e)
theorem pinv_kept {bad : Nat → Prop} (h : PInv w wr B gt gm x tv av ps al K) (hk : KeptB wr w' bad) (hlo : ∀ k, bad k → w.heap.size ≤ k ∧ (k < B ∨ wr.heap.size ≤ k)) (y : Value) (ht : BlkAt w' gt [y]) {K' : List K3} (hm : MapR w' gm K') : PInv w w' B gt gm y tv av ps al K' := by
  have hB : ∀ k, B ≤ k → k < wr.heap.size → ¬ bad k := fun k hk h2 hb => by have := (hlo k hb).2; omega
  refine ⟨h.bl.trans (keptB_below hk h.bl.size (fun k hb => (hlo k hb).1)), Nat.le_trans h.sz hk.b0.size, ht, hm, tblR_kept h.tr hk (fun k e => hB k (h.f1 k e) (rowS_lt h.tr.row e)) (fun p hp k e => hB k (h.f2 p hp k e) (accR_lt (h.tr.acc p hp) e)), own_kept h.ar hk (fun k e => hB k (own_at h.ar k e).1 (own_at h.ar k e).2), h.f1, h.f2, h.sp, h.g1, h.g2, h.g3⟩
theorem pinv_store (h : PInv w wr B gt gm x tv av ps al K) (y : Value) : PInv w (wr.setCell ⟨gt, 0, none⟩ y) B gt gm y tv av ps al K := by
  have hk := keptB_set (keptB_of_below (bad := fun k => k = gt) (Below.refl wr.heap.size wr)) rfl 0 y
  refine pinv_kept h hk (fun k e => ?_) y (blk_set h.tb 0 y (by simp)) (mapR_kept h.mp hk (fun e => h.g3 e.symm))
  have := h.g1
  omega
theorem pinv_map (h : PInv w wr B gt gm x tv av ps al K) (hk : KeptB wr w' (fun k => k = gm)) {K' : List K3} (hm : MapR w' gm K') : PInv w w' B gt gm x tv av ps al K' := by
  refine pinv_kept h hk (fun k e => ?_) x (blk_kept h.tb hk h.g3) hm
  have := h.g2
  omega
theorem pinv_append {w1 w2 : World} {av' : Value} (a : Ad) (h : PInv w wr B gt gm x tv av ps al K) (hb : Below wr.heap.size wr w1) (ho : w2.ownsRow B 89 6 av' (al.length + 1) (rowOf cellsAd al ++ cellsAd a)) (hg : w1.grownBy w2 av.ownBlock)
    (hob : av'.ownBlock = av.ownBlock ∨ av'.ownBlock = some w1.heap.size) : PInv w w2 B gt gm x tv av' ps (al ++ [a]) K ∧ KeptB wr w2 (fun k => av.ownBlock = some k) := by
  have hk : KeptB wr w2 (fun k => av.ownBlock = some k) := keptB_grown (keptB_of_below hb) hg (fun k hk _ => hk)
  have hsz := hb.size
  have hlo := fun k (e : av.ownBlock = some k) => own_at h.ar k e
  have hne : ∀ k, k < wr.heap.size → av.ownBlock ≠ some k → av'.ownBlock ≠ some k := fun k hk h1 h2 => by
    rcases hob with e | e
    · rw [e] at h2
      exact h1 h2
    · rw [e] at h2
      have := Option.some.inj h2
      omega
  refine ⟨⟨h.bl.trans (keptB_below hk h.bl.size (fun k e => by have := (hlo k e).1; have := h.g1; omega)), Nat.le_trans h.sz hk.b0.size, blk_kept h.tb hk (fun e => by have := (hlo gt e).1; have := h.g1; omega), mapR_kept h.mp hk (fun e => by have := (hlo gm e).1; have := h.g2; omega),
    tblR_kept h.tr hk (fun k e hb => (h.sp k hb).1 e) (fun p hp k e hb => (h.sp k hb).2 p hp e), ?_, h.f1, h.f2, fun k e => ⟨fun e2 => ?_, fun p hp e2 => ?_⟩, h.g1, h.g2, h.g3⟩, hk⟩
  · rw [List.length_append, rowOf_app, rowOf_one]
    exact ho
  · exact hne k (rowS_lt h.tr.row e2) (fun e3 => (h.sp k e3).1 e2) e
  · exact hne k (accR_lt (h.tr.acc p hp) e2) (fun e3 => (h.sp k e3).2 p hp e2) e
theorem pinv_left {lv : Value} {ll : List Ad} (h : PInv w wr B gt gm x tv av ps al K) (hb : Below wr.heap.size wr w') (ho : w'.ownsRow wr.heap.size 89 6 lv ll.length (rowOf cellsAd ll)) : PInv w w' B gt gm x tv lv ps ll K := by
  have h0 := pinv_below h hb
  refine ⟨h0.bl, h0.sz, h0.tb, h0.mp, h0.tr, owns_baseG ho h.sz, h0.f1, h0.f2, fun k e => ⟨fun e2 => ?_, fun p hp e2 => ?_⟩, h.g1, h.g2, h.g3⟩
  · have h1 := (own_at ho k e).1
    have h2 := rowS_lt h.tr.row e2
    omega
  · have h1 := (own_at ho k e).1
    have h2 := accR_lt (h.tr.acc p hp) e2
    omega
end
theorem makeMap3 (w : World) : (Instr.makeMap 87 none).run Try.prog w = .ok (.map (some w.heap.size)) (w.alloc (.map #[] 0)) := by kernel_rfl
theorem below_alloc (w : World) (o : Obj) : Below w.heap.size w (w.alloc o) := (Below.refl _ _).alloc (Nat.le_refl _) o
theorem pinv_start {w wr : World} (h : Below w.heap.size w wr) : PInv w ((wr.alloc (.cells #[.slice none 0 0] 86)).alloc (.map #[] 0)) (wr.heap.size + 2) wr.heap.size (wr.heap.size + 1) (.slice none 0 0) (.slice none 0 0) (.slice none 0 0) [] [] [] := by
  have s1 : (wr.alloc (.cells #[.slice none 0 0] 86)).heap.size = wr.heap.size + 1 := by simp
  have A0 := blk_below (blk_alloc wr [.slice none 0 0] 86 (by simp)) (below_alloc _ (.map #[] 0)) (by simp)
  have hsz := h.size
  refine ⟨(h.alloc h.size _).alloc (by rw [s1]; omega) _, by simp, A0, ⟨#[], 0, ?_, ⟨rfl, fun e he => by simp at he, fun e he => by simp at he, by simp, List.nodup_nil⟩⟩, ⟨⟨rfl, .inl ⟨rfl, rfl⟩⟩, fun p hp => by simp at hp⟩, World.ownsRow_nil _ _ _ _, fun k hk => by simp [Value.ownBlock] at hk, fun p hp => by simp at hp, fun k hk => by simp [Value.ownBlock] at hk, by omega, by omega, by omega⟩
  rw [← s1]
  exact heap_alloc_new _ _
end Go.Proofs.Ytoihjhhambgpfab
