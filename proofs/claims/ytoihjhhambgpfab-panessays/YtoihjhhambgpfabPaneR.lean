/- What stands behind a table's Add in the law PanesSays. Conditions: as named. -/
import Derived.Test.YtoihjhhambgpfabPaneQ
namespace Go.Proofs.Ytoihjhhambgpfab
open Go.ChangeShapes Go.WideShapes Go.ChangeAt Go.RowKit
set_option linter.unusedVariables false
set_option linter.unusedSimpArgs false

theorem pp_small {ks : List Int} {al : List Ad} {ps : List Pn} {K : List K3} (h : PP ks al ps K) : ps.length ≤ al.length := by
  rw [← many_is h]
  exact fk_len al al.length
theorem slice_len {w : World} {v : Value} {size n m : Nat} {xs : List Value} (h : RowS w v size n xs) (hn : n = m) : ∃ ao cap, v = .slice ao m cap := by
  subst hn
  exact rowS_shape h
structure AddR (w w6 wx : World) (B gt gm : Nat) (x av u : Value) (ks : List Int) (al : List Ad) (K : List K3) (a : Ad) (F : List Ad) (b : Bool) (ps1 : List Pn) (was : Pn) (gn gw : Nat) : Prop where
  bl : Below w6.heap.size w6 wx
  pi : PInv w wx B gt gm x u av ps1 al K
  pq : PP ks (al ++ [a]) ps1 K
  bn : BlkAt wx gn [u]
  bw : BlkAt wx gw (cellsPn was)
  us : ∃ ao n cap, u = .slice ao n cap
  sh : ∃ ao cap, was.av = .slice ao was.ac.length cap
  ac : AccR wx was
  yes : b = true → 0 < F.length ∧ was.st = a.st ∧ was.k = a.k ∧ was.n = a.n ∧ was.ac = accsOf ks F ∧ was.told = decide (keyA a ∈ K)
  no : b = false → F.length = 0 ∧ was = ⟨0, 0, 0, false, [], .slice none 0 0⟩
  hn : w6.heap.size ≤ gn
  hw : w6.heap.size ≤ gw
theorem addR_mk {w w6 w7 : World} {B gt gm : Nat} {x tv av u : Value} {ks : List Int} {al : List Ad} {K : List K3} {a : Ad} {F : List Ad} {b : Bool} {ps ps1 : List Pn} {was : Pn} (h : PInv w w6 B gt gm x tv av ps al K) (hb : Below w6.heap.size w6 w7)
    (ht : TblR w7 u ps1) (hu : FromB w6.heap.size u) (hq : ∀ q ∈ ps1, FromB w6.heap.size q.av ∨ ∃ p ∈ ps, p.av = q.av) (hp : PP ks (al ++ [a]) ps1 K) (hacc : AccR w7 was)
    (yes : b = true → 0 < F.length ∧ was.st = a.st ∧ was.k = a.k ∧ was.n = a.n ∧ was.ac = accsOf ks F ∧ was.told = decide (keyA a ∈ K)) (no : b = false → F.length = 0 ∧ was = ⟨0, 0, 0, false, [], .slice none 0 0⟩) :
    AddR w w6 ((w7.alloc (.cells #[u] 86)).alloc (.cells #[.int .i64 was.st, .int .i64 was.k, .int .i64 was.n, was.av, .bool was.told] 94)) B gt gm x av u ks al K a F b ps1 was w7.heap.size (w7.heap.size + 1) := by
  have s1 : (w7.alloc (.cells #[u] 86)).heap.size = w7.heap.size + 1 := by simp
  have b1 := below_alloc w7 (.cells #[u] 86)
  have b2 := below_alloc (w7.alloc (.cells #[u] 86)) (.cells #[.int .i64 was.st, .int .i64 was.k, .int .i64 was.n, was.av, .bool was.told] 94)
  have b12 : Below w7.heap.size w7 ((w7.alloc (.cells #[u] 86)).alloc (.cells #[.int .i64 was.st, .int .i64 was.k, .int .i64 was.n, was.av, .bool was.told] 94)) := b1.trans (b2.mono b1.size)
  have A1 := blk_alloc (w7.alloc (.cells #[u] 86)) (cellsPn was) 94 (by simp [cellsPn])
  rw [s1] at A1
  have hsz := hb.size
  obtain ⟨ao, cap, e⟩ := rowS_shape ht.row
  obtain ⟨ao2, cap2, e2⟩ := rowS_shape hacc
  exact ⟨hb.trans (b12.mono hb.size), pinv_below (pinv_table h hb ht hu hq) b12, hp, blk_below (blk_alloc w7 [u] 86 (by simp)) b2 (by simp), A1, ⟨ao, _, cap, e⟩, ⟨ao2, cap2, e2⟩, accR_below hacc b12, yes, no, by omega, by omega⟩
theorem ofK_pos {ks : List Int} {al : List Ad} {ps : List Pn} {K : List K3} (h : PP ks al ps K) {p : Pn} (hp : p ∈ ps) : 0 < (ofK al (keyP p)).length := by
  obtain ⟨a, ha, he⟩ := h.k2 p hp
  exact List.length_pos_of_mem (ofK_mem.2 ⟨ha, he⟩)
theorem ofK_none {ks : List Int} {al : List Ad} {ps : List Pn} {K : List K3} (h : PP ks al ps K) {q : K3} (hq : q ∉ ps.map keyP) : (ofK al q).length = 0 := by
  rw [List.length_eq_zero_iff, List.eq_nil_iff_forall_not_mem]
  intro a ha
  obtain ⟨h1, h2⟩ := ofK_mem.1 ha
  exact hq (h2 ▸ h.k1 a h1)
theorem key_split {p : Pn} {st k n : Int} (h : keyP p = (st, k, n)) : p.st = st ∧ p.k = k ∧ p.n = n := ⟨congrArg (·.1) h, congrArg (·.2.1) h, congrArg (·.2.2) h⟩
theorem accR_nil (w : World) : AccR w ⟨0, 0, 0, false, [], .slice none 0 0⟩ := ⟨rfl, .inl ⟨rfl, rfl⟩⟩
theorem ofK_at {al : List Ad} {q : K3} {F : List Ad} (h : ofK al q = F) (h0 : 0 < F.length) : F[0].st = q.1 ∧ F[0].k = q.2.1 ∧ F[0].n = q.2.2 := by
  subst h
  have h1 := (ofK_mem.1 (List.getElem_mem h0)).2
  exact ⟨congrArg (·.1) h1, congrArg (·.2.1) h1, congrArg (·.2.2) h1⟩
/-- outOf of what was added to one window and key -/
theorem outOf_key (al : List Ad) (q : K3) (F : List Ad) (hF : ofK al q = F) (v : Value) (ks : List Int) (kv : Value) (w w' : World) (hb : Below w.heap.size w w') (hl : 0 < F.length) (hl2 : F.length ≤ 60) (hkl : ks.length ≤ 4) (hkk : ∀ k ∈ ks, 1 ≤ k ∧ k ≤ 5) (hr : RowG w' v 6 F.length (rowOf cellsAd F)) (hkv : RowG w kv 1 ks.length (ks.map (Value.int .i64)))
    (ha : ∀ a ∈ al, RowG w a.vv 2 a.vs.length (rowV a.vs) ∧ a.vs.length = ks.length) :
    Calls Try.prog 42 #[v, kv] w' fun e w'' => ∃ u, e = .returned (.agg #[.int .i64 q.1, .int .i64 q.2.1, .int .i64 q.2.2, u]) ∧ RowG w'' u 2 ks.length (rowV (outs F ks ks.length)) ∧ Below w'.heap.size w' w'' := by
  have h := outOf_any F v ks kv w' hl hl2 (by omega) hkk hr (rowG_below hkv hb) (fun a ha2 => by
    subst hF
    have h9 := ha a (ofK_mem.1 ha2).1
    exact ⟨rowG_below h9.1 hb, h9.2⟩)
  obtain ⟨h1, h2, h3⟩ := ofK_at hF hl
  rw [h1, h2, h3] at h
  exact h
/-- Out of a pane that has what was added -/
theorem out_key (p : Pn) (ks : List Int) (F : List Ad) (hp : p.ac = accsOf ks F) (w w' : World) (hb : Below w.heap.size w w') (hr : AccR w p) (hkl : ks.length ≤ 4) (hkk : ∀ k ∈ ks, 1 ≤ k ∧ k ≤ 5) :
    Calls Try.prog 41 #[aggP p] w' fun e w'' => ∃ u, e = .returned (.agg #[.int .i64 p.st, .int .i64 p.k, .int .i64 p.n, u]) ∧ RowG w'' u 2 ks.length (rowV (outs F ks ks.length)) ∧ Below w'.heap.size w' w'' := by
  have hl : p.ac.length = ks.length := by rw [hp, accs_len]
  refine (out_any p w' (by omega) (accR_below hr hb) (fun a ha => ?_)).mono ?_
  · rw [hp] at ha
    simp only [accsOf, List.mem_map, List.mem_range] at ha
    obtain ⟨i, hi, rfl⟩ := ha
    exact hkk (ks.getD i 0) (by simp [List.getD, hi])
  · rintro e w2 ⟨u, rfl, ho, hb2⟩
    have h9 := rowG_of_owns ho
    rw [hp, accs_out ks F hkk, accs_len] at h9
    exact ⟨u, rfl, h9, hb2⟩
theorem add_vals {w : World} {ks : List Int} {al l : List Ad} {ps : List Pn} {K : List K3} (h : PP ks al ps K) (hs : ∀ a ∈ al, a ∈ l) (ha : ∀ a ∈ l, RowG w a.vv 2 a.vs.length (rowV a.vs) ∧ a.vs.length ≤ maxLen) : ∀ a ∈ al, RowG w a.vv 2 a.vs.length (rowV a.vs) ∧ a.vs.length = ks.length :=
  fun a h1 => ⟨(ha a (hs a h1)).1, (h.vl a h1).1⟩
/-- what is told: none of it was, each ends up to the time, and they rise -/
theorem due_facts {ks : List Int} {al : List Ad} {ps T : List Pn} {K : List K3} {size up : Int} (h : PP ks al ps K) (hT : T.map keyP = (ps.filter (isDue size up)).map keyP) (q : Nat) (hq : q < T.length) :
    keyP T[q] ∉ K ++ (T.map keyP).take q ∧ T[q].st + size ≤ up ∧ (∀ r (hr : r < T.length), r < q → lexlt T[r].st T[r].k T[r].n T[q].st T[q].k T[q].n) ∧ -1000 ≤ T[q].st ∧ T[q].st ≤ 9999 := by
  have hD : T.map keyP = dueK size up ps := hT
  have hP : (T.map keyP).Pairwise lexK := by rw [hD]; exact due_nodup h.rise size up
  have hR : Rise T := (rise_map T).2 hP
  have hm : keyP T[q] ∈ dueK size up ps := by rw [← hD]; exact List.mem_map.2 ⟨_, List.getElem_mem hq, rfl⟩
  obtain ⟨p, hp, he⟩ := List.mem_map.1 hm
  obtain ⟨h1, h2⟩ := List.mem_filter.1 hp
  have hst : p.st = T[q].st := congrArg (·.1) he
  obtain ⟨a, ha, hka⟩ := h.k2 p h1
  have hb := (h.vl a ha).2
  have hsa : a.st = p.st := congrArg (·.1) hka
  simp only [isDue, Bool.and_eq_true, Bool.not_eq_true', decide_eq_true_eq] at h2
  refine ⟨fun hin => ?_, by omega, fun r hr hrq => List.pairwise_iff_getElem.1 hR r q hr hq hrq, by omega, by omega⟩
  rcases List.mem_append.1 hin with hin | hin
  · exact due_new h size up _ hm hin
  · obtain ⟨r, hr, e⟩ := List.mem_iff_getElem.1 hin
    have hr2 : r < q := by
      rw [List.length_take] at hr
      omega
    rw [List.getElem_take, List.getElem_map] at e
    exact absurd (rise_inj hR (by omega) hq e) (by omega)
theorem keys_next (T : List Pn) (q : Nat) (hq : q < T.length) : (T.map keyP).take (q + 1) = (T.map keyP).take q ++ [keyP T[q]] := by
  rw [take_one _ q (by simpa using hq), List.getElem_map]
end Go.Proofs.Ytoihjhhambgpfab
