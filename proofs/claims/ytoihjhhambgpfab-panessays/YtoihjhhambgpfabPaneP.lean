/- What the law PanesSays keeps, in plain terms: the panes of a table against what was added and what was told. Conditions: as named. -/
import Derived.Test.YtoihjhhambgpfabPaneF
import Derived.Test.YtoihjhhambgpfabPaneN
namespace Go.Proofs.Ytoihjhhambgpfab
open Go.ChangeShapes Go.WideShapes Go.ChangeAt Go.RowKit
set_option linter.unusedVariables false
set_option linter.unusedSimpArgs false

def keyA (a : Ad) : K3 := (a.st, a.k, a.n)
theorem isOf_iff (st k n : Int) (a : Ad) : isOf st k n a = true ↔ keyA a = (st, k, n) := by
  simp [isOf, keyA]
def ofK (al : List Ad) (q : K3) : List Ad := al.filter (isOf q.1 q.2.1 q.2.2)
theorem ofK_mem {al : List Ad} {q : K3} {a : Ad} : a ∈ ofK al q ↔ a ∈ al ∧ keyA a = q := by
  unfold ofK
  rw [List.mem_filter, isOf_iff]
theorem ofK_snoc_same (al : List Ad) (a : Ad) (q : K3) (h : keyA a = q) : ofK (al ++ [a]) q = ofK al q ++ [a] := by
  unfold ofK
  rw [List.filter_append]
  simp [(isOf_iff q.1 q.2.1 q.2.2 a).2 h]
theorem ofK_snoc_other (al : List Ad) (a : Ad) (q : K3) (h : keyA a ≠ q) : ofK (al ++ [a]) q = ofK al q := by
  have h1 : isOf q.1 q.2.1 q.2.2 a = false := by
    cases h2 : isOf q.1 q.2.1 q.2.2 a
    · rfl
    · exact absurd ((isOf_iff _ _ _ _).1 h2) h
  unfold ofK
  rw [List.filter_append]
  simp [h1]
def accAt (ks : List Int) (L : List Ad) (i : Nat) : Ac := ⟨ks.getD i 0, (gfold (ks.getD i 0) (col L i)).1, (gfold (ks.getD i 0) (col L i)).2.1, (gfold (ks.getD i 0) (col L i)).2.2⟩
def accsOf (ks : List Int) (L : List Ad) : List Ac := (List.range ks.length).map (accAt ks L)
theorem accs_len (ks : List Int) (L : List Ad) : (accsOf ks L).length = ks.length := by simp [accsOf]
theorem accs_nil (ks : List Int) : accsOf ks [] = ks.map newA := by
  apply List.ext_getElem?
  intro i
  simp only [accsOf, List.getElem?_map, List.getElem?_range']
  by_cases h : i < ks.length
  · rw [List.getElem?_range h, List.getElem?_eq_getElem h]
    simp [accAt, newA, gfold, col, h]
  · rw [List.getElem?_eq_none (by simpa using h), List.getElem?_eq_none (by simpa using h)]
    rfl
theorem accs_snoc (ks : List Int) (L : List Ad) (a : Ad) (ha : a.vs.length = ks.length) : accsOf ks (L ++ [a]) = addL (accsOf ks L) a.vs := by
  apply List.ext_getElem
  · simp [accsOf, addL, ha]
  · intro i h1 h2
    have hi : i < ks.length := by simpa [accsOf] using h1
    have hv : i < a.vs.length := by omega
    have hc : col (L ++ [a]) i = col L i ++ [a.vs[i]] := by simp [col, hv]
    simp only [accsOf, addL, List.getElem_map, List.getElem_zipWith, List.getElem_range]
    unfold accAt acAdd
    rw [hc, gfold_snoc]
theorem accs_kinds (ks : List Int) (L : List Ad) (hk : ∀ k ∈ ks, 1 ≤ k ∧ k ≤ 5) (hL : L.length ≤ 1000) : ∀ a ∈ accsOf ks L, 1 ≤ a.k ∧ a.k ≤ 5 ∧ 0 ≤ a.n ∧ a.n ≤ 1000 := by
  intro a ha
  simp only [accsOf, List.mem_map, List.mem_range] at ha
  obtain ⟨i, hi, rfl⟩ := ha
  have h1 := hk (ks.getD i 0) (by simp [List.getD, hi])
  have h2 := gfold_n (ks.getD i 0) (col L i)
  have h3 : (col L i).length = L.length := by simp [col]
  simp only [accAt]
  omega
theorem accs_out (ks : List Int) (L : List Ad) (hk : ∀ k ∈ ks, 1 ≤ k ∧ k ≤ 5) : (accsOf ks L).map acV = outs L ks ks.length := by
  unfold accsOf outs
  rw [List.map_map]
  apply List.map_congr_left
  intro i hi
  have hi : i < ks.length := List.mem_range.1 hi
  have h1 := hk (ks.getD i 0) (by simp [List.getD, hi])
  simp only [Function.comp, acV, accAt, outK]
  rw [← gval_is _ h1.1 h1.2]

def lexK (a b : K3) : Prop := lexlt a.1 a.2.1 a.2.2 b.1 b.2.1 b.2.2
theorem lexK_ne {a b : K3} (h : lexK a b) : a ≠ b := by
  intro e
  subst e
  unfold lexK lexlt at h
  omega
theorem rise_map (ps : List Pn) : Rise ps ↔ (ps.map keyP).Pairwise lexK := by
  unfold Rise
  rw [List.pairwise_map]
  rfl
theorem rise_same {ps qs : List Pn} (h : qs.map keyP = ps.map keyP) (hR : Rise ps) : Rise qs := by
  rw [rise_map] at hR ⊢
  rw [h]
  exact hR
theorem rise_nodup {ps : List Pn} (hR : Rise ps) : (ps.map keyP).Nodup := ((rise_map ps).1 hR).imp fun h => lexK_ne h
theorem rise_inj {ps : List Pn} (hR : Rise ps) {i j : Nat} (hi : i < ps.length) (hj : j < ps.length) (h : keyP ps[i] = keyP ps[j]) : i = j := by
  have hn := rise_nodup hR
  have h1 : (ps.map keyP)[i]'(by simpa using hi) = (ps.map keyP)[j]'(by simpa using hj) := by simpa using h
  exact (List.getElem_inj hn).1 h1
theorem rise_mem {ps : List Pn} (hR : Rise ps) {p q : Pn} (hp : p ∈ ps) (hq : q ∈ ps) (h : keyP p = keyP q) : p = q := by
  obtain ⟨i, hi, rfl⟩ := List.mem_iff_getElem.1 hp
  obtain ⟨j, hj, rfl⟩ := List.mem_iff_getElem.1 hq
  have := rise_inj hR hi hj h
  subst this
  rfl

structure PP (ks : List Int) (al : List Ad) (ps : List Pn) (K : List K3) : Prop where
  rise : Rise ps
  acs : ∀ p ∈ ps, p.ac = accsOf ks (ofK al (keyP p))
  told : ∀ p ∈ ps, p.told = decide (keyP p ∈ K)
  k1 : ∀ a ∈ al, keyA a ∈ ps.map keyP
  k2 : ∀ p ∈ ps, ∃ a ∈ al, keyA a = keyP p
  k3 : ∀ k ∈ K, k ∈ ps.map keyP
  vl : ∀ a ∈ al, a.vs.length = ks.length ∧ -1000 ≤ a.st ∧ a.st ≤ 9999
theorem pp_start (ks : List Int) : PP ks [] [] [] := ⟨List.Pairwise.nil, fun p hp => by simp at hp, fun p hp => by simp at hp, fun a ha => by simp at ha, fun p hp => by simp at hp, fun k hk => by simp at hk, fun a ha => by simp at ha⟩
theorem pp_st {ks : List Int} {al : List Ad} {ps : List Pn} {K : List K3} (h : PP ks al ps K) : ∀ p ∈ ps, -100000 ≤ p.st ∧ p.st ≤ 100000 := fun p hp => by
  obtain ⟨a, ha, he⟩ := h.k2 p hp
  have h1 := (h.vl a ha).2
  have h2 : a.st = p.st := congrArg (·.1) he
  omega
theorem pp_len {ks : List Int} {al : List Ad} {ps : List Pn} {K : List K3} (h : PP ks al ps K) : ∀ p ∈ ps, p.ac.length = ks.length := fun p hp => by rw [h.acs p hp, accs_len]
theorem pp_old {ks : List Int} {al : List Ad} {ps : List Pn} {K : List K3} (h : PP ks al ps K) (a : Ad) (ha : a.vs.length = ks.length ∧ -1000 ≤ a.st ∧ a.st ≤ 9999) (j : Nat) (hj : j < ps.length) (hk : keyP ps[j] = keyA a) (av : Value) :
    PP ks (al ++ [a]) (ps.set j ⟨a.st, a.k, a.n, ps[j].told, addL ps[j].ac a.vs, av⟩) K := by
  have hm : (ps.set j ⟨a.st, a.k, a.n, ps[j].told, addL ps[j].ac a.vs, av⟩).map keyP = ps.map keyP := by
    rw [List.map_set]
    have e : keyP ⟨a.st, a.k, a.n, ps[j].told, addL ps[j].ac a.vs, av⟩ = keyP ps[j] := hk.symm
    rw [e]
    exact List.ext_getElem? fun i => by
      rw [List.getElem?_set]
      split
      · rename_i e2
        subst e2
        simp [hj]
      · rfl
  have hcase : ∀ p ∈ ps.set j ⟨a.st, a.k, a.n, ps[j].told, addL ps[j].ac a.vs, av⟩, p = ⟨a.st, a.k, a.n, ps[j].told, addL ps[j].ac a.vs, av⟩ ∨ (p ∈ ps ∧ keyP p ≠ keyA a) := fun p hp => by
    obtain ⟨i, hi, rfl⟩ := List.mem_iff_getElem.1 hp
    have hi2 : i < ps.length := by simpa using hi
    by_cases e : j = i
    · subst e
      exact .inl (by simp)
    · refine .inr ⟨by rw [List.getElem_set_ne e]; exact List.getElem_mem _, ?_⟩
      rw [List.getElem_set_ne e, ← hk]
      exact fun e2 => e (rise_inj h.rise hi2 hj e2).symm
  refine ⟨rise_same hm h.rise, fun p hp => ?_, fun p hp => ?_, fun b hb => ?_, fun p hp => ?_, fun k hk2 => by rw [hm]; exact h.k3 k hk2, fun b hb => ?_⟩
  · rcases hcase p hp with rfl | ⟨h1, h2⟩
    · have e : keyP (⟨a.st, a.k, a.n, ps[j].told, addL ps[j].ac a.vs, av⟩ : Pn) = keyA a := rfl
      rw [e, ofK_snoc_same al a _ rfl, accs_snoc _ _ _ ha.1, ← hk, ← h.acs ps[j] (List.getElem_mem hj)]
    · rw [ofK_snoc_other al a _ (fun e => h2 e.symm)]
      exact h.acs p h1
  · rcases hcase p hp with rfl | ⟨h1, h2⟩
    · have e : keyP (⟨a.st, a.k, a.n, ps[j].told, addL ps[j].ac a.vs, av⟩ : Pn) = keyP ps[j] := hk.symm
      rw [e]
      exact h.told ps[j] (List.getElem_mem hj)
    · exact h.told p h1
  · rw [hm]
    rcases List.mem_append.1 hb with hb | hb
    · exact h.k1 b hb
    · rw [List.mem_singleton.1 hb, ← hk]
      exact List.mem_map.2 ⟨_, List.getElem_mem hj, rfl⟩
  · rcases hcase p hp with rfl | ⟨h1, h2⟩
    · exact ⟨a, by simp, rfl⟩
    · obtain ⟨b, hb, he⟩ := h.k2 p h1
      exact ⟨b, by simp [hb], he⟩
  · rcases List.mem_append.1 hb with hb | hb
    · exact h.vl b hb
    · rw [List.mem_singleton.1 hb]
      exact ha
theorem pp_new {ks : List Int} {al : List Ad} {ps : List Pn} {K : List K3} (h : PP ks al ps K) (a : Ad) (ha : a.vs.length = ks.length ∧ -1000 ≤ a.st ∧ a.st ≤ 9999) (hno : keyA a ∉ ps.map keyP) (i : Nat) (av : Value)
    (hR : Rise (ps.take i ++ ⟨a.st, a.k, a.n, false, addL (ks.map newA) a.vs, av⟩ :: ps.drop i)) :
    PP ks (al ++ [a]) (ps.take i ++ ⟨a.st, a.k, a.n, false, addL (ks.map newA) a.vs, av⟩ :: ps.drop i) K := by
  have hcase : ∀ p ∈ ps.take i ++ ⟨a.st, a.k, a.n, false, addL (ks.map newA) a.vs, av⟩ :: ps.drop i, p = ⟨a.st, a.k, a.n, false, addL (ks.map newA) a.vs, av⟩ ∨ (p ∈ ps ∧ keyP p ≠ keyA a) := fun p hp => by
    have hin : ∀ p ∈ ps, keyP p ≠ keyA a := fun p hp e => hno (by rw [← e]; exact List.mem_map.2 ⟨p, hp, rfl⟩)
    rcases List.mem_append.1 hp with hp | hp
    · exact .inr ⟨List.mem_of_mem_take hp, hin p (List.mem_of_mem_take hp)⟩
    · rcases List.mem_cons.1 hp with hp | hp
      · exact .inl hp
      · exact .inr ⟨List.mem_of_mem_drop hp, hin p (List.mem_of_mem_drop hp)⟩
  have hback : ∀ p ∈ ps, p ∈ ps.take i ++ ⟨a.st, a.k, a.n, false, addL (ks.map newA) a.vs, av⟩ :: ps.drop i := fun p hp => by
    rw [← List.take_append_drop i ps] at hp
    rcases List.mem_append.1 hp with hp | hp
    · exact List.mem_append.2 (.inl hp)
    · exact List.mem_append.2 (.inr (List.mem_cons_of_mem _ hp))
  have hempty : ofK al (keyA a) = [] := List.eq_nil_iff_forall_not_mem.2 fun b hb => by
    obtain ⟨h1, h2⟩ := ofK_mem.1 hb
    exact hno (h2 ▸ h.k1 b h1)
  have hkm : ∀ k ∈ ps.map keyP, k ∈ (ps.take i ++ ⟨a.st, a.k, a.n, false, addL (ks.map newA) a.vs, av⟩ :: ps.drop i).map keyP := fun k hk => by
    obtain ⟨p, hp, rfl⟩ := List.mem_map.1 hk
    exact List.mem_map.2 ⟨p, hback p hp, rfl⟩
  refine ⟨hR, fun p hp => ?_, fun p hp => ?_, fun b hb => ?_, fun p hp => ?_, fun k hk => hkm k (h.k3 k hk), fun b hb => ?_⟩
  · rcases hcase p hp with rfl | ⟨h1, h2⟩
    · have e : keyP (⟨a.st, a.k, a.n, false, addL (ks.map newA) a.vs, av⟩ : Pn) = keyA a := rfl
      rw [e, ofK_snoc_same al a _ rfl, accs_snoc _ _ _ ha.1, hempty, accs_nil]
    · rw [ofK_snoc_other al a _ (fun e => h2 e.symm)]
      exact h.acs p h1
  · rcases hcase p hp with rfl | ⟨h1, h2⟩
    · have e : keyP (⟨a.st, a.k, a.n, false, addL (ks.map newA) a.vs, av⟩ : Pn) = keyA a := rfl
      have h9 : keyA a ∉ K := fun hk => hno (h.k3 _ hk)
      rw [e]
      simp [h9]
    · exact h.told p h1
  · rcases List.mem_append.1 hb with hb | hb
    · exact hkm _ (h.k1 b hb)
    · rw [List.mem_singleton.1 hb]
      exact List.mem_map.2 ⟨_, List.mem_append.2 (.inr List.mem_cons_self), rfl⟩
  · rcases hcase p hp with rfl | ⟨h1, h2⟩
    · exact ⟨a, by simp, rfl⟩
    · obtain ⟨b, hb, he⟩ := h.k2 p h1
      exact ⟨b, by simp [hb], he⟩
  · rcases List.mem_append.1 hb with hb | hb
    · exact h.vl b hb
    · rw [List.mem_singleton.1 hb]
      exact ha
def dueK (size upto : Int) (ps : List Pn) : List K3 := (ps.filter (isDue size upto)).map keyP
theorem tellP_key (size upto : Int) (p : Pn) : keyP (tellP size upto p) = keyP p := by unfold tellP; split <;> rfl
theorem tellP_ac (size upto : Int) (p : Pn) : (tellP size upto p).ac = p.ac := by unfold tellP; split <;> rfl
theorem tellP_av (size upto : Int) (p : Pn) : (tellP size upto p).av = p.av := by unfold tellP; split <;> rfl
theorem tellP_told (size upto : Int) (p : Pn) : (tellP size upto p).told = (p.told || isDue size upto p) := by
  unfold tellP
  split
  · rename_i h
    simp [h]
  · rename_i h
    simp [h]
theorem tells_keys (size upto : Int) (ps : List Pn) : (ps.map (tellP size upto)).map keyP = ps.map keyP := by
  rw [List.map_map]
  exact List.map_congr_left fun p _ => tellP_key size upto p
theorem due_mem {size upto : Int} {ps : List Pn} (hR : Rise ps) {p : Pn} (hp : p ∈ ps) : keyP p ∈ dueK size upto ps ↔ isDue size upto p = true := by
  unfold dueK
  rw [List.mem_map]
  refine ⟨fun ⟨q, hq, e⟩ => ?_, fun h => ⟨p, List.mem_filter.2 ⟨hp, h⟩, rfl⟩⟩
  obtain ⟨h1, h2⟩ := List.mem_filter.1 hq
  rw [← rise_mem hR h1 hp e]
  exact h2
theorem due_new {ks : List Int} {al : List Ad} {ps : List Pn} {K : List K3} (h : PP ks al ps K) (size upto : Int) : ∀ k ∈ dueK size upto ps, k ∉ K := fun k hk hK => by
  obtain ⟨p, hp, rfl⟩ := List.mem_map.1 hk
  obtain ⟨h1, h2⟩ := List.mem_filter.1 hp
  have h3 := h.told p h1
  simp only [isDue, Bool.and_eq_true, Bool.not_eq_true'] at h2
  rw [h2.1] at h3
  simp [hK] at h3
theorem due_nodup {ps : List Pn} (hR : Rise ps) (size upto : Int) : (dueK size upto ps).Pairwise lexK := by
  have h1 := (rise_map ps).1 hR
  exact h1.sublist (List.filter_sublist.map keyP)
theorem pp_tell {ks : List Int} {al : List Ad} {ps : List Pn} {K : List K3} (h : PP ks al ps K) (size upto : Int) : PP ks al (ps.map (tellP size upto)) (K ++ dueK size upto ps) := by
  have hm := tells_keys size upto ps
  refine ⟨rise_same hm h.rise, fun p hp => ?_, fun p hp => ?_, fun a ha => by rw [hm]; exact h.k1 a ha, fun p hp => ?_, fun k hk => ?_, h.vl⟩
  · obtain ⟨q, hq, rfl⟩ := List.mem_map.1 hp
    rw [tellP_ac, tellP_key]
    exact h.acs q hq
  · obtain ⟨q, hq, rfl⟩ := List.mem_map.1 hp
    rw [tellP_told, tellP_key, h.told q hq]
    have h2 := due_mem (size := size) (upto := upto) h.rise hq
    cases h3 : isDue size upto q
    · have h4 : keyP q ∉ dueK size upto ps := fun e => by rw [h2, h3] at e; cases e
      simp [h4]
    · have h4 : keyP q ∈ dueK size upto ps := h2.2 h3
      simp [h4]
  · obtain ⟨q, hq, rfl⟩ := List.mem_map.1 hp
    rw [tellP_key]
    exact h.k2 q hq
  · rw [hm]
    rcases List.mem_append.1 hk with hk | hk
    · exact h.k3 k hk
    · obtain ⟨p, hp, rfl⟩ := List.mem_map.1 hk
      exact List.mem_map.2 ⟨p, (List.mem_filter.1 hp).1, rfl⟩
def goneK (size dr : Int) (k : K3) : Bool := decide (k.1 + size ≤ dr)
def leftA (size dr : Int) (a : Ad) : Bool := decide (dr < a.st + size)
theorem left_of (size dr : Int) (al : List Ad) (q : K3) (h : goneK size dr q = false) : ofK (al.filter (leftA size dr)) q = ofK al q := by
  unfold ofK
  rw [List.filter_filter]
  apply List.filter_congr
  intro a _
  cases h1 : isOf q.1 q.2.1 q.2.2 a
  · simp
  · have h2 := (isOf_iff _ _ _ _).1 h1
    have h3 : a.st = q.1 := congrArg (·.1) h2
    have h4 : leftA size dr a = true := by
      simp only [goneK, decide_eq_false_iff_not] at h
      simp only [leftA, decide_eq_true_eq]
      omega
    simp [h4]
theorem pp_drop {ks : List Int} {al : List Ad} {ps : List Pn} {K K' : List K3} (h : PP ks al ps K) (size dr : Int) (hK : ∀ k, k ∈ K' ↔ (k ∈ K ∧ goneK size dr k = false)) : PP ks (al.filter (leftA size dr)) (ps.filter (stays size dr)) K' := by
  have hs : ∀ p, stays size dr p = true ↔ goneK size dr (keyP p) = false := fun p => by
    simp only [stays, goneK, keyP, Bool.not_eq_true']
    exact Iff.rfl
  have hb : ∀ p ∈ ps, goneK size dr (keyP p) = false → keyP p ∈ (ps.filter (stays size dr)).map keyP := fun p hp hg => List.mem_map.2 ⟨p, List.mem_filter.2 ⟨hp, (hs p).2 hg⟩, rfl⟩
  refine ⟨h.rise.sublist List.filter_sublist, fun p hp => ?_, fun p hp => ?_, fun a ha => ?_, fun p hp => ?_, fun k hk => ?_, fun a ha => h.vl a (List.mem_filter.1 ha).1⟩
  · obtain ⟨h1, h2⟩ := List.mem_filter.1 hp
    rw [left_of _ _ _ _ ((hs p).1 h2)]
    exact h.acs p h1
  · obtain ⟨h1, h2⟩ := List.mem_filter.1 hp
    rw [h.told p h1]
    have h3 := hK (keyP p)
    have h4 := (hs p).1 h2
    by_cases h5 : keyP p ∈ K
    · simp [h5, h3.2 ⟨h5, h4⟩]
    · have h6 : keyP p ∉ K' := fun e => h5 (h3.1 e).1
      simp [h5, h6]
  · obtain ⟨h1, h2⟩ := List.mem_filter.1 ha
    obtain ⟨p, hp, he⟩ := List.mem_map.1 (h.k1 a h1)
    rw [← he]
    refine hb p hp ?_
    rw [he]
    simp only [leftA, decide_eq_true_eq] at h2
    show decide (a.st + size ≤ dr) = false
    simp only [decide_eq_false_iff_not]
    omega
  · obtain ⟨h1, h2⟩ := List.mem_filter.1 hp
    obtain ⟨a, ha, he⟩ := h.k2 p h1
    refine ⟨a, List.mem_filter.2 ⟨ha, ?_⟩, he⟩
    have h3 := (hs p).1 h2
    rw [← he] at h3
    have h3 : decide (a.st + size ≤ dr) = false := h3
    simp only [decide_eq_false_iff_not] at h3
    simp only [leftA, decide_eq_true_eq]
    omega
  · obtain ⟨h1, h2⟩ := (hK k).1 hk
    obtain ⟨p, hp, rfl⟩ := List.mem_map.1 (h.k3 k h1)
    exact hb p hp h2

/-- the keys of what was added, each where it comes first -/
def fk (al : List Ad) : Nat → List K3
  | 0 => []
  | m + 1 => fk al m ++ (if (ofK (al.take m) (keyA (al.getD m ⟨0, 0, 0, [], .bool false, 0, 0⟩))).length = 0 then [keyA (al.getD m ⟨0, 0, 0, [], .bool false, 0, 0⟩)] else [])
theorem fk_spec (al : List Ad) : ∀ m, m ≤ al.length → (∀ k, k ∈ fk al m ↔ ∃ a ∈ al.take m, keyA a = k) ∧ (fk al m).Nodup
  | 0, _ => ⟨fun k => by simp [fk], List.nodup_nil⟩
  | m + 1, h => by
    obtain ⟨h1, h2⟩ := fk_spec al m (by omega)
    have hm : m < al.length := h
    have hg : al.getD m ⟨0, 0, 0, [], .bool false, 0, 0⟩ = al[m] := by simp [List.getD, hm]
    unfold fk
    rw [hg, take_one al m hm]
    have hz : (ofK (al.take m) (keyA al[m])).length = 0 ↔ ¬ ∃ a ∈ al.take m, keyA a = keyA al[m] := by
      rw [List.length_eq_zero_iff, List.eq_nil_iff_forall_not_mem]
      refine ⟨fun h9 ⟨a, ha, he⟩ => h9 a (ofK_mem.2 ⟨ha, he⟩), fun h9 a ha => h9 ⟨a, (ofK_mem.1 ha).1, (ofK_mem.1 ha).2⟩⟩
    split
    · rename_i h3
      have h4 := hz.1 h3
      refine ⟨fun k => ?_, ?_⟩
      · rw [List.mem_append, h1 k, List.mem_singleton]
        refine ⟨fun h5 => ?_, fun ⟨a, ha, he⟩ => ?_⟩
        · rcases h5 with ⟨a, ha, he⟩ | rfl
          · exact ⟨a, List.mem_append.2 (.inl ha), he⟩
          · exact ⟨al[m], List.mem_append.2 (.inr (List.mem_singleton.2 rfl)), rfl⟩
        · rcases List.mem_append.1 ha with ha | ha
          · exact .inl ⟨a, ha, he⟩
          · rw [List.mem_singleton.1 ha] at he
            exact .inr he.symm
      · rw [List.nodup_append]
        refine ⟨h2, by simp, fun a ha b hb e => ?_⟩
        rw [List.mem_singleton.1 hb] at e
        subst e
        exact h4 ((h1 _).1 ha)
    · rename_i h3
      have h4 : ∃ a ∈ al.take m, keyA a = keyA al[m] := Classical.byContradiction fun h9 => h3 (hz.2 h9)
      rw [List.append_nil]
      refine ⟨fun k => ?_, h2⟩
      rw [h1 k]
      refine ⟨fun ⟨a, ha, he⟩ => ⟨a, List.mem_append.2 (.inl ha), he⟩, fun ⟨a, ha, he⟩ => ?_⟩
      rcases List.mem_append.1 ha with ha | ha
      · exact ⟨a, ha, he⟩
      · rw [List.mem_singleton.1 ha] at he
        rw [← he]
        exact h4
theorem nodup_le : ∀ {l m : List K3}, l.Nodup → (∀ k, k ∈ l → k ∈ m) → l.length ≤ m.length
  | [], m, _, _ => Nat.zero_le _
  | a :: l, m, h, hs => by
    obtain ⟨h1, h2⟩ := List.nodup_cons.1 h
    have ha := hs a List.mem_cons_self
    have := nodup_le (l := l) (m := m.erase a) h2 (fun k hk => (List.mem_erase_of_ne (fun (e : k = a) => h1 (e ▸ hk))).2 (hs k (List.mem_cons_of_mem _ hk)))
    rw [List.length_erase_of_mem ha] at this
    have hpos := List.length_pos_of_mem ha
    simp only [List.length_cons]
    omega
theorem many_is {ks : List Int} {al : List Ad} {ps : List Pn} {K : List K3} (h : PP ks al ps K) : (fk al al.length).length = ps.length := by
  obtain ⟨h1, h2⟩ := fk_spec al al.length (Nat.le_refl _)
  rw [List.take_length] at h1
  have h3 : ∀ k, k ∈ fk al al.length ↔ k ∈ ps.map keyP := fun k => by
    rw [h1 k]
    refine ⟨fun ⟨a, ha, he⟩ => he ▸ h.k1 a ha, fun hk => ?_⟩
    obtain ⟨p, hp, rfl⟩ := List.mem_map.1 hk
    obtain ⟨a, ha, he⟩ := h.k2 p hp
    exact ⟨a, ha, he⟩
  have h4 := nodup_le h2 (fun k hk => (h3 k).1 hk)
  have h5 := nodup_le (rise_nodup h.rise) (fun k hk => (h3 k).2 hk)
  rw [List.length_map] at h4 h5
  omega
theorem fk_len (al : List Ad) : ∀ m, (fk al m).length ≤ m
  | 0 => Nat.le_refl _
  | m + 1 => by
    have := fk_len al m
    unfold fk
    split <;> simp <;> omega
end Go.Proofs.Ytoihjhhambgpfab
