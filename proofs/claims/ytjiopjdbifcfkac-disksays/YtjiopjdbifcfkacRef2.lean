/- The contracts of the document's disk: Read and Flush, over this seat's translation. Conditions: as named. -/
import Derived.Test.YtjiopjdbifcfkacRef1
namespace Go.Proofs.Ytjiopjdbifcfkac
open Go.ChangeShapes Go.WideShapes Go.ChangeAt Go.RowKit
set_option linter.unusedVariables false
set_option linter.unusedSimpArgs false

section
variable {B gr : Nat} {kl nl : List ByteArray} {tl : List Tn} {fuse : Int} {down : Bool} {kv nv tv : Value}
set_option maxRecDepth 100000 in
theorem rread_down (at_ : Int) (w : World) (h : RefD w B gr kl nl tl fuse true kv nv tv) :
    Calls Try.prog 14 #[.pointer (some ⟨gr, 0, none⟩), .int .i64 at_] w fun e w' => e = .returned (.tuple #[.string ⟨#[]⟩, .int .i64 7]) ∧ Below w.heap.size w w' := by
  have c4 : w.cell? ⟨gr, 4, none⟩ = some (.bool true) := h.bd.c 4 (by simp)
  clear h
  go_enter Try.func14, Try.ntmps14
  go_wp2_with fail
  go_ret2
  exact ⟨rfl, Below.refl _ _⟩
set_option maxRecDepth 100000 in
theorem rread_out (at_ : Int) (w : World) (h : RefD w B gr kl nl tl fuse false kv nv tv) (hl : nl.length ≤ 1000) (hout : ¬ (0 ≤ at_ ∧ at_ < (nl.length : Int))) :
    Calls Try.prog 14 #[.pointer (some ⟨gr, 0, none⟩), .int .i64 at_] w fun e w' => e = .returned (.tuple #[.string ⟨#[]⟩, .int .i64 1]) ∧ Below w.heap.size w w' := by
  have c4 : w.cell? ⟨gr, 4, none⟩ = some (.bool false) := h.bd.c 4 (by simp)
  obtain ⟨an, cn, rfl⟩ := owns_shapeE h.nr
  have c1 : w.cell? ⟨gr, 1, none⟩ = some (.slice an nl.length cn) := h.bd.c 1 (by simp)
  clear h
  by_cases h0 : at_ < 0
  · have d0 : decide (at_ < 0) = true := by simp [h0]
    go_enter Try.func14, Try.ntmps14
    go_wp2_with fail
    go_ret2
    exact ⟨rfl, Below.refl _ _⟩
  · have d0 : decide (at_ < 0) = false := by simp [h0]
    have d1 : decide ((nl.length : Int) ≤ at_) = true := by simp; omega
    go_enter Try.func14, Try.ntmps14
    go_wp2_with fail
    go_ret2
    exact ⟨rfl, Below.refl _ _⟩
set_option maxRecDepth 100000 in
theorem rread_in (i : Nat) (w : World) (h : RefD w B gr kl nl tl fuse false kv nv tv) (hl : nl.length ≤ 1000) (hi : i < nl.length) :
    Calls Try.prog 14 #[.pointer (some ⟨gr, 0, none⟩), .int .i64 (i : Int)] w fun e w' => e = .returned (.tuple #[.string nl[i], .int .i64 0]) ∧ Below w.heap.size w w' := by
  have c4 : w.cell? ⟨gr, 4, none⟩ = some (.bool false) := h.bd.c 4 (by simp)
  obtain ⟨g, cn, rfl, hb, hg, hle, hm⟩ := owns_head h.nr (by omega)
  have c1 : w.cell? ⟨gr, 1, none⟩ = some (.slice (some ⟨g, 0, none⟩) nl.length cn) := h.bd.c 1 (by simp)
  have c5 : w.cell? ⟨g, i, none⟩ = some (.string nl[i]) := by
    have := World.ownsRow.cellAt h.nr i (by omega)
    rw [this, List.getElem?_map, List.getElem?_eq_getElem hi]
    rfl
  have d0 : decide ((i : Int) < 0) = false := by simp
  have d1 : decide ((nl.length : Int) ≤ (i : Int)) = false := by simp; omega
  unfold maxLen at hm
  generalize nl[i] = tx at *
  clear h
  go_enter Try.func14, Try.ntmps14
  go_wp2_with fail
  go_ret2
  exact ⟨rfl, Below.refl _ _⟩
end
set_option maxRecDepth 100000 in
theorem infoSt : (Try.prog.info? 9).map (fun i => (i.zero, i.size, i.bytes)) = some (some (.string ⟨#[]⟩), 1, 16) := by kernel_rfl
theorem one_strs (l : List ByteArray) : ∀ u ∈ l.map Value.string, u.oneCell' = true := fun u hu => by
  obtain ⟨x, -, rfl⟩ := List.mem_map.1 hu
  rfl
/-- what the document's Flush answers -/
def RFlushR (w w' : World) (B gr : Nat) (kl nl : List ByteArray) (tl : List Tn) (fuse : Int) (down : Bool) (kv nv tv : Value) (e : Ending) : Prop :=
  ((down = true ∨ fuse = 0) ∧ e = .returned (.int .i64 7) ∧ KeptB w w' (fun k => k = gr) ∧ RefD w' B gr kl nl tl (if down then fuse else -1) true kv nv tv) ∨
  (down = false ∧ fuse ≠ 0 ∧ e = .returned (.int .i64 0) ∧ KeptB w w' (fun k => k = gr) ∧ ∃ kv', (∀ k, kv'.ownBlock = some k → w.heap.size ≤ k) ∧ RefD w' B gr nl nl [] (stepL fuse) false kv' nv (.slice none 0 0))
set_option maxRecDepth 100000 in
set_option maxHeartbeats 1000000 in
theorem rflush_any {B gr : Nat} {kl nl : List ByteArray} {tl : List Tn} {fuse : Int} {down : Bool} {kv nv tv : Value} (w : World) (h : RefD w B gr kl nl tl fuse down kv nv tv) (hlf : fuse ≤ 9223372036854775807) (hn0 : 0 < nl.length) (hn1 : nl.length ≤ 1000) :
    Calls Try.prog 16 #[.pointer (some ⟨gr, 0, none⟩)] w fun e w' => RFlushR w w' B gr kl nl tl fuse down kv nv tv e := by
  obtain ⟨i0, hi, hz0, hz1, hz2⟩ := info_parts infoSt
  have SU := hidE (rstep_any w h hlf)
  clear h
  go_enter Try.func16, Try.ntmps16
  go_wp2_with fail
  refine SU.out.mono ?_
  rintro e w1 ⟨hk1, hst⟩
  have KB := hidE hk1
  unfold RStepR at hst
  rcases hst with ⟨hdn, rfl, hd2⟩ | ⟨hdn, hf0, rfl, hd2⟩ | ⟨hdn, hl0, rfl, hd2⟩
  · have HDD := hidE hd2
    have HDN := hidE hdn
    clear hd2 hdn hk1 SU
    go_wp2_with fail
    go_ret
    exact .inl ⟨.inl HDN.out, rfl, KB.out, by rw [HDN.out]; exact HDD.out⟩
  · have HDD := hidE hd2
    have HDN := hidE hdn
    have HF0 := hidE hf0
    clear hd2 hdn hf0 hk1 SU
    go_wp2_with fail
    go_ret
    exact .inl ⟨.inr HF0.out, rfl, KB.out, by rw [HDN.out]; exact HDD.out⟩
  have HDN := hidE hdn
  have HL0 := hidE hl0
  have HD2 := hidE hd2
  obtain ⟨g, cn, hnv, hb, hg, hle, hm⟩ := owns_head hd2.nr hn0
  have HNV := hidE hnv
  have c1 : w1.cell? ⟨gr, 1, none⟩ = some nv := hd2.bd.c 1 (by simp)
  rw [hnv] at c1
  have NR : Hid (w1.ownsRow B 9 1 (.slice (some ⟨g, 0, none⟩) nl.length cn) nl.length (nl.map Value.string)) := by rw [← hnv]; exact hd2.nr
  have HBZ : Hid (B ≤ w1.heap.size) := by have := hd2.b1; have := hd2.bd.lt; show _ ≤ _; omega
  have hgrl := hd2.bd.lt
  unfold maxLen at hm
  clear hd2 hdn hl0 hk1 SU hnv
  have CN : Hid (∀ j u, (nl.map Value.string)[j]? = some u → w1.cell? ((⟨g, 0, none⟩ : Addr).add j) = some u) := fun j u hu => by
    have hj : j < nl.length := by simpa using (List.getElem?_eq_some_iff.1 hu).1
    rw [add_at, Nat.zero_add, World.ownsRow.cellAt NR.out j (by omega)]
    exact hu
  go_wp2_with (at_builtin; go_must (refine wpList_append_own_at _ rfl (.const (.slice none 0 0)) (.tmp 13) 46 rfl B 9 i0 (.string ⟨#[]⟩) 1 16 Try.underlying46 hi hz0 hz1 hz2 rfl (by decide) _ 0 [] rfl (World.ownsRow_nil _ _ _ _) ⟨g, 0, none⟩ nl.length cn (nl.map Value.string) rfl (by simp) CN.out (one_strs nl) (by show _ ≤ 2 ^ 63 - 1; omega) (by omega) HBZ.out ?_))
  intro v' w9 ho hg9 _ hob
  have hg92 : w1.grownBy w9 none := hg9
  have hb9 : Below w1.heap.size w1 w9 := (Below.refl w1.heap.size w1).grown hg92 (Nat.le_refl _) (fun k hk => by cases hk)
  have hnw : ∀ k, v'.ownBlock = some k → w1.heap.size ≤ k := fun k hk => by
    rcases hob with e | e
    · rw [e] at hk
      simp [Value.ownBlock] at hk
    · rw [e] at hk
      have := Option.some.inj hk
      omega
  have ho2 : w9.ownsRow B 9 1 v' nl.length (nl.map Value.string) := by simpa using ho
  obtain ⟨a', c', rfl⟩ := owns_shapeE ho2
  have D9 := refD_below HD2.out hb9
  have c0 : w9.cell? ⟨gr, 0, none⟩ = some kv := D9.bd.c 0 (by simp)
  have f0 := D9.bd.fz 0
  have B10 := blk_set D9.bd 0 (.slice a' nl.length c') (by simp)
  have c2 : (w9.setCell ⟨gr, 0, none⟩ (.slice a' nl.length c')).cell? ⟨gr, 2, none⟩ = some tv := B10.c 2 (by simp)
  have f2 := B10.fz 2
  have B11 := blk_set B10 2 (.slice none 0 0) (by simp)
  have ks : KeptB w9 ((w9.setCell ⟨gr, 0, none⟩ (.slice a' nl.length c')).setCell ⟨gr, 2, none⟩ (.slice none 0 0)) (fun k => k = gr) := keptB_set (keptB_set (keptB_of_below (bad := fun k => k = gr) (Below.refl w9.heap.size w9)) rfl 0 _) rfl 2 _
  have nvlt := own_at HD2.out.nr
  have D11 : Hid (RefD ((w9.setCell ⟨gr, 0, none⟩ (.slice a' nl.length c')).setCell ⟨gr, 2, none⟩ (.slice none 0 0)) B gr nl nl [] (stepL fuse) false (.slice a' nl.length c') nv (.slice none 0 0)) :=
    ⟨by simpa using B11, own_kept ho2 ks (fun k hk => by have := hnw k hk; omega), own_kept D9.nr ks (fun k hk => (D9.s2 k hk).2), World.ownsRow_nil _ _ _ _, fun k hk => ⟨fun e => by
      have h1 := hnw k hk
      have h2 := (nvlt k e).2
      omega, by simp [Value.ownBlock], by have := hnw k hk; omega⟩, fun k hk => ⟨by simp [Value.ownBlock], (D9.s2 k hk).2⟩, fun k hk => by simp [Value.ownBlock] at hk, D9.b1⟩
  have K11 := hidE (keptB_trans KB.out (keptB_trans (keptB_of_below hb9) ks))
  have NWH : Hid (∀ k, (Value.slice a' nl.length c').ownBlock = some k → w.heap.size ≤ k) := fun k hk => by
    have h1 := hnw k hk
    have h2 := KB.out.b0.size
    omega
  clear ho hg9 hob hg92 hb9 hnw ho2 D9 B10 B11 ks nvlt NR CN c1
  go_wp2_with fail
  go_ret
  exact .inr ⟨HDN.out, HL0.out, rfl, K11.out, _, NWH.out, D11.out⟩
end Go.Proofs.Ytjiopjdbifcfkac
