/- The contract of the document's disk's Write, over this seat's translation. Conditions: as named. -/
import Derived.Test.YtjiopjdbifcfkacRef2
import Derived.Deep.DeepCutAuto
namespace Go.Proofs.Ytjiopjdbifcfkac
open Go.ChangeShapes Go.WideShapes Go.ChangeAt Go.RowKit
set_option linter.unusedVariables false
set_option linter.unusedSimpArgs false

/-- a text and noughts, as the document has it -/
def padT (t : ByteArray) : ByteArray := t ++ noughtT (256 - t.size)
/-- what the document's Write answers -/
def RWriteR (w w' : World) (B gr : Nat) (kl nl : List ByteArray) (tl : List Tn) (fuse : Int) (down : Bool) (kv nv tv : Value) (at_ : Int) (t : ByteArray) (e : Ending) : Prop :=
  (¬ (0 ≤ at_ ∧ at_ < (nl.length : Int) ∧ t.size ≤ 256) ∧ e = .returned (.int .i64 1) ∧ Below w.heap.size w w') ∨
  ((0 ≤ at_ ∧ at_ < (nl.length : Int) ∧ t.size ≤ 256) ∧ (down = true ∨ fuse = 0) ∧ e = .returned (.int .i64 7) ∧ KeptB w w' (fun k => k = gr) ∧ RefD w' B gr kl nl tl (if down then fuse else -1) true kv nv tv) ∨
  (∃ (i : Nat) (tv' : Value), i < nl.length ∧ t.size ≤ 256 ∧ at_ = (i : Int) ∧ down = false ∧ fuse ≠ 0 ∧ e = .returned (.int .i64 0) ∧ KeptB w w' (fun k => k = gr ∨ nv.ownBlock = some k ∨ tv.ownBlock = some k) ∧ (tv'.ownBlock = tv.ownBlock ∨ ∃ k, tv'.ownBlock = some k ∧ w.heap.size ≤ k) ∧ RefD w' B gr kl (nl.set i (padT t)) (tl ++ [((i : Int), padT t)]) (stepL fuse) false kv nv tv')
set_option maxRecDepth 100000 in
theorem infoT : (Try.prog.info? 68).map (fun i => (i.zero, i.size, i.bytes)) = some (some (.agg #[.int .i64 0, .string ⟨#[]⟩]), 2, 24) := by kernel_rfl
set_option maxRecDepth 100000 in
set_option maxHeartbeats 1000000 in
theorem rwrite_any {B gr : Nat} {kl nl : List ByteArray} {tl : List Tn} {fuse : Int} {down : Bool} {kv nv tv : Value} (at_ : Int) (t : ByteArray) (w : World) (h : RefD w B gr kl nl tl fuse down kv nv tv) (hlf : fuse ≤ 9223372036854775807) (hn1 : nl.length ≤ 1000) (ht1 : tl.length ≤ 1000) (hts : t.size ≤ 100000) :
    Calls Try.prog 12 #[.pointer (some ⟨gr, 0, none⟩), .int .i64 at_, .string t] w fun e w' => RWriteR w w' B gr kl nl tl fuse down kv nv tv at_ t e := by
  obtain ⟨i0, hi, hz0, hz1, hz2⟩ := info_parts infoT
  have SU := hidE (rstep_any w h hlf)
  obtain ⟨an, cn, hnv⟩ := owns_shapeE h.nr
  have c1 : w.cell? ⟨gr, 1, none⟩ = some (.slice an nl.length cn) := by rw [← hnv]; exact h.bd.c 1 (by simp)
  clear h
  go_enter Try.func12, Try.ntmps12
  by_cases h0 : at_ < 0
  · have d0 : decide (at_ < 0) = true := by simp [h0]
    clear hnv
    go_wp2_with fail
    go_ret
    exact .inl ⟨fun h => by omega, rfl, Below.refl _ _⟩
  have d0 : decide (at_ < 0) = false := by simp [h0]
  by_cases h1 : (nl.length : Int) ≤ at_
  · have d1 : decide ((nl.length : Int) ≤ at_) = true := by simp [h1]
    clear hnv
    go_wp2_with fail
    go_ret
    exact .inl ⟨fun h => by omega, rfl, Below.refl _ _⟩
  have d1 : decide ((nl.length : Int) ≤ at_) = false := by simp; omega
  by_cases h2 : 256 < t.size
  · have d2 : decide (256 < (t.size : Int)) = true := by simp; omega
    clear hnv
    go_wp2_with fail
    go_ret
    exact .inl ⟨fun h => by omega, rfl, Below.refl _ _⟩
  have d2 : decide (256 < (t.size : Int)) = false := by simp; omega
  have hin3 : Hid (0 ≤ at_ ∧ at_ < (nl.length : Int) ∧ t.size ≤ 256) := ⟨by omega, by omega, by omega⟩
  have HNV := hidE hnv
  clear hnv
  go_wp2_with fail
  refine SU.out.mono ?_
  rintro e w1 ⟨hk1, hst⟩
  have KB := hidE hk1
  unfold RStepR at hst
  clear c1 d0 d1 d2
  rcases hst with ⟨hdn, rfl, hd2⟩ | ⟨hdn, hf0, rfl, hd2⟩ | ⟨hdn, hl0, rfl, hd2⟩
  · have HDD := hidE hd2
    have HDN := hidE hdn
    clear hd2 hdn hk1 SU
    go_wp2_with fail
    go_ret
    exact .inr (.inl ⟨hin3.out, .inl HDN.out, rfl, KB.out, by rw [HDN.out]; exact HDD.out⟩)
  · have HDD := hidE hd2
    have HDN := hidE hdn
    have HF0 := hidE hf0
    clear hd2 hdn hf0 hk1 SU
    go_wp2_with fail
    go_ret
    exact .inr (.inl ⟨hin3.out, .inr HF0.out, rfl, KB.out, by rw [HDN.out]; exact HDD.out⟩)
  have HDN := hidE hdn
  have HL0 := hidE hl0
  have HD2 := hidE hd2
  obtain ⟨n, hn⟩ : ∃ n : Nat, (256 : Int) - (t.size : Int) = (n : Int) := ⟨256 - t.size, by omega⟩
  have hnn : n = 256 - t.size := by omega
  have NG := hidE (noughts_any n w1 (by omega))
  have HNN := hidE hnn
  clear hd2 hdn hl0 hk1 SU hnn
  go_wp2_with fail
  refine NG.out.mono ?_
  rintro e w2 ⟨rfl, hb2⟩
  have HB2 := hidE hb2
  have hsz : (noughtT n).size = n := by simp [noughtT, ByteArray.size]
  have hns : ¬ 9223372036854775807 < t.size + (noughtT n).size := by rw [hsz]; omega
  have HTX : Hid (padT t = t ++ noughtT n) := by
    show _ = _
    unfold padT
    rw [HNN.out]
  clear hb2 NG hsz
  go_upto_region 7 with fail
  generalize htx : t ++ noughtT n = tx at *
  clear htx hns
  obtain ⟨i, rfl⟩ : ∃ i : Nat, at_ = (i : Int) := ⟨at_.toNat, by omega⟩
  have hil : i < nl.length := by omega
  have D2 := refD_below HD2.out HB2.out
  obtain ⟨g, cn', hnv', hb', hg', hle, hm⟩ := owns_head D2.nr (by omega)
  have hnv2 := HNV.out
  rw [hnv'] at hnv2
  have c1 : w2.cell? ⟨gr, 1, none⟩ = some (.slice (some ⟨g, 0, none⟩) nl.length cn') := by rw [← hnv']; exact D2.bd.c 1 (by simp)
  have hrow : w2.ownsRow B 9 1 (.slice (some ⟨g, 0, none⟩) nl.length cn') nl.length (nl.map Value.string) := by rw [← hnv']; exact D2.nr
  have c5 : w2.cell? ⟨g, i, none⟩ = some (.string nl[i]) := by
    have := World.ownsRow.cellAt hrow i (by omega)
    rw [this, List.getElem?_map, List.getElem?_eq_getElem hil]
    rfl
  have f5 := owns_thaw hrow i
  have NR3 := owns_setW hrow i (.string tx)
  have eN : (nl.map Value.string).set i (.string tx) = (nl.set i tx).map Value.string := by rw [List.map_set]
  rw [eN] at NR3
  have ks : KeptB w2 (w2.setCell ⟨g, i, none⟩ (.string tx)) (fun k => k = g) := keptB_set (keptB_of_below (bad := fun k => k = g) (Below.refl w2.heap.size w2)) rfl i _
  have hngr : g ≠ gr := (D2.s2 g (by rw [hnv']; rfl)).2
  have bd3 := blk_kept D2.bd ks (fun e => hngr e.symm)
  have kr3 := own_kept D2.kr ks (fun k hk e => (D2.s1 k hk).1 (by rw [hnv', e]; rfl))
  have tr3 := own_kept D2.tr ks (fun k hk e => (D2.s2 g (by rw [hnv']; rfl)).1 (by rw [hk, e]))
  obtain ⟨at3, ct3, htv⟩ := owns_shapeE D2.tr
  have H3 := hidE (And.intro bd3 (And.intro kr3 (And.intro tr3 (And.intro NR3 (And.intro ks D2)))))
  have HNV2 := hidE hnv'
  have HTV := hidE htv
  unfold maxLen at hm
  clear D2 hrow NR3 eN ks bd3 kr3 tr3 hnv2 hnv' htv hb' HNV
  go_upto_region 8 with fail
  have hz3 : (w2.setCell ⟨g, i, none⟩ (.string tx)).heap.size = w2.heap.size := by simp
  generalize w2.setCell ⟨g, i, none⟩ (.string tx) = w3 at *
  obtain rfl := HTV.out
  have HZ3 := hidE hz3
  clear c1 c5 f5 HTV hz3
  have c2 : w3.cell? ⟨gr, 2, none⟩ = some (.slice at3 tl.length ct3) := H3.out.1.c 2 (by simp)
  have hgrl := H3.out.1.lt
  have HRV := hidE (own_keep H3.out.2.2.1 (below_alloc w3 (.cells #[.int .i64 (i : Int), .string tx] 68)) (Nat.le_refl _))
  have hb1 := H3.out.2.2.2.2.2.b1
  have HSZ : Hid (B ≤ (w3.alloc (.cells #[.int .i64 (i : Int), .string tx] 68)).heap.size) := by show _ ≤ _; have := (below_alloc w3 (.cells #[.int .i64 (i : Int), .string tx] 68)).size; omega
  have CN : Hid (∀ j u, (cellsT ((i : Int), tx))[j]? = some u → (w3.alloc (.cells #[.int .i64 (i : Int), .string tx] 68)).cell? ((⟨w3.heap.size, 0, none⟩ : Addr).add j) = some u) := fun j u hu => by
    rw [add_at, Nat.zero_add, (blk_alloc w3 [.int .i64 (i : Int), .string tx] 68).c j (List.getElem?_eq_some_iff.1 hu).1]
    exact hu
  have HB2s := hidE HB2.out.size
  go_wp2_with (at_builtin; go_must (refine wpList_append_own_at _ rfl (.tmp 46) (.tmp 50) 47 rfl B 68 i0 (.agg #[.int .i64 0, .string ⟨#[]⟩]) 2 24 Try.underlying47 hi hz0 hz1 hz2 rfl (by decide) _ _ _ rfl HRV.out _ 1 1 (cellsT ((i : Int), tx)) rfl rfl CN.out (by simp [cellsT, Value.oneCell']) (by show _ ≤ 2 ^ 63 - 1; omega) (by omega) HSZ.out ?_))
  intro tv' w5 ho hg5 _ hob
  have k35 : KeptB w3 w5 (fun k => (Value.slice at3 tl.length ct3).ownBlock = some k) := keptB_grown (keptB_of_below (below_alloc w3 (.cells #[.int .i64 (i : Int), .string tx] 68))) hg5 (fun k hk _ => hk)
  obtain ⟨bd3, kr3, tr3, NR3, ks, D2⟩ := H3.out
  have hz3 : w3.heap.size = w2.heap.size := HZ3.out
  have hza := (below_alloc w3 (.cells #[.int .i64 (i : Int), .string tx] 68)).size
  have hnw : ∀ k, tv'.ownBlock = some k → (Value.slice at3 tl.length ct3).ownBlock = some k ∨ w3.heap.size ≤ k := fun k hk => by
    rcases hob with e | e
    · exact .inl (by rw [← e]; exact hk)
    · rw [e] at hk
      have := Option.some.inj hk
      exact .inr (by omega)
  have bd5 := blk_kept bd3 k35 (fun e => D2.s3 gr e rfl)
  have kr5 := own_kept kr3 k35 (fun k hk e => (D2.s1 k hk).2.1 e)
  have nvb : ∀ k, nv.ownBlock = some k → k = g := fun k hk => by
    rw [HNV2.out] at hk
    exact (Option.some.inj hk).symm
  have NR5 := own_kept NR3 k35 (fun k hk e => by
    have hkg : k = g := (Option.some.inj hk).symm
    subst hkg
    exact (D2.s2 k (by rw [HNV2.out]; rfl)).1 e)
  obtain ⟨at4, ct4, rfl⟩ := owns_shapeE ho
  have c6 : w5.cell? ⟨gr, 2, none⟩ = some (.slice at3 tl.length ct3) := bd5.c 2 (by simp)
  have f6 := bd5.fz 2
  have B6 := blk_set bd5 2 (.slice at4 (tl.length + 1) ct4) (by simp)
  have ks6 : KeptB w5 (w5.setCell ⟨gr, 2, none⟩ (.slice at4 (tl.length + 1) ct4)) (fun k => k = gr) := keptB_set (keptB_of_below (bad := fun k => k = gr) (Below.refl w5.heap.size w5)) rfl 2 _
  have klt := own_at D2.kr
  have nlt := own_at D2.nr
  have el : (tl ++ [((i : Int), tx)]).length = tl.length + 1 := by simp
  have er : rowOf cellsT (tl ++ [((i : Int), tx)]) = rowOf cellsT tl ++ cellsT ((i : Int), tx) := by rw [rowOf_app, rowOf_one]
  have hgrw : gr < w2.heap.size := D2.bd.lt
  have D6 : Hid (RefD (w5.setCell ⟨gr, 2, none⟩ (.slice at4 (tl.length + 1) ct4)) B gr kl (nl.set i tx) (tl ++ [((i : Int), tx)]) (stepL fuse) false kv nv (.slice at4 (tl.length + 1) ct4)) := by
    refine ⟨by simpa using B6, own_kept kr5 ks6 (fun k hk => (D2.s1 k hk).2.2), ?_, ?_, fun k hk => ⟨(D2.s1 k hk).1, fun e => ?_, (D2.s1 k hk).2.2⟩, fun k hk => ⟨fun e => ?_, (D2.s2 k hk).2⟩, fun k hk => ?_, D2.b1⟩
    · rw [List.length_set, HNV2.out]
      exact own_kept NR5 ks6 (fun k hk e => hngr (by rw [← e]; exact Option.some.inj hk))
    · rw [el, er]
      exact own_kept ho ks6 (fun k hk e => by
        rcases hnw k hk with h | h
        · exact D2.s3 k h e
        · omega)
    · rcases hnw k e with h | h
      · exact (D2.s1 k hk).2.1 h
      · have := (klt k hk).2
        omega
    · rcases hnw k e with h | h
      · exact (D2.s2 k hk).1 h
      · have := (nlt k hk).2
        omega
    · rcases hnw k hk with h | h
      · exact D2.s3 k h
      · omega
  have hbw1 := HB2s.out
  have hw1 := KB.out.b0.size
  have K6 : Hid (KeptB w (w5.setCell ⟨gr, 2, none⟩ (.slice at4 (tl.length + 1) ct4)) (fun k => k = gr ∨ nv.ownBlock = some k ∨ (Value.slice at3 tl.length ct3).ownBlock = some k)) :=
    keptB_trans (keptB_trans (keptB_trans (keptB_trans (keptB_mono KB.out (fun k h => .inl h)) (keptB_of_below HB2.out)) (keptB_mono ks (fun k h => .inr (.inl (by rw [h, HNV2.out]; rfl))))) (keptB_mono k35 (fun k h => .inr (.inr h)))) (keptB_mono ks6 (fun k h => .inl h))
  have OB6 : Hid ((Value.slice at4 (tl.length + 1) ct4).ownBlock = (Value.slice at3 tl.length ct3).ownBlock ∨ ∃ k, (Value.slice at4 (tl.length + 1) ct4).ownBlock = some k ∧ w.heap.size ≤ k) := by
    rcases hob with e | e
    · exact .inl e
    · exact .inr ⟨_, e, by omega⟩
  clear ho hg5 hob k35 bd3 kr3 tr3 NR3 ks D2 hnw bd5 kr5 NR5 B6 ks6 klt nlt el er H3 CN HRV HSZ nvb hz3 hza
  go_wp2_with fail
  go_ret
  exact .inr (.inr ⟨i, _, hil, by omega, rfl, HDN.out, HL0.out, rfl, K6.out, OB6.out, by rw [HTX.out]; exact D6.out⟩)
end Go.Proofs.Ytjiopjdbifcfkac
