/- The law TopDisk's disk, over this seat's translation. Conditions: as named. -/
import Derived.Test.YtoihjhhambgpfacDisk7
namespace Go.Proofs.Ytoihjhhambgpfac
open Go.ChangeShapes Go.WideShapes Go.ChangeAt Go.RowKit
set_option linter.unusedVariables false
set_option linter.unusedSimpArgs false

/-- the number of the first region -/
def lead : Code → Option Nat
  | .region id _ _ => some id
  | .seq a _ => lead a
  | .cond _ a _ => lead a
  | .block _ b => lead b
  | .loop b => lead b
  | .scope b => lead b
  | _ => none
/-- the statement (no sequence) that opens with the region of that number -/
def stm (n : Nat) : Code → Option Code
  | .seq a b => (stm n a).or (stm n b)
  | .region id ops d => if id = n then some (.region id ops d) else none
  | .cond c a b => if lead a = some n then some (.cond c a b) else (stm n a).or (stm n b)
  | .block i b => if lead b = some n then some (.block i b) else stm n b
  | .loop b => if lead b = some n then some (.loop b) else stm n b
  | .scope b => if lead b = some n then some (.scope b) else stm n b
  | _ => none
/-- the region of that number -/
def rgn (n : Nat) : Code → Option Code
  | .region id ops d => if id = n then some (.region id ops d) else none
  | .seq a b => (rgn n a).or (rgn n b)
  | .cond _ a b => (rgn n a).or (rgn n b)
  | .block _ b => rgn n b
  | .loop b => rgn n b
  | .scope b => rgn n b
  | _ => none
theorem then_normal {next : Act → World → Prop} {Q : Exit → Act → World → Prop} {a : Act} {w : World} (h : next a w) : Exit.then next Q .normal a w := h

/-- what the law keeps: all that was there, and a disk of four sectors -/
structure TD (W wr : World) (gd gs : Nat) (n : Int) (ss : List Sec) : Prop where
  bl : Below W.heap.size W wr
  dk : DskR wr W.heap.size gd gs n (-1) false ss
  l4 : ss.length = 4
theorem td_below {W wr w' : World} {gd gs : Nat} {n : Int} {ss : List Sec} (h : TD W wr gd gs n ss) (hb : Below wr.heap.size wr w') : TD W w' gd gs n ss :=
  ⟨h.bl.trans (hb.mono h.bl.size), dsk_below h.dk hb, h.l4⟩
theorem td_kept {W wr w' : World} {gd gs : Nat} {n : Int} {ss : List Sec} (h : TD W wr gd gs n ss) {bad : Nat → Prop} (hk : KeptB wr w' bad) (hb : ∀ k, bad k → W.heap.size ≤ k) : Below W.heap.size W w' :=
  h.bl.trans (keptB_below hk h.bl.size hb)
theorem bad_lo {W wr : World} {gd gs : Nat} {n : Int} {ss : List Sec} (h : TD W wr gd gs n ss) (k : Nat) (hk : dskBad gd gs ss k) : W.heap.size ≤ k := (dsk_lt h.dk hk).1
theorem bad_two {gd gs : Nat} {ss : List Sec} (k : Nat) (hk : k = gd ∨ k = gs) : dskBad gd gs ss k := by
  rcases hk with e | e
  · exact .inl e
  · exact .inr (.inl e)
/-- a store elsewhere leaves the disk -/
theorem td_set {W wr : World} {gd gs gq : Nat} {n : Int} {ss : List Sec} (h : TD W wr gd gs n ss) (hq : ¬ dskBad gd gs ss gq) (hlo : W.heap.size ≤ gq) (o : Nat) (v : Value) : TD W (wr.setCell ⟨gq, o, none⟩ v) gd gs n ss := by
  have ks : KeptB wr (wr.setCell ⟨gq, o, none⟩ v) (fun k => k = gq) := keptB_set (keptB_of_below (bad := fun k => k = gq) (Below.refl wr.heap.size wr)) rfl o v
  refine ⟨td_kept h ks (fun k e => by omega), ⟨blk_kept h.dk.bd ks (fun e => hq (.inl e.symm)), blk_kept h.dk.bs ks (fun e => hq (.inr (.inl e.symm))), fun s hs => own_kept (h.dk.row s hs) ks (fun k hk e => hq (.inr (.inr ⟨s, hs, by rw [hk, e]⟩))), h.dk.bits, h.dk.len, h.dk.sep, h.dk.own, h.dk.ne, h.dk.b1, h.dk.b2⟩, h.l4⟩

theorem writeTD (at_ : Int) (t : ByteArray) {W w : World} {gd gs : Nat} {n : Int} {ss : List Sec} (h : TD W w gd gs n ss) (hn : 0 ≤ n ∧ n ≤ 62) (hlen : ∀ s ∈ ss, s.ws.length ≤ 800) (hts : t.size ≤ 100000) :
    Calls Try.prog 11 #[.pointer (some ⟨gd, 0, none⟩), .int .i64 at_, .string t] w fun e w' => ∃ v n' ss', e = .returned v ∧ KeptB w w' (dskBad gd gs ss) ∧ TD W w' gd gs n' ss' ∧ (∀ k, dskBad gd gs ss' k → dskBad gd gs ss k ∨ w.heap.size ≤ k) ∧
      ((v = .iface 54 (.int .i64 1) ∧ n' = n ∧ ss' = ss) ∨ (v = .nilIface ∧ n' = n + 1 ∧ ∃ (i : Nat) (hi : i < ss.length) (b : Blk) (wv' : Value), at_ = (i : Int) ∧ ss' = ss.set i ⟨ss[i].kept, ss[i].ws ++ [(n, b)], wv'⟩)) := by
  refine (write_any at_ t W.heap.size gd gs n ss w h.dk (by have := h.l4; omega) hn hlen hts).mono ?_
  rintro e w' (⟨rfl, hb⟩ | ⟨i, hi, ht, wv', rfl, rfl, hk, hob, hd⟩)
  · exact ⟨_, n, ss, rfl, keptB_of_below hb, td_below h hb, fun k hk => .inl hk, .inl ⟨rfl, rfl, rfl⟩⟩
  · refine ⟨_, n + 1, _, rfl, hk, ⟨td_kept h hk (bad_lo h), hd, by rw [List.length_set]; exact h.l4⟩, fun k hkb => ?_, .inr ⟨rfl, rfl, i, hi, pad t ht, wv', rfl, rfl⟩⟩
    rcases hkb with e | e | ⟨s, hs, e⟩
    · exact .inl (.inl e)
    · exact .inl (.inr (.inl e))
    · rcases List.mem_or_eq_of_mem_set hs with hs | rfl
      · exact .inl (.inr (.inr ⟨s, hs, e⟩))
      · rcases hob with e2 | ⟨k2, e2, hlt⟩
        · exact .inl (.inr (.inr ⟨ss[i], List.getElem_mem hi, by rw [← e2]; exact e⟩))
        · have e3 : wv'.ownBlock = some k := e
          rw [e2] at e3
          have := Option.some.inj e3
          exact .inr (by omega)
theorem ws_grow {n : Int} {ss ss' : List Sec} {m : Nat} (h : ∀ s ∈ ss, s.ws.length ≤ m) {v : Value} {at_ n' : Int} (hc : (v = .iface 54 (.int .i64 1) ∧ n' = n ∧ ss' = ss) ∨ (v = .nilIface ∧ n' = n + 1 ∧ ∃ (i : Nat) (hi : i < ss.length) (b : Blk) (wv' : Value), at_ = (i : Int) ∧ ss' = ss.set i ⟨ss[i].kept, ss[i].ws ++ [(n, b)], wv'⟩)) : (∀ s ∈ ss', s.ws.length ≤ m + 1) ∧ (n' = n ∨ n' = n + 1) := by
  rcases hc with ⟨-, rfl, rfl⟩ | ⟨-, rfl, i, hi, b, wv', -, rfl⟩
  · exact ⟨fun s hs => by have := h s hs; omega, .inl rfl⟩
  · refine ⟨fun s hs => ?_, .inr rfl⟩
    rcases List.mem_or_eq_of_mem_set hs with hs | rfl
    · have := h s hs; omega
    · have := h ss[i] (List.getElem_mem hi)
      simp
      omega
end Go.Proofs.Ytoihjhhambgpfac
