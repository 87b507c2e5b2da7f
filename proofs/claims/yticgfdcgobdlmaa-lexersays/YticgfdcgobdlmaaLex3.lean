/- The contract of lexer.Words, over this seat's translation: the words of a text, or an error. Conditions: none but that a text has fewer than 2^63 bytes. -/
import Derived.Test.YticgfdcgobdlmaaLex2
import Derived.Deep.DeepMust
namespace Go.Proofs.Yticgfdcgobdlmaa
open Go.RowKit
set_option linter.unusedVariables false
set_option linter.unusedSimpArgs false

theorem ext_size (s : ByteArray) (a : Nat) (h : a ≤ s.size) : (s.extract a s.size).size = s.size - a := by
  rw [Lib.size_eq, Lib.extract_to_end, List.length_drop, ← Lib.size_eq]
theorem bt_ext (s : ByteArray) (a j : Nat) : bt (s.extract a s.size) j = bt s (a + j) := by
  unfold bt
  rw [Lib.extract_to_end]
  simp [List.getD]
theorem runN_ext (p : Int → Bool) (s : ByteArray) (a : Nat) (h : a ≤ s.size) : ∀ f j, runN p (s.extract a s.size) f j = runN p s f (a + j)
  | 0, _ => rfl
  | f + 1, j => by
    unfold runN
    rw [runN_ext p s a h f (j + 1), ext_size s a h, bt_ext, Nat.add_assoc]
    by_cases h1 : j < s.size - a ∧ p (bt s (a + j)) = true
    · rw [if_pos h1, if_pos ⟨by omega, h1.2⟩]
    · rw [if_neg h1, if_neg (fun q => h1 ⟨by omega, q.2⟩)]
theorem wl_ext (s : ByteArray) (a : Nat) (h : a ≤ s.size) : wl (s.extract a s.size) 0 = wl s a := by
  unfold wl run
  rw [runN_ext _ _ _ h, runN_ext _ _ _ h, ext_size s a h, bt_ext, bt_ext]
  simp only [Nat.sub_zero, Nat.add_zero, Nat.zero_add]
  have e : (1 < s.size - a) = (a + 1 < s.size) := propext ⟨fun _ => by omega, fun _ => by omega⟩
  simp only [e]

theorem wordLenAt (s : ByteArray) (k : Nat) (w : World) (h : k < s.size) (hs : s.size ≤ maxLen) : Calls Try.prog 41 #[.string (s.extract k s.size)] w fun e w' => e = .returned (.int .i64 (wl s k)) ∧ w' = w := by
  rw [← wl_ext s k (by omega)]
  exact wordLen _ w (by rw [ext_size s k (by omega)]; omega) (by rw [ext_size s k (by omega)]; omega)

theorem infoS : (Try.prog.info? 9).map (fun i => (i.zero, i.size, i.bytes)) = some (some (.string ⟨#[]⟩), 1, 16) := by kernel_rfl

/-- an error's value: none, or one of its number -/
def errV (c : Int) : Value := if c = 0 then .nilIface else .iface 69 (.int .i64 c)

theorem owns_shape {w : World} {base : Nat} {e : TypeId} {size : Nat} {v : Value} {n : Nat} {xs : List Value} (h : w.ownsRow base e size v n xs) : ∃ ao cap, v = .slice ao n cap := by
  rcases h.2 with ⟨rfl, rfl⟩ | ⟨g, cap, cur, rfl, _⟩
  · exact ⟨none, 0, rfl⟩
  · exact ⟨_, cap, rfl⟩

theorem owns_below {w w' : World} {base : Nat} {e : TypeId} {size : Nat} {v : Value} {n : Nat} {xs : List Value} (h : w.ownsRow base e size v n xs) : ∀ k, v.ownBlock = some k → base ≤ k := fun k hk => (h.lt k hk).1

/-- one word more -/
theorem own_word {w0 wr w1 : World} {v v' : Value} {ws : List ByteArray} {x : ByteArray} {o : Obj} (hb : Below w0.heap.size w0 wr) (ho : wr.ownsRow w0.heap.size 9 1 v ws.length (ws.map Value.string))
    (ho' : w1.ownsRow w0.heap.size 9 1 v' (ws.length + 1) (ws.map Value.string ++ [.string x])) (hg : (wr.alloc o).grownBy w1 v.ownBlock) :
    w1.ownsRow w0.heap.size 9 1 v' (ws ++ [x]).length ((ws ++ [x]).map Value.string) ∧ Below w0.heap.size w0 w1 := by
  refine ⟨by simpa using ho', ?_⟩
  exact (hb.alloc hb.size o).grown hg (by have := hb.size; simp; omega) (fun k hk => (ho.lt k hk).1)

theorem words_long (s : ByteArray) (w : World) (h : 240 < s.size) : Calls Try.prog 11 #[.string s] w fun e w' => ∃ v, e = .returned (.tuple #[v, errV (lexT s).1]) ∧ w'.ownsRow w.heap.size 9 1 v (lexT s).2.length ((lexT s).2.map Value.string) ∧ Below w.heap.size w w' := by
  have e : lexT s = (2, []) := by unfold lexT; rw [if_neg (by omega)]
  rw [e]
  go_enter Try.func11, Try.ntmps11
  go_wp2
  go_ret2
  exact ⟨_, rfl, World.ownsRow_nil _ _ _ _, Below.refl _ _⟩

set_option maxHeartbeats 1000000 in
theorem words_short (s : ByteArray) (w : World) (h : s.size ≤ 240) : Calls Try.prog 11 #[.string s] w fun e w' => ∃ v, e = .returned (.tuple #[v, errV (lexT s).1]) ∧ w'.ownsRow w.heap.size 9 1 v (lexT s).2.length ((lexT s).2.map Value.string) ∧ Below w.heap.size w w' := by
  obtain ⟨i0, hi, hz0, hz1, hz2⟩ := info_parts infoS
  have hm : Hid (s.size ≤ maxLen) := by show s.size ≤ 2 ^ 63 - 1; omega
  have hl := left_start s h
  generalize lexT s = T at hl
  have HL : Hid (Left_ s 0 [] T) := hl
  clear hl
  go_enter Try.func11, Try.ntmps11
  go_wp2_with fail
  go_loopw [4, 5] (fun v i wr => ∃ (k : Nat) (ws : List ByteArray), k ≤ s.size ∧ i = .int .i64 k ∧ ws.length ≤ 80 ∧ Hid (wr.ownsRow w.heap.size 9 1 v ws.length (ws.map Value.string)) ∧ Hid (Below w.heap.size w wr) ∧ Hid (Left_ s k ws T)) (fun _ i _ => s.size - (intOf i).toNat)
  case atStart => exact ⟨0, [], Nat.zero_le _, rfl, by simp, World.ownsRow_nil _ _ _ _, Below.refl _ _, HL⟩
  case round =>
    clear HL
    obtain ⟨k, ws, hk, rfl, hn, HO, HB, HL⟩ := hrel
    obtain ⟨ao, cap, rfl⟩ := owns_shape HO.out
    by_cases hlt : k < s.size
    · by_cases hb : bt s k = 32
      · have L := left_blank HL.out hlt hb
        have L := hid2 L
        have hb2 : ((s[k].toNat : Int) == 32) = true := by rw [bt_get s k hlt, hb]; rfl
        clear hb
        go_wp2_with fail
        go_roundw
        case rel => exact ⟨k + 1, ws, by omega, by go_num, hn, HO, HB, L⟩
        case measure => simp [intOf]; omega
      · have hb2 : ((s[k].toNat : Int) == 32) = false := by rw [bt_get s k hlt]; simpa using hb
        have HN := hid2 hb
        clear hb
        have hwl := wl_le s k hlt
        by_cases hw : wl s k = 0
        · have e := left_none HL.out hlt HN.out hw
          subst e
          have hw2 : (((wl s k : Nat) : Int) == 0) = true := by simp [hw]
          clear hw
          go_wp2_with (go_at_call 41; refine (wordLenAt s k _ hlt hm.out).mono ?_; rintro e w' ⟨rfl, rfl⟩)
          go_ret2
          exact ⟨_, rfl, World.ownsRow_nil _ _ _ _, HB.out⟩
        · have hw2 : (((wl s k : Nat) : Int) == 0) = false := by simp; omega
          have HW := hid2 hw
          clear hw
          by_cases hc : ws.length = 80
          · have e := left_many HL.out hlt HN.out HW.out hc
            subst e
            have hc2 : (((ws.length : Nat) : Int) == 80) = true := by simp [hc]
            clear hc
            go_wp2_with (go_at_call 41; refine (wordLenAt s k _ hlt hm.out).mono ?_; rintro e w' ⟨rfl, rfl⟩)
            go_ret2
            exact ⟨_, rfl, World.ownsRow_nil _ _ _ _, HB.out⟩
          · have L := hid2 (left_word HL.out hlt HN.out HW.out hc)
            have hc2 : (((ws.length : Nat) : Int) == 80) = false := by simp; omega
            have hc3 : ws.length + 1 ≤ 80 := by omega
            clear hc
            go_wp2_with (first | (go_at_call 41; refine (wordLenAt s k _ hlt hm.out).mono ?_; rintro e w' ⟨rfl, rfl⟩) | (at_builtin; go_must (refine wpList_append_own _ rfl (.tmp 32) (.tmp 39) 23 rfl w.heap.size 9 i0 (.string ⟨#[]⟩) 1 16 Try.underlying23 hi hz0 hz1 hz2 rfl (by decide) _ _ _ rfl (HO.out.alloc _) ⟨w'.heap.size, 0, none⟩ 1 1 [.string (s.extract k (k + wl s k))] rfl rfl (cell_one_new _ _ _) (by intro u hu; simp at hu; subst hu; rfl) (by show _ ≤ 2 ^ 63 - 1; omega) (by omega) (by have := HB.out.size; simp; omega) ?_)))
            intro v' w1 ho' hg _
            have R := own_word HB.out HO.out ho' hg
            have R := hid2 R
            clear ho' hg
            go_wp2_with fail
            go_roundw
            case rel => exact ⟨k + wl s k, _, by omega, by go_num, by simpa using hc3, R.out.1, R.out.2, L⟩
            case measure => simp [intOf]; have := HW.out; omega
    · have e := left_end HL.out (by omega)
      subst e
      have hge : ¬ ((k : Int) < (s.size : Int)) := by omega
      go_wp2_with fail
      go_ret2
      exact ⟨_, rfl, HO.out, HB.out⟩

theorem words_any (s : ByteArray) (w : World) : Calls Try.prog 11 #[.string s] w fun e w' => ∃ v, e = .returned (.tuple #[v, errV (lexT s).1]) ∧ w'.ownsRow w.heap.size 9 1 v (lexT s).2.length ((lexT s).2.map Value.string) ∧ Below w.heap.size w w' := by
  by_cases h : s.size ≤ 240
  · exact words_short s w h
  · exact words_long s w (by omega)
end Go.Proofs.Yticgfdcgobdlmaa
