/- The closed fact spins, and NewDisk out of range, over this seat's translation. Conditions: none. -/
import Derived.Test.YtjiopjdbifcfkacDiskS
namespace Go.Proofs.Ytjiopjdbifcfkac
open Go.ChangeShapes Go.WideShapes Go.ChangeAt Go.RowKit
set_option linter.unusedVariables false
set_option linter.unusedSimpArgs false

set_option maxRecDepth 100000 in
theorem rnew_out (n : Int) (w : World) (h : n < 1 ∨ 160 < n) :
    Calls Try.prog 8 #[.int .i64 n] w fun e w' => e = .returned (.tuple #[.pointer none, .int .i64 1]) ∧ Below w.heap.size w w' := by
  by_cases h1 : n < 1
  · have d1 : decide (n < 1) = true := by simp [h1]
    go_enter Try.func8, Try.ntmps8
    go_wp2_with fail
    go_ret2
    exact ⟨rfl, Below.refl _ _⟩
  · have d1 : decide (n < 1) = false := by simp [h1]
    have d2 : decide (160 < n) = true := by simp; omega
    go_enter Try.func8, Try.ntmps8
    go_wp2_with fail
    go_ret2
    exact ⟨rfl, Below.refl _ _⟩
theorem xy_len : (⟨#[120, 121]⟩ : ByteArray).size ≤ 256 := by decide
theorem strB_size (b : Blk) : ∃ S : ByteArray, strB b = .string S ∧ S.size = 256 ∧ S.data.toList = b.1 := ⟨⟨b.1.toArray⟩, rfl, by show b.1.toArray.size = 256; rw [List.size_toArray]; exact b.2, by simp⟩
theorem xy_head (S : ByteArray) (h : S.data.toList = (pad ⟨#[120, 121]⟩ xy_len).1) : S.extract 0 2 = ⟨#[120, 121]⟩ := by
  have e : S = ⟨(pad ⟨#[120, 121]⟩ xy_len).1.toArray⟩ := by
    rw [← h]
  rw [e]
  decide +kernel
set_option maxRecDepth 100000 in
set_option maxHeartbeats 2000000 in
theorem spins_any (w : World) : Calls Try.prog 5 #[] w fun e w' => e = .returned (.bool true) ∧ Below w.heap.size w w' := by
  have NW := hidE (new_in 3 w.heap.size w (Nat.le_refl _) (by decide) (by decide))
  go_enter Try.func5, Try.ntmps5
  go_wp2_with fail
  refine NW.out.mono ?_
  rintro e w1 ⟨gd, gs, rfl, hb, hd⟩
  have B1 := hidE hb
  have WR := hidE (write_g 1 ⟨#[120, 121]⟩ w.heap.size gd gs 0 (-1) false _ w1 hd (by decide) (by decide) (fun s hs => by rw [List.eq_of_mem_replicate hs]; exact Nat.zero_le _) (by decide) (by decide))
  have HD := hidE hd
  clear hb hd NW
  go_wp2_with fail
  refine WR.out.mono ?_
  intro e w2 hr
  rcases hr with ⟨ho, -⟩ | ⟨-, hdn, -⟩ | ⟨i, hi, ht, wv', hai, -, -, rfl, hk, hob, hd2⟩
  · exact absurd ⟨by decide, by decide, by decide⟩ ho
  · simp at hdn
  have hi1 : i = 1 := by omega
  subst hi1
  have B2 : Hid (Below w.heap.size w w2) := by
    refine B1.out.trans (keptB_below hk B1.out.size (fun k e => (dskG_lt HD.out e).1))
  obtain ⟨ss2, e2, l2, q2, hq2, k2⟩ : ∃ ss2 : List Sec, (List.replicate 3 sec0).set 1 ⟨(List.replicate 3 sec0)[1].kept, (List.replicate 3 sec0)[1].ws.filter (fun p => !(p.1 == 0)) ++ [(0, pad ⟨#[120, 121]⟩ ht)], wv'⟩ = ss2 ∧ ss2.length = 3 ∧ ∃ q, ss2[1]? = some q ∧ settleK 18446744073709551615 q.kept q.ws = pad ⟨#[120, 121]⟩ xy_len := by
    refine ⟨_, rfl, by rw [List.length_set, List.length_replicate], _, List.getElem?_set_self (by decide), ?_⟩
    have hk0 : kb 18446744073709551615 0 = true := kb_ones 0
    show settleK _ (List.replicate 3 sec0)[1].kept ((List.replicate 3 sec0)[1].ws.filter (fun p => !(p.1 == 0)) ++ [(0, pad ⟨#[120, 121]⟩ ht)]) = _
    rw [settleK_write, if_pos hk0]
  rw [e2] at hd2
  have FL := hidE (flush_g w.heap.size gd gs _ _ false _ w2 hd2 (by omega) (by decide))
  have HD2 := hidE hd2
  clear hk hob hd2 WR HD B1 hai e2
  go_wp2_with fail
  refine FL.out.mono ?_
  intro e w3 hr
  rcases hr with ⟨hdn, -⟩ | ⟨-, -, rfl, hk, hd3⟩
  · simp [stepL] at hdn
  have B3 : Hid (Below w.heap.size w w3) := B2.out.trans (keptB_below hk B2.out.size (fun k e => by
    rcases e with e | e
    · have := HD2.out.b1; omega
    · have := HD2.out.b2; omega))
  obtain ⟨ss3, e3, l3, q3, hq3, k3⟩ : ∃ ss3 : List Sec, ss2.map (settleS 18446744073709551615) = ss3 ∧ ss3.length = 3 ∧ ∃ q, ss3[1]? = some q ∧ settleK 0 q.kept q.ws = pad ⟨#[120, 121]⟩ xy_len := by
    refine ⟨_, rfl, by rw [List.length_map]; exact l2, settleS 18446744073709551615 q2, by rw [List.getElem?_map, hq2]; rfl, ?_⟩
    exact k2
  rw [e3] at hd3
  have RS := hidE (restart_g 0 (by decide) w.heap.size gd gs _ _ false _ w3 hd3 (by omega))
  have HD3 := hidE hd3
  clear hk hd3 FL HD2 B2 e3 hq2 k2 l2
  go_wp2_with fail
  refine RS.out.mono ?_
  rintro e w4 ⟨rfl, hk, hd4⟩
  have B4 : Hid (Below w.heap.size w w4) := B3.out.trans (keptB_below hk B3.out.size (fun k e => by
    rcases e with e | e
    · have := HD3.out.b1; omega
    · have := HD3.out.b2; omega))
  obtain ⟨ss4, e4, l4, k4⟩ : ∃ ss4 : List Sec, ss3.map (settleS 0) = ss4 ∧ ss4.length = 3 ∧ ∀ h : 1 < ss4.length, textS ss4[1] = pad ⟨#[120, 121]⟩ xy_len := by
    refine ⟨_, rfl, by rw [List.length_map]; exact l3, fun h => ?_⟩
    have h9 : (ss3.map (settleS 0))[1]? = some (settleS 0 q3) := by rw [List.getElem?_map, hq3]; rfl
    rw [List.getElem?_eq_getElem h] at h9
    rw [Option.some.inj h9]
    exact k3
  rw [e4] at hd4
  have RD := read_g 1 w.heap.size gd gs _ _ _ w4 hd4 (by omega) (by omega)
  rw [k4] at RD
  have HD4 := hidE hd4
  obtain ⟨S, hS, hsz, hda⟩ := strB_size (pad ⟨#[120, 121]⟩ xy_len)
  rw [hS] at RD
  have RDH := hidE RD
  have HSZ := hidE hsz
  have hxy := xy_head S hda
  clear RD hk hd4 HD3 RS hda hS B3 e4 k4 hq3 k3 l3
  go_wp2_with fail
  refine RDH.out.mono ?_
  rintro e w5 ⟨rfl, hb5⟩
  have B5 : Hid (Below w.heap.size w w5) := B4.out.trans (hb5.mono B4.out.size)
  have SE := hidE (sectors_g w.heap.size gd gs _ _ _ _ w5 (dskG_below HD4.out hb5))
  have eL : (ss4.length : Int) = 3 := by omega
  rw [eL] at SE
  clear RDH B4 HD4 eL l4
  have S0 := fun w => same_nil 0 w
  clear hb5
  go_wp2_with (first | (go_at_call 9; refine (S0 _).mono ?_; rintro e w' ⟨rfl, rfl⟩) | (go_at_call 10; refine SE.out.mono ?_; rintro e w6 ⟨rfl, hb6⟩; have B6 := hidE (B5.out.trans (hb6.mono B5.out.size)); clear hb6))
  go_ret
  exact ⟨rfl, B6.out⟩
end Go.Proofs.Ytjiopjdbifcfkac
