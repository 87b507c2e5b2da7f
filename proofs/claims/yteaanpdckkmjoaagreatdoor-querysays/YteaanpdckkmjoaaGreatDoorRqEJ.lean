/- Several texts in one, each with its own head. What is proved: what the parts say. Conditions: theirs. -/
import Derived.Test.YteaanpdckkmjoaaGreatDoorRqCJ
import Derived.Test.YteaanpdckkmjoaaGreatDoorParsePureJ
set_option linter.unusedVariables false
set_option linter.unusedSimpArgs false
set_option maxRecDepth 100000
set_option maxHeartbeats 8000000
namespace Go.Proofs.YteaanpdckkmjoaaGreatDoor
open Go.ChangeShapes Go.WideShapes Go.ChangeAt Go.RowKit Go.Great
theorem rrest_num (g : Nat) (wv : Value) (all : Ws) (hne : ∀ x ∈ all,x ≠ ⟨#[]⟩) (hsz : ∀ x ∈ all,x.size ≤ 240) (n : Nat) (ws ws1 : Ws) (d : Int) (w : World) (h : RD w g wv all n ws d 0) (ht : tk wOpen ws = none) (y : Nat) (hv : y ≤ 1000000000) (hcons : ws = hdW ws :: ws1) (hq : natQ 1000000000 (hdW ws) = y) (hl : leafQ (hdW ws) = some ⟨1,0,0,0,1,(y : Int)⟩)
  (e0 : ((hdW ws).toList == [116]) = false) (e1 : ((hdW ws).toList == [107]) = false) (e2 : ((hdW ws).toList == [97]) = false) (e3 : ((hdW ws).toList == [98]) = false) (e4 : ((hdW ws).toList == [110,117,108,108]) = false) (e5 : ((hdW ws).toList == [116,114,117,101]) = false) (e6 : ((hdW ws).toList == [102,97,108,115,101]) = false) :
  Calls Tryz.prog 61 #[.pointer (some ⟨g,0,none⟩)] w fun r w' => ∃ v,r = .returned v ∧ isSl v = true ∧ RLu w w' g wv all d (.ok ([⟨1,0,0,0,1,(y : Int)⟩],ws1)) v:=by
 have NX:=hidE (rnext_any g wv all n ws d 0 w h)
 have H:=hidE h
 have HSZ:=hidE hsz
 have TK:=fun w hp => rtake_any g wOpen (by decide) wv all hne n ws d 0 w hp
 unfold RTakeR at TK
 simp only [ht] at TK
 unfold wOpen at TK
 have TK:=hidE TK
 have WN:=hidE (leaf_wf (s:=hdW ws) hl)
 have NU:=fun w (hp : RD w g wv all n ws d 0) => rnum_good 1000000000 (Nat.le_refl _) g wv all hsz n (hdW ws) ws1 d 0 w (by rw [hcons] at hp;exact hp) y hq
 have NU:=hidE NU
 have q1 : numK (y : Int) = 1:=by unfold numK;rw [if_pos (by omega)]
 have q2 : numN (y : Int) = (y : Int):=by unfold numN;rw [if_pos (by omega)]
 have NM:=fun w => rnum_x (y : Int) w
 rw [q1,q2] at NM
 have NM:=hidE NM
 clear hcons hl hq q1 q2
 obtain ⟨i0,hi0,hz0,hz1,hz2⟩:=info_parts infoN
 clear h ht hne hsz
 generalize hdW ws = x at *
 go_enter Tryz.func61,Tryz.ntmps61
 go_wp2_with fail
 refine NX.out.mono ?_
 rintro r w0 ⟨rfl,hb⟩
 have TK0:=hidE (TK.out w0 (rd_kept H.out hb))
 have HB0 : Hid (KeptB w w0 (fun q => q = g)):=keptB_of_below hb
 clear hb NX TK H
 go_wp2_with fail
 refine TK0.out.mono ?_
 rintro r w1 ⟨rfl,hk,hp⟩
 have ba:=below_alloc w1 (.cells #[.string ⟨#[116]⟩,.string ⟨#[107]⟩,.string ⟨#[97]⟩,.string ⟨#[98]⟩] 9)
 have HK:=hidE (keptB_trans (keptB_trans HB0.out hk) (keptB_of_below (bad:=fun q => q = g) ba))
 have HP:=hidE (rd_kept hp ba)
 have BL:=blk_alloc w1 [.string ⟨#[116]⟩,.string ⟨#[107]⟩,.string ⟨#[97]⟩,.string ⟨#[98]⟩] 9
 have k0:=BL.c 0 (by simp)
 have k1:=BL.c 1 (by simp)
 have k2:=BL.c 2 (by simp)
 have k3:=BL.c 3 (by simp)
 simp only [List.getElem?_cons_zero,List.getElem?_cons_succ] at k0 k1 k2 k3
 clear hk hp TK0 HB0 ba BL
 go_wp2_with fail
 generalize hw2 : (w1.alloc (.cells [.string ⟨#[116]⟩,.string ⟨#[107]⟩,.string ⟨#[97]⟩,.string ⟨#[98]⟩].toArray 9)) = w2 at *
 clear hw2
 go_loopw [7] (fun iv wr => ∃ k : Nat,k ≤ 4 ∧ iv = .int .i64 k ∧ wr = w2) (fun iv _ => 4 - (intOf iv).toNat)
 case atStart => exact ⟨0,by omega,rfl,rfl⟩
 case round =>
  obtain ⟨k,hk,rfl,rfl⟩:=hrel
  have hk2 : k = 0 ∨ k = 1 ∨ k = 2 ∨ k = 3 ∨ k = 4:=by omega
  clear hk
  rcases hk2 with rfl | rfl | rfl | rfl | rfl
  ·go_wp2_with fail
   go_roundw
   case rel => exact ⟨1,by omega,by first | rfl | go_num | trivial,by first | rfl | trivial⟩
   case measure => simp [intOf]
  ·go_wp2_with fail
   go_roundw
   case rel => exact ⟨2,by omega,by first | rfl | go_num | trivial,by first | rfl | trivial⟩
   case measure => simp [intOf]
  ·go_wp2_with fail
   go_roundw
   case rel => exact ⟨3,by omega,by first | rfl | go_num | trivial,by first | rfl | trivial⟩
   case measure => simp [intOf]
  ·go_wp2_with fail
   go_roundw
   case rel => exact ⟨4,by omega,by first | rfl | go_num | trivial,by first | rfl | trivial⟩
   case measure => simp [intOf]
  ·go_wp2_with fail
   refine (NU.out _ HP.out).mono ?_
   rintro r w3 ⟨hk3,rfl,hp3⟩
   have bv:=below_alloc w3 (.cells #[.int .i64 1,.int .i64 (y : Int)] 89)
   have HK3:=hidE (keptB_trans (keptB_trans HK.out hk3) (keptB_of_below (bad:=fun q => q = g) bv))
   have P3:=hidE (rd_kept hp3 bv)
   clear hk3 hp3 bv NU HK HP
   go_wp2_with fail
   refine (NM.out _).mono ?_
   rintro r w4 ⟨rfl,rfl⟩
   clear NM
   go_wp2_with (refine wpList_buildOneN rfl 23 91 _ rfl [.int .i64 1,.int .i64 0,.int .i64 0,.int .i64 0,.int .i64 1,.int .i64 (y : Int)] 6 rfl i0 _ Tryz.underlying23 hi0 hz0 hz2 rfl (by omega) (by omega) ?_)
   go_ret
   have bz:=below_alloc (w3.alloc (.cells #[.int .i64 1,.int .i64 (y : Int)] 89)) (.cells #[.int .i64 1,.int .i64 0,.int .i64 0,.int .i64 0,.int .i64 1,.int .i64 (y : Int)] 91)
   have h9 : (w3.alloc (.cells #[.int .i64 1,.int .i64 (y : Int)] 89)).heap.size = w3.heap.size + 1:=by simp
   have ND:=nds_one ⟨1,0,0,0,1,(y : Int)⟩ P3.out.bd.lt WN.out
   rw [h9] at ND
   exact ⟨.slice (some ⟨w3.heap.size + 1,0,none⟩) 1 1,rfl,rfl,keptB_trans HK3.out (keptB_of_below bz),n + 1,ND,rd_kept P3.out bz⟩
theorem rrest_bad (g : Nat) (wv : Value) (all : Ws) (hne : ∀ x ∈ all,x ≠ ⟨#[]⟩) (hsz : ∀ x ∈ all,x.size ≤ 240) (n : Nat) (ws : Ws) (d : Int) (w : World) (h : RD w g wv all n ws d 0) (ht : tk wOpen ws = none) (hq : natQ 1000000000 (hdW ws) = -1)
  (e0 : ((hdW ws).toList == [116]) = false) (e1 : ((hdW ws).toList == [107]) = false) (e2 : ((hdW ws).toList == [97]) = false) (e3 : ((hdW ws).toList == [98]) = false) (e4 : ((hdW ws).toList == [110,117,108,108]) = false) (e5 : ((hdW ws).toList == [116,114,117,101]) = false) (e6 : ((hdW ws).toList == [102,97,108,115,101]) = false) :
  Calls Tryz.prog 61 #[.pointer (some ⟨g,0,none⟩)] w fun r w' => ∃ v,r = .returned v ∧ isSl v = true ∧ RLu w w' g wv all d (.error 4) v:=by
 have NX:=hidE (rnext_any g wv all n ws d 0 w h)
 have H:=hidE h
 have HSZ:=hidE hsz
 have TK:=fun w hp => rtake_any g wOpen (by decide) wv all hne n ws d 0 w hp
 unfold RTakeR at TK
 simp only [ht] at TK
 unfold wOpen at TK
 have TK:=hidE TK
 have NU:=hidE (fun w (hp : RD w g wv all n ws d 0) => rnum_bad 1000000000 (Nat.le_refl _) g wv all hsz n ws d 0 w hp hq)
 have q1 : numK 0 = 1:=by decide
 have q2 : numN 0 = 0:=by decide
 have NM:=fun w => rnum_x 0 w
 rw [q1,q2] at NM
 have NM:=hidE NM
 clear hq q1 q2
 obtain ⟨i0,hi0,hz0,hz1,hz2⟩:=info_parts infoN
 clear h ht hne hsz
 generalize hdW ws = x at *
 go_enter Tryz.func61,Tryz.ntmps61
 go_wp2_with fail
 refine NX.out.mono ?_
 rintro r w0 ⟨rfl,hb⟩
 have TK0:=hidE (TK.out w0 (rd_kept H.out hb))
 have HB0 : Hid (KeptB w w0 (fun q => q = g)):=keptB_of_below hb
 clear hb NX TK H
 go_wp2_with fail
 refine TK0.out.mono ?_
 rintro r w1 ⟨rfl,hk,hp⟩
 have ba:=below_alloc w1 (.cells #[.string ⟨#[116]⟩,.string ⟨#[107]⟩,.string ⟨#[97]⟩,.string ⟨#[98]⟩] 9)
 have HK:=hidE (keptB_trans (keptB_trans HB0.out hk) (keptB_of_below (bad:=fun q => q = g) ba))
 have HP:=hidE (rd_kept hp ba)
 have BL:=blk_alloc w1 [.string ⟨#[116]⟩,.string ⟨#[107]⟩,.string ⟨#[97]⟩,.string ⟨#[98]⟩] 9
 have k0:=BL.c 0 (by simp)
 have k1:=BL.c 1 (by simp)
 have k2:=BL.c 2 (by simp)
 have k3:=BL.c 3 (by simp)
 simp only [List.getElem?_cons_zero,List.getElem?_cons_succ] at k0 k1 k2 k3
 clear hk hp TK0 HB0 ba BL
 go_wp2_with fail
 generalize hw2 : (w1.alloc (.cells [.string ⟨#[116]⟩,.string ⟨#[107]⟩,.string ⟨#[97]⟩,.string ⟨#[98]⟩].toArray 9)) = w2 at *
 clear hw2
 go_loopw [7] (fun iv wr => ∃ k : Nat,k ≤ 4 ∧ iv = .int .i64 k ∧ wr = w2) (fun iv _ => 4 - (intOf iv).toNat)
 case atStart => exact ⟨0,by omega,rfl,rfl⟩
 case round =>
  obtain ⟨k,hk,rfl,rfl⟩:=hrel
  have hk2 : k = 0 ∨ k = 1 ∨ k = 2 ∨ k = 3 ∨ k = 4:=by omega
  clear hk
  rcases hk2 with rfl | rfl | rfl | rfl | rfl
  ·go_wp2_with fail
   go_roundw
   case rel => exact ⟨1,by omega,by first | rfl | go_num | trivial,by first | rfl | trivial⟩
   case measure => simp [intOf]
  ·go_wp2_with fail
   go_roundw
   case rel => exact ⟨2,by omega,by first | rfl | go_num | trivial,by first | rfl | trivial⟩
   case measure => simp [intOf]
  ·go_wp2_with fail
   go_roundw
   case rel => exact ⟨3,by omega,by first | rfl | go_num | trivial,by first | rfl | trivial⟩
   case measure => simp [intOf]
  ·go_wp2_with fail
   go_roundw
   case rel => exact ⟨4,by omega,by first | rfl | go_num | trivial,by first | rfl | trivial⟩
   case measure => simp [intOf]
  ·go_wp2_with fail
   refine (NU.out _ HP.out).mono ?_
   rintro r w3 ⟨hk3,rfl,hp3⟩
   rw [errN_0] at hp3
   have bv:=below_alloc w3 (.cells #[.int .i64 1,.int .i64 0] 89)
   have HK3:=hidE (keptB_trans (keptB_trans HK.out hk3) (keptB_of_below (bad:=fun q => q = g) bv))
   have P3:=hidE (rd_kept hp3 bv)
   clear hk3 hp3 bv NU HK HP
   go_wp2_with fail
   refine (NM.out _).mono ?_
   rintro r w4 ⟨rfl,rfl⟩
   clear NM
   go_wp2_with (refine wpList_buildOneN rfl 23 91 _ rfl [.int .i64 1,.int .i64 0,.int .i64 0,.int .i64 0,.int .i64 1,.int .i64 0] 6 rfl i0 _ Tryz.underlying23 hi0 hz0 hz2 rfl (by omega) (by omega) ?_)
   go_ret
   have bz:=below_alloc (w3.alloc (.cells #[.int .i64 1,.int .i64 0] 89)) (.cells #[.int .i64 1,.int .i64 0,.int .i64 0,.int .i64 0,.int .i64 1,.int .i64 0] 91)
   exact ⟨.slice (some ⟨w3.heap.size + 1,0,none⟩) 1 1,rfl,rfl,keptB_trans HK3.out (keptB_of_below bz),n,by decide,rd_kept P3.out bz⟩
end Go.Proofs.YteaanpdckkmjoaaGreatDoor
namespace Go.Proofs.YteaanpdckkmjoaaGreatDoor
open Go.ChangeShapes Go.WideShapes Go.ChangeAt Go.RowKit
theorem lt_t {x word : ByteArray} {l : List UInt8} (h : word.toList = l) (e : x = word) : (x.toList == l) = true:=by rw [← h,e];exact tl_same _
theorem lt_f {x word : ByteArray} {l : List UInt8} (h : word.toList = l) (e : x ≠ word) : (x.toList == l) = false:=by rw [← h];exact tl_other e
theorem li_T : wT.toList = [116]:=by rw [Lib.toList_data];rfl
theorem li_K : wK.toList = [107]:=by rw [Lib.toList_data];rfl
theorem li_A : wA.toList = [97]:=by rw [Lib.toList_data];rfl
theorem li_B : wB.toList = [98]:=by rw [Lib.toList_data];rfl
theorem li_null : wNull.toList = [110,117,108,108]:=by rw [Lib.toList_data];rfl
theorem li_true : wTrue.toList = [116,114,117,101]:=by rw [Lib.toList_data];rfl
theorem li_false : wFalse.toList = [102,97,108,115,101]:=by rw [Lib.toList_data];rfl
theorem natM_le (M : Nat) : ∀ (l : List UInt8) (a n : Nat),a ≤ M → natM M a l = some n → n ≤ M
 | [],a,n,ha,h => by
  simp only [natM,Option.some.injEq] at h
  omega
 | c :: r,a,n,ha,h => by
  simp only [natM] at h
  split at h
  ·cases h
  ·split at h
   ·cases h
   ·exact natM_le M r _ n (by omega) h
theorem numQ_le {M : Nat} {x : ByteArray} {n : Nat} (h : numQ M x = some n) : n ≤ M:=by
 unfold numQ at h
 split at h
 ·cases h
 ·exact natM_le M _ 0 n (Nat.zero_le _) h
def RestR (inner : Ws → Nat → PR) (ws : Ws) (D : Nat) : PR:=match tk wOpen ws with
 | some ws1 => closeP (deepP inner ws1 D)
 | none => leafP ws
theorem rrest_leaf (g : Nat) (wv : Value) (all : Ws) (hne : ∀ x ∈ all,x ≠ ⟨#[]⟩) (hsz : ∀ x ∈ all,x.size ≤ 240) (n : Nat) (ws : Ws) (d : Int) (w : World) (h : RD w g wv all n ws d 0) (ht : tk wOpen ws = none) :
  Calls Tryz.prog 61 #[.pointer (some ⟨g,0,none⟩)] w fun r w' => ∃ v,r = .returned v ∧ isSl v = true ∧ RLu w w' g wv all d (leafP ws) v:=by
 cases ws with
 | nil =>
  exact rrest_bad g wv all hne hsz n [] d w h ht (natQ_nil _) (lt_f li_T (by decide)) (lt_f li_K (by decide)) (lt_f li_A (by decide)) (lt_f li_B (by decide)) (lt_f li_null (by decide)) (lt_f li_true (by decide)) (lt_f li_false (by decide))
 | cons x r =>
  cases hl : leafQ x with
  | none =>
   have e : leafP (x :: r) = .error 4:=by simp only [leafP,hl]
   rw [e]
   unfold leafQ at hl
   cases hf : fldQ x with
   | some i => rw [hf] at hl;cases hl
   | none =>
    rw [hf] at hl
    simp only at hl
    unfold fldQ at hf
    by_cases q0 : x = wT
    ·rw [if_pos q0] at hf;cases hf
    rw [if_neg q0] at hf
    by_cases q1 : x = wK
    ·rw [if_pos q1] at hf;cases hf
    rw [if_neg q1] at hf
    by_cases q2 : x = wA
    ·rw [if_pos q2] at hf;cases hf
    rw [if_neg q2] at hf
    by_cases q3 : x = wB
    ·rw [if_pos q3] at hf;cases hf
    by_cases q4 : x = wNull
    ·rw [if_pos q4] at hl;cases hl
    rw [if_neg q4] at hl
    by_cases q5 : x = wFalse
    ·rw [if_pos q5] at hl;cases hl
    rw [if_neg q5] at hl
    by_cases q6 : x = wTrue
    ·rw [if_pos q6] at hl;cases hl
    rw [if_neg q6] at hl
    cases hq : numQ 1000000000 x with
    | some v => rw [hq] at hl;cases hl
    | none =>
     exact rrest_bad g wv all hne hsz n (x :: r) d w h ht (by show natQ _ x = _;unfold natQ;rw [hq]) (lt_f li_T q0) (lt_f li_K q1) (lt_f li_A q2) (lt_f li_B q3) (lt_f li_null q4) (lt_f li_true q6) (lt_f li_false q5)
  | some nd =>
   have e : leafP (x :: r) = .ok ([nd],r):=by simp only [leafP,hl]
   rw [e]
   have hl0:=hl
   unfold leafQ at hl
   by_cases q0 : x = wT
   ·have hf : fldQ x = some 0:=by unfold fldQ;rw [if_pos q0]
    rw [hf] at hl;cases hl
    exact rrest_f0 g wv all hne hsz n (x :: r) r d w h ht rfl hl0 (lt_t li_T q0)
   by_cases q1 : x = wK
   ·have hf : fldQ x = some 1:=by unfold fldQ;rw [if_neg q0,if_pos q1]
    rw [hf] at hl;cases hl
    exact rrest_f1 g wv all hne hsz n (x :: r) r d w h ht rfl hl0 (lt_f li_T q0) (lt_t li_K q1)
   by_cases q2 : x = wA
   ·have hf : fldQ x = some 2:=by unfold fldQ;rw [if_neg q0,if_neg q1,if_pos q2]
    rw [hf] at hl;cases hl
    exact rrest_f2 g wv all hne hsz n (x :: r) r d w h ht rfl hl0 (lt_f li_T q0) (lt_f li_K q1) (lt_t li_A q2)
   by_cases q3 : x = wB
   ·have hf : fldQ x = some 3:=by unfold fldQ;rw [if_neg q0,if_neg q1,if_neg q2,if_pos q3]
    rw [hf] at hl;cases hl
    exact rrest_f3 g wv all hne hsz n (x :: r) r d w h ht rfl hl0 (lt_f li_T q0) (lt_f li_K q1) (lt_f li_A q2) (lt_t li_B q3)
   have hf : fldQ x = none:=by unfold fldQ;rw [if_neg q0,if_neg q1,if_neg q2,if_neg q3]
   rw [hf] at hl
   simp only at hl
   by_cases q4 : x = wNull
   ·rw [if_pos q4] at hl;cases hl
    exact rrest_null g wv all hne hsz n (x :: r) r d w h ht rfl hl0 (lt_f li_T q0) (lt_f li_K q1) (lt_f li_A q2) (lt_f li_B q3) (lt_t li_null q4)
   rw [if_neg q4] at hl
   by_cases q5 : x = wFalse
   ·rw [if_pos q5] at hl;cases hl
    exact rrest_false g wv all hne hsz n (x :: r) r d w h ht rfl hl0 (lt_f li_T q0) (lt_f li_K q1) (lt_f li_A q2) (lt_f li_B q3) (lt_f li_null q4) (lt_f li_true (show x ≠ wTrue by rw [q5];decide)) (lt_t li_false q5)
   rw [if_neg q5] at hl
   by_cases q6 : x = wTrue
   ·rw [if_pos q6] at hl;cases hl
    exact rrest_true g wv all hne hsz n (x :: r) r d w h ht rfl hl0 (lt_f li_T q0) (lt_f li_K q1) (lt_f li_A q2) (lt_f li_B q3) (lt_f li_null q4) (lt_t li_true q6)
   rw [if_neg q6] at hl
   cases hq : numQ 1000000000 x with
   | none => rw [hq] at hl;cases hl
   | some v =>
    rw [hq] at hl;cases hl
    exact rrest_num g wv all hne hsz n (x :: r) r d w h ht v (numQ_le hq) rfl (by show natQ _ x = _;unfold natQ;rw [hq]) hl0 (lt_f li_T q0) (lt_f li_K q1) (lt_f li_A q2) (lt_f li_B q3) (lt_f li_null q4) (lt_f li_true q6) (lt_f li_false q5)
theorem rrest_any (inner : Ws → Nat → PR) (g : Nat) (wv : Value) (all : Ws) (hne : ∀ x ∈ all,x ≠ ⟨#[]⟩) (hsz : ∀ x ∈ all,x.size ≤ 240) (n : Nat) (ws : Ws) (D : Nat) (hD : D ≤ 12) (w : World) (h : RD w g wv all n ws (D : Int) 0)
  (hT : RestR inner ws D ≠ .error 99)
  (hr : D ≠ 12 → ∀ ws1 w1 n',inner ws1 (D + 1) ≠ .error 99 → RD w1 g wv all n' ws1 ((D : Int) + 1) 0 → Calls Tryz.prog 36 #[.pointer (some ⟨g,0,none⟩),.int .i64 0] w1 fun r w' => ∃ v,r = .returned v ∧ isSl v = true ∧ RLu w1 w' g wv all ((D : Int) + 1) (inner ws1 (D + 1)) v) :
  Calls Tryz.prog 61 #[.pointer (some ⟨g,0,none⟩)] w fun r w' => ∃ v,r = .returned v ∧ isSl v = true ∧ RLu w w' g wv all (D : Int) (RestR inner ws D) v:=by
 unfold RestR at hT ⊢
 cases ht : tk wOpen ws with
 | some ws1 =>
  rw [ht] at hT
  simp only at hT
  exact rrest_open g wv all hne n ws ws1 D hD w h ht (inner ws1 (D + 1)) (fun hd w1 n' hp => hr hd ws1 w1 n' (fun e => hT (by unfold deepP;rw [if_neg hd,e];rfl)) hp)
 | none => exact rrest_leaf g wv all hne hsz n ws (D : Int) w h ht
end Go.Proofs.YteaanpdckkmjoaaGreatDoor
namespace Go.Proofs.YteaanpdckkmjoaaGreatDoor
def rowOp (k : Int) (x : ByteArray) : Int :=
 if x = wOr then (if k = 0 then 10 else 0) else if x = wAnd then (if k = 1 then 9 else 0) else if x = wPlus then (if k = 4 then 6 else 0) else if x = wMinus then (if k = 4 then 7 else 0) else if x = wStar then (if k = 5 then 8 else 0) else 0
def rkOf (k : Int) : Int:=if k = 0 then 0 else if k = 1 then 1 else if k = 4 then 3 else 4
theorem tkS_row (k : Int) (hk : k = 0 ∨ k = 1 ∨ k = 4 ∨ k = 5) (x : ByteArray) (r : List ByteArray) :
  tkS (rkOf k) (x :: r) = if rowOp k x = 0 then none else some (⟨rkOf k,rowOp k x,false,false⟩,r):=by
 simp only [tkS,sgOf,sgL,sgIn]
 by_cases h1 : x = wOr
 ·subst h1
  rcases hk with rfl | rfl | rfl | rfl <;> simp [rkOf,rowOp]
 rw [if_neg h1]
 by_cases h2 : x = wAnd
 ·subst h2
  rcases hk with rfl | rfl | rfl | rfl <;> simp [rkOf,rowOp,h1]
 rw [if_neg h2]
 by_cases h9 : x = wPlus
 ·subst h9
  rcases hk with rfl | rfl | rfl | rfl <;> simp [rkOf,rowOp,wPlus,wLt,wGt,wLe,wGe,wEq,wNe,wOr,wAnd]
 by_cases h10 : x = wMinus
 ·subst h10
  rcases hk with rfl | rfl | rfl | rfl <;> simp [rkOf,rowOp,wPlus,wMinus,wLt,wGt,wLe,wGe,wEq,wNe,wOr,wAnd]
 by_cases h11 : x = wStar
 ·subst h11
  rcases hk with rfl | rfl | rfl | rfl <;> simp [rkOf,rowOp,wPlus,wMinus,wStar,wLt,wGt,wLe,wGe,wEq,wNe,wOr,wAnd]
 have e : rowOp k x = 0:=by unfold rowOp;rw [if_neg h1,if_neg h2,if_neg h9,if_neg h10,if_neg h11]
 rw [e,if_pos rfl,if_neg h9,if_neg h10,if_neg h11]
 by_cases c0 : x = wLt
 ·rw [if_pos c0]
  rcases hk with rfl | rfl | rfl | rfl <;> simp [rkOf]
 rw [if_neg c0]
 by_cases c1 : x = wGt
 ·rw [if_pos c1]
  rcases hk with rfl | rfl | rfl | rfl <;> simp [rkOf]
 rw [if_neg c1]
 by_cases c2 : x = wLe
 ·rw [if_pos c2]
  rcases hk with rfl | rfl | rfl | rfl <;> simp [rkOf]
 rw [if_neg c2]
 by_cases c3 : x = wGe
 ·rw [if_pos c3]
  rcases hk with rfl | rfl | rfl | rfl <;> simp [rkOf]
 rw [if_neg c3]
 by_cases c4 : x = wEq
 ·rw [if_pos c4]
  rcases hk with rfl | rfl | rfl | rfl <;> simp [rkOf]
 rw [if_neg c4]
 by_cases c5 : x = wNe
 ·rw [if_pos c5]
  rcases hk with rfl | rfl | rfl | rfl <;> simp [rkOf]
 rw [if_neg c5]
end Go.Proofs.YteaanpdckkmjoaaGreatDoor
namespace Go.Proofs.YteaanpdckkmjoaaGreatDoor
open Go.ChangeShapes Go.WideShapes Go.ChangeAt Go.RowKit
def RowQ (wr : World) (g : Nat) (wv : Value) (all : Ws) (d rank : Int) (inner : Ws → PR) (T : PR) (v : Value) : Prop :=
 isSl v = true ∧ ((∃ x ws9 k9 n9,NdsR wr (g + 1) v x ∧ RD wr g wv all n9 ws9 d 0 ∧ rowL inner rank k9 x ws9 = T) ∨ ∃ c n9,0 < c ∧ T = .error c ∧ RD wr g wv all n9 [] d c)
def rmeas (w : World) (g : Nat) : Nat:=match w.cell? ⟨g,3,none⟩ with
 | some (.int _ e) => if e = 0 then (match w.cell? ⟨g,1,none⟩ with
  | some (.int _ n) => 1 + (100 - n.toNat)
  | _ => 0) else 0
 | _ => 0
theorem rmeas_ok {w : World} {g : Nat} {wv : Value} {all : Ws} {n : Nat} {ws : Ws} {d : Int} (h : RD w g wv all n ws d 0) : rmeas w g = 1 + (100 - n) ∧ n ≤ 100:=by
 have c1 : w.cell? ⟨g,1,none⟩ = some (.int .i64 (n : Int)):=h.bd.c 1 (by simp)
 have c3 : w.cell? ⟨g,3,none⟩ = some (.int .i64 0):=h.bd.c 3 (by simp)
 have h1:=h.le
 have h2:=h.few
 refine ⟨?_,by omega⟩
 unfold rmeas
 rw [c3,c1]
 simp
theorem rmeas_err {w : World} {g : Nat} {wv : Value} {all : Ws} {n : Nat} {ws : Ws} {d e : Int} (h : RD w g wv all n ws d e) (he : e ≠ 0) : rmeas w g = 0:=by
 have c3 : w.cell? ⟨g,3,none⟩ = some (.int .i64 e):=h.bd.c 3 (by simp)
 unfold rmeas
 rw [c3]
 simp [he]
theorem rd_len {w : World} {g : Nat} {wv : Value} {all : Ws} {n : Nat} {ws : Ws} {d : Int} (h : RD w g wv all n ws d 0) : ws.length + n = all.length:=by
 have h0:=h.ws0
 rw [if_pos rfl] at h0
 have h1:=h.le
 rw [h0]
 simp
 omega
theorem rmeas_lt {w3 w4 wr : World} {g : Nat} {wv : Value} {all : Ws} {n9 : Nat} {x9 : ByteArray} {ws1 : Ws} {d op : Int} {inner : Ws → PR} {x : List Nd} {v : Value} (hS : ∀ ws y ws2,inner ws = .ok (y,ws2) → ws2.length ≤ ws.length)
  (h : RD wr g wv all n9 (x9 :: ws1) d 0) (h4 : RLu w3 w4 g wv all d (putP op x (inner ws1)) v) : rmeas w4 g < rmeas wr g:=by
 have h0:=rmeas_ok h
 have hl:=rd_len h
 simp only [List.length_cons] at hl
 obtain ⟨-,n',h4⟩:=h4
 cases hi : inner ws1 with
 | error c =>
  rw [hi] at h4
  have h5 : 0 < c ∧ RD w4 g wv all n' [] d c:=h4
  rw [rmeas_err h5.2 (by omega)]
  omega
 | ok p =>
  obtain ⟨y,ws2⟩:=p
  rw [hi] at h4
  have h6:=hS ws1 y ws2 hi
  unfold putP at h4
  simp only at h4
  cases hj : jn2 op x y with
  | error c =>
   rw [hj] at h4
   have h5 : 0 < c ∧ RD w4 g wv all n' [] d c:=h4
   rw [rmeas_err h5.2 (by omega)]
   omega
  | ok z =>
   rw [hj] at h4
   have h5 : NdsR w4 (g + 1) v z ∧ RD w4 g wv all n' ws2 d 0:=h4
   have h7:=rmeas_ok h5.2
   have h8:=rd_len h5.2
   omega
theorem rowL_none {inner : Ws → PR} {rk : Int} {k : Nat} {x : List Nd} {ws : Ws} (h : tkS rk ws = none) : rowL inner rk (k + 1) x ws = .ok (x,ws):=by simp [rowL,h]
theorem rowL_some {inner : Ws → PR} {rk op : Int} {k : Nat} {x : List Nd} {ws ws1 : Ws} (h : tkS rk ws = some (⟨rk,op,false,false⟩,ws1)) :
  rowL inner rk (k + 1) x ws = (match inner ws1 with
   | .error c => .error c
   | .ok (y,ws2) => match jn2 op x y with
    | .error c => .error c
    | .ok z => rowL inner rk k z ws2):=by
 simp only [rowL,h]
 cases inner ws1 with
 | error c => rfl
 | ok p =>
  obtain ⟨y,ws2⟩:=p
  have e : jnS ⟨rk,op,false,false⟩ x y = jn2 op x y:=by
   unfold jnS jnD
   simp
   cases jn2 op x y <;> rfl
  simp only [e]
  cases jn2 op x y <;> rfl
theorem rowQ_start {w w1 : World} {g : Nat} {wv : Value} {all : Ws} {d rk : Int} {inner : Ws → PR} {T : PR} {v : Value} {m : Nat} {ws : Ws} (hs : isSl v = true) (hT : rowP inner rk m ws = T) (h : RLu w w1 g wv all d (inner ws) v) : RowQ w1 g wv all d rk inner T v:=by
 obtain ⟨-,n',h⟩:=h
 refine ⟨hs,?_⟩
 unfold rowP at hT
 cases hi : inner ws with
 | error c =>
  rw [hi] at h hT
  exact .inr ⟨c,n',h.1,hT.symm,h.2⟩
 | ok p =>
  obtain ⟨x,ws1⟩:=p
  rw [hi] at h hT
  exact .inl ⟨x,ws1,m,n',h.1,h.2,hT⟩
theorem rowQ_next {w3 w4 : World} {g : Nat} {wv : Value} {all : Ws} {d rk op : Int} {inner : Ws → PR} {T : PR} {v : Value} {k : Nat} {x : List Nd} {ws1 : Ws} (hs : isSl v = true)
  (hT : (match inner ws1 with
   | .error c => .error c
   | .ok (y,ws2) => match jn2 op x y with
    | .error c => .error c
    | .ok z => rowL inner rk k z ws2) = T) (h : RLu w3 w4 g wv all d (putP op x (inner ws1)) v) : RowQ w4 g wv all d rk inner T v:=by
 obtain ⟨-,n',h⟩:=h
 refine ⟨hs,?_⟩
 cases hi : inner ws1 with
 | error c =>
  rw [hi] at h hT
  exact .inr ⟨c,n',h.1,hT.symm,h.2⟩
 | ok p =>
  obtain ⟨y,ws2⟩:=p
  rw [hi] at h hT
  unfold putP at h
  simp only at h hT
  cases hj : jn2 op x y with
  | error c =>
   rw [hj] at h hT
   exact .inr ⟨c,n',h.1,hT.symm,h.2⟩
  | ok z =>
   rw [hj] at h hT
   exact .inl ⟨z,ws2,k,n',h.1,h.2,hT⟩
theorem rowL_99q {inner : Ws → PR} {rk : Int} {k : Nat} {x : List Nd} {ws : Ws} {T : PR} (h : rowL inner rk k x ws = T) (hT : T ≠ .error 99) : ∃ k8,k = k8 + 1:=by
 cases k with
 | zero => exact absurd h.symm hT
 | succ k => exact ⟨k,rfl⟩
theorem li_or : wOr.toList = [111,114]:=by rw [Lib.toList_data];rfl
theorem li_and : wAnd.toList = [97,110,100]:=by rw [Lib.toList_data];rfl
theorem li_plus : wPlus.toList = [43]:=by rw [Lib.toList_data];rfl
theorem li_minus : wMinus.toList = [45]:=by rw [Lib.toList_data];rfl
theorem li_star : wStar.toList = [42]:=by rw [Lib.toList_data];rfl
theorem five (x : ByteArray) (P : Prop) (h1 : x = wOr → P) (h2 : x ≠ wOr → x = wAnd → P) (h3 : x ≠ wOr → x ≠ wAnd → x = wPlus → P) (h4 : x ≠ wOr → x ≠ wAnd → x ≠ wPlus → x = wMinus → P)
  (h5 : x ≠ wOr → x ≠ wAnd → x ≠ wPlus → x ≠ wMinus → x = wStar → P) (h6 : x ≠ wOr → x ≠ wAnd → x ≠ wPlus → x ≠ wMinus → x ≠ wStar → P) : P:=by
 by_cases c1 : x = wOr
 ·exact h1 c1
 by_cases c2 : x = wAnd
 ·exact h2 c1 c2
 by_cases c3 : x = wPlus
 ·exact h3 c1 c2 c3
 by_cases c4 : x = wMinus
 ·exact h4 c1 c2 c3 c4
 by_cases c5 : x = wStar
 ·exact h5 c1 c2 c3 c4 c5
 exact h6 c1 c2 c3 c4 c5
theorem tkS_hd (k : Int) (hk : k = 0 ∨ k = 1 ∨ k = 4 ∨ k = 5) (ws : Ws) (h : rowOp k (hdW ws) = 0) : tkS (rkOf k) ws = none:=by
 cases ws with
 | nil => rfl
 | cons x r =>
  have h9 : rowOp k x = 0:=h
  rw [tkS_row k hk,if_pos h9]
theorem tkS_hd2 (k op : Int) (hk : k = 0 ∨ k = 1 ∨ k = 4 ∨ k = 5) (ws : Ws) (h : rowOp k (hdW ws) = op) (h0 : op ≠ 0) : ∃ ws1,ws = hdW ws :: ws1 ∧ tkS (rkOf k) ws = some (⟨rkOf k,op,false,false⟩,ws1):=by
 cases ws with
 | nil =>
  have h9 : rowOp k ⟨#[]⟩ = op:=h
  exfalso
  apply h0
  rw [← h9]
  rcases hk with rfl | rfl | rfl | rfl <;> decide
 | cons x r =>
  have h9 : rowOp k x = op:=h
  refine ⟨r,rfl,?_⟩
  rw [tkS_row k hk,h9,if_neg h0]
theorem rrows_0 (inner : Ws → PR) (g : Nat) (wv : Value) (all : Ws) (n : Nat) (ws : Ws) (d : Int) (w : World) (h : RD w g wv all n ws d 0) (m : Nat) (T : PR) (hTe : rowP inner 0 m ws = T) (hT : T ≠ .error 99)
  (H1 : ∀ ws n w,RD w g wv all n ws d 0 → inner ws ≠ .error 99 → Calls Tryz.prog 36 #[.pointer (some ⟨g,0,none⟩),.int .i64 1] w fun r w' => ∃ v,r = .returned v ∧ isSl v = true ∧ RLu w w' g wv all d (inner ws) v)
  (hS : ∀ ws y ws2,inner ws = .ok (y,ws2) → ws2.length ≤ ws.length) :
  Calls Tryz.prog 57 #[.pointer (some ⟨g,0,none⟩),.int .i64 0] w fun r w' => ∃ v,r = .returned v ∧ isSl v = true ∧ RLu w w' g wv all d T v:=by
 have hi : inner ws ≠ .error 99:=fun e => hT (by rw [← hTe];unfold rowP;rw [e])
 have L0:=hidE (H1 ws n w h hi)
 have HT:=hidE hT
 have HTE:=hidE hTe
 have HH:=hidE H1
 have HS0:=hidE hS
 clear h hTe hT H1 hS hi
 go_enter Tryz.func57,Tryz.ntmps57
 go_wp2_with fail
 refine L0.out.mono ?_
 rintro r w1 ⟨v,rfl,hs,hR⟩
 obtain ⟨a,q,c,rfl⟩:=sl_shape hs
 have K1:=hidE hR.1
 have ST1:=hidE (rowQ_start hs HTE.out hR)
 clear hs hR L0 HTE
 go_wp2_with fail
 go_loopw [5] (fun v wr => Hid (KeptB w wr (fun q => q = g)) ∧ Hid (RowQ wr g wv all d 0 inner T v)) (fun _ wr => rmeas wr g)
 case atStart => exact ⟨K1,ST1⟩
 case round =>
  clear K1 ST1
  obtain ⟨HK,HS⟩:=hrel
  rename_i v9 _
  obtain ⟨hs,hor⟩:=HS.out
  obtain ⟨a,q,c,rfl⟩:=sl_shape hs
  clear hs HS
  rcases hor with ⟨x,ws9,k9,n9,hn,hp,hr⟩ | ⟨c,n9,hc,hTe,hp⟩
  ·obtain ⟨k8,hk8⟩:=rowL_99q hr HT.out
   subst hk8
   have c3 : wr.cell? ⟨g,3,none⟩ = some (.int .i64 0):=hp.bd.c 3 (by simp)
   have NX:=rnext_any g wv all n9 ws9 d 0 wr hp
   have HN:=hidE hn
   have HP:=hidE hp
   have HR:=hidE hr
   clear hn hr
   refine five (hdW ws9) _ ?_ ?_ ?_ ?_ ?_ ?_
   ·intro c0
    have t0 : ((hdW ws9).toList == [111,114]) = true:=lt_t li_or c0
    have ho : rowOp 0 (hdW ws9) = 10:=by unfold rowOp;rw [if_pos c0];rfl
    obtain ⟨ws1,hcons,htk⟩:=tkS_hd2 0 10 (by decide) ws9 ho (by decide)
    have HTT:=hidE ((rowL_some (inner:=inner) (k:=k8) (x:=x) htk).symm.trans HR.out)
    have hi : inner ws1 ≠ .error 99:=fun e => HT.out (by rw [← HTT.out,e])
    have HI:=hidE hi
    have NX:=hidE NX
    rw [hcons] at hp
    have HPC:=hidE hp
    obtain ⟨-,hn9,hd9⟩:=ws_one hp.ws0
    have hlt : n9 < 100:=by have:=hp.few;omega
    have HD:=hidE hd9
    have HL9:=hidE hn9
    clear hp ho htk c0 HR hi hcons hd9 hn9
    generalize hdW ws9 = x9 at *
    go_wp2_with fail
    refine NX.out.mono ?_
    rintro r w2 ⟨rfl,hb⟩
    have H2:=rd_kept HPC.out hb
    have c1 : w2.cell? ⟨g,1,none⟩ = some (.int .i64 (n9 : Int)):=H2.bd.c 1 (by simp)
    have f1:=H2.bd.fz 1
    have B1:=blk_set H2.bd 1 (.int .i64 ((n9 : Int) + 1)) (by simp)
    have P1:=rd_set H2 1 (.int .i64 ((n9 : Int) + 1)) (n':=n9 + 1) (ws':=ws1) (d':=d) (e':=0) (by simpa using B1) (by have:=HL9.out;omega) (Int.le_refl _) (by rw [if_pos rfl];exact HD.out.symm)
    have LV:=hidE (HH.out ws1 (n9 + 1) _ P1.1 HI.out)
    have HK2:=hidE (keptB_trans (keptB_of_below (bad:=fun q => q = g) hb) P1.2)
    have HN2:=hidE (nds_kept HN.out HK2.out (fun k e => by omega))
    clear hb NX H2 B1 P1
    go_wp2_with fail
    refine LV.out.mono ?_
    rintro r w3 ⟨v3,rfl,hs3,hR3⟩
    obtain ⟨a3,q3,c3',rfl⟩:=sl_shape hs3
    have PT:=hidE (rlu_put2 g 10 (by decide) (.slice a q c) (.slice a3 q3 c3') rfl x wv all d _ _ w3 (rlu_nds hR3 HN2.out) hR3)
    have HK3:=hidE (keptB_trans HK2.out hR3.1)
    clear hs3 hR3 LV HK2 HN2
    go_wp2_with fail
    refine PT.out.mono ?_
    rintro r w4 ⟨v4,rfl,hs4,hR4⟩
    obtain ⟨a4,q4,c4',rfl⟩:=sl_shape hs4
    have RQ:=hidE (rowQ_next hs4 HTT.out hR4)
    have HK4:=hidE (keptB_trans HK3.out hR4.1)
    have HM:=hidE (rmeas_lt HS0.out HPC.out hR4)
    clear hs4 hR4 PT HK3
    go_wp2_with fail
    go_roundw
    case rel => exact ⟨keptB_trans HK.out HK4.out,RQ⟩
    case measure => exact HM.out
   ·intro c0 c1
    have t0 : ((hdW ws9).toList == [111,114]) = false:=lt_f li_or c0
    have t1 : ((hdW ws9).toList == [97,110,100]) = true:=lt_t li_and c1
    have ho : rowOp 0 (hdW ws9) = 0:=by unfold rowOp;rw [if_neg c0,if_pos c1];rfl
    have HTT : Hid (T = .ok (x,ws9)):=hidE (by rw [← HR.out];exact rowL_none (tkS_hd 0 (by decide) ws9 ho))
    have NX:=hidE NX
    clear hp ho c0 c1 HR
    generalize hdW ws9 = x9 at *
    go_wp2_with fail
    refine NX.out.mono ?_
    rintro r w2 ⟨rfl,hb⟩
    have HB:=hidE hb
    clear hb NX
    go_wp2_with fail
    go_ret
    rw [HTT.out]
    exact ⟨_,rfl,rfl,keptB_trans HK.out (keptB_of_below HB.out),n9,nds_kept HN.out (keptB_of_below (bad:=fun q => q = g) HB.out) (fun k e => by omega),rd_kept HP.out HB.out⟩
   ·intro c0 c1 c2
    have t0 : ((hdW ws9).toList == [111,114]) = false:=lt_f li_or c0
    have t1 : ((hdW ws9).toList == [97,110,100]) = false:=lt_f li_and c1
    have t2 : ((hdW ws9).toList == [43]) = true:=lt_t li_plus c2
    have ho : rowOp 0 (hdW ws9) = 0:=by unfold rowOp;rw [if_neg c0,if_neg c1,if_pos c2];rfl
    have HTT : Hid (T = .ok (x,ws9)):=hidE (by rw [← HR.out];exact rowL_none (tkS_hd 0 (by decide) ws9 ho))
    have NX:=hidE NX
    clear hp ho c0 c1 c2 HR
    generalize hdW ws9 = x9 at *
    go_wp2_with fail
    refine NX.out.mono ?_
    rintro r w2 ⟨rfl,hb⟩
    have HB:=hidE hb
    clear hb NX
    go_wp2_with fail
    go_ret
    rw [HTT.out]
    exact ⟨_,rfl,rfl,keptB_trans HK.out (keptB_of_below HB.out),n9,nds_kept HN.out (keptB_of_below (bad:=fun q => q = g) HB.out) (fun k e => by omega),rd_kept HP.out HB.out⟩
   ·intro c0 c1 c2 c3
    have t0 : ((hdW ws9).toList == [111,114]) = false:=lt_f li_or c0
    have t1 : ((hdW ws9).toList == [97,110,100]) = false:=lt_f li_and c1
    have t2 : ((hdW ws9).toList == [43]) = false:=lt_f li_plus c2
    have t3 : ((hdW ws9).toList == [45]) = true:=lt_t li_minus c3
    have ho : rowOp 0 (hdW ws9) = 0:=by unfold rowOp;rw [if_neg c0,if_neg c1,if_neg c2,if_pos c3];rfl
    have HTT : Hid (T = .ok (x,ws9)):=hidE (by rw [← HR.out];exact rowL_none (tkS_hd 0 (by decide) ws9 ho))
    have NX:=hidE NX
    clear hp ho c0 c1 c2 c3 HR
    generalize hdW ws9 = x9 at *
    go_wp2_with fail
    refine NX.out.mono ?_
    rintro r w2 ⟨rfl,hb⟩
    have HB:=hidE hb
    clear hb NX
    go_wp2_with fail
    go_ret
    rw [HTT.out]
    exact ⟨_,rfl,rfl,keptB_trans HK.out (keptB_of_below HB.out),n9,nds_kept HN.out (keptB_of_below (bad:=fun q => q = g) HB.out) (fun k e => by omega),rd_kept HP.out HB.out⟩
   ·intro c0 c1 c2 c3 c4
    have t0 : ((hdW ws9).toList == [111,114]) = false:=lt_f li_or c0
    have t1 : ((hdW ws9).toList == [97,110,100]) = false:=lt_f li_and c1
    have t2 : ((hdW ws9).toList == [43]) = false:=lt_f li_plus c2
    have t3 : ((hdW ws9).toList == [45]) = false:=lt_f li_minus c3
    have t4 : ((hdW ws9).toList == [42]) = true:=lt_t li_star c4
    have ho : rowOp 0 (hdW ws9) = 0:=by unfold rowOp;rw [if_neg c0,if_neg c1,if_neg c2,if_neg c3,if_pos c4];rfl
    have HTT : Hid (T = .ok (x,ws9)):=hidE (by rw [← HR.out];exact rowL_none (tkS_hd 0 (by decide) ws9 ho))
    have NX:=hidE NX
    clear hp ho c0 c1 c2 c3 c4 HR
    generalize hdW ws9 = x9 at *
    go_wp2_with fail
    refine NX.out.mono ?_
    rintro r w2 ⟨rfl,hb⟩
    have HB:=hidE hb
    clear hb NX
    go_wp2_with fail
    go_ret
    rw [HTT.out]
    exact ⟨_,rfl,rfl,keptB_trans HK.out (keptB_of_below HB.out),n9,nds_kept HN.out (keptB_of_below (bad:=fun q => q = g) HB.out) (fun k e => by omega),rd_kept HP.out HB.out⟩
   ·intro c0 c1 c2 c3 c4
    have t0 : ((hdW ws9).toList == [111,114]) = false:=lt_f li_or c0
    have t1 : ((hdW ws9).toList == [97,110,100]) = false:=lt_f li_and c1
    have t2 : ((hdW ws9).toList == [43]) = false:=lt_f li_plus c2
    have t3 : ((hdW ws9).toList == [45]) = false:=lt_f li_minus c3
    have t4 : ((hdW ws9).toList == [42]) = false:=lt_f li_star c4
    have ho : rowOp 0 (hdW ws9) = 0:=by unfold rowOp;rw [if_neg c0,if_neg c1,if_neg c2,if_neg c3,if_neg c4]
    have HTT : Hid (T = .ok (x,ws9)):=hidE (by rw [← HR.out];exact rowL_none (tkS_hd 0 (by decide) ws9 ho))
    have NX:=hidE NX
    clear hp ho c0 c1 c2 c3 c4 HR
    generalize hdW ws9 = x9 at *
    go_wp2_with fail
    refine NX.out.mono ?_
    rintro r w2 ⟨rfl,hb⟩
    have HB:=hidE hb
    clear hb NX
    go_wp2_with fail
    go_ret
    rw [HTT.out]
    exact ⟨_,rfl,rfl,keptB_trans HK.out (keptB_of_below HB.out),n9,nds_kept HN.out (keptB_of_below (bad:=fun q => q = g) HB.out) (fun k e => by omega),rd_kept HP.out HB.out⟩
  ·have c3 : wr.cell? ⟨g,3,none⟩ = some (.int .i64 c):=hp.bd.c 3 (by simp)
   have q0 : ¬ c = 0:=by omega
   have q1 : (c == 0) = false:=by simpa using q0
   have HP:=hidE hp
   have HC:=hidE hc
   have HTT:=hidE hTe
   clear hp hTe hc
   go_wp2_with fail
   go_ret
   rw [HTT.out]
   exact ⟨_,rfl,rfl,HK.out,n9,HC.out,HP.out⟩
end Go.Proofs.YteaanpdckkmjoaaGreatDoor
