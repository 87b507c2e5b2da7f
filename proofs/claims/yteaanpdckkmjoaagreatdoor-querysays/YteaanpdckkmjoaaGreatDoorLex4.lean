/- The contract of penstockref.WordsOf, over this seat's translation: the words of a text, or an error's number. Conditions: none. -/
import Derived.Test.YteaanpdckkmjoaaGreatDoorLexPureJ
import Derived.Deep.DeepCutAuto
import Derived.Deep.CutBlock
set_option linter.unusedVariables false
set_option linter.unusedSimpArgs false
set_option maxRecDepth 100000
set_option maxHeartbeats 8000000
namespace Go.Proofs.YteaanpdckkmjoaaGreatDoor
open Go.RowKit
theorem twoAt (s : ByteArray) (k : Nat) (a b : UInt8) (h : k < s.size) : ((s.extract k (k + 2)).toList == [a,b]) = (decide (k + 1 < s.size) && (bt s k == (a.toNat : Int) && bt s (k + 1) == (b.toNat : Int))):=by
 rw [Lib.extract_toList]
 have e2 : k + 2 - k = 2:=by omega
 rw [e2]
 have hl : k < s.data.toList.length:=by simpa using h
 unfold bt
 rw [show s.size = s.data.toList.length from Lib.size_eq s]
 generalize s.data.toList = l at hl
 rw [List.drop_eq_getElem_cons hl]
 by_cases h1 : k + 1 < l.length
 ·rw [List.drop_eq_getElem_cons h1]
  show ([l[k],l[k + 1]] == [a,b]) = _
  have g1 : l.getD k 0 = l[k]:=by simp [List.getD,hl]
  have g2 : l.getD (k + 1) 0 = l[k + 1]:=by simp [List.getD,h1]
  rw [g1,g2,decide_eq_true h1]
  simp [u8_eq]
 ·rw [List.drop_of_length_le (by omega)]
  simp [h1]
theorem wl_let (s : ByteArray) (k : Nat) (h : isLet (bt s k) = true) : wl s k = run isLet s k:=by unfold wl;rw [if_pos h]
theorem wl_dig (s : ByteArray) (k : Nat) (h0 : isLet (bt s k) = false) (h : isDig (bt s k) = true) : wl s k = run isDig s k:=by unfold wl;rw [h0,if_neg (by simp),if_pos h]
theorem wl_else (s : ByteArray) (k : Nat) (h0 : isLet (bt s k) = false) (h : isDig (bt s k) = false) : wl s k = if k + 1 < s.size ∧ isTwo (bt s k) (bt s (k + 1)) = true then 2 else if isSgn (bt s k) then 1 else 0:=by
 unfold wl;rw [h0,h,if_neg (by simp),if_neg (by simp)]
theorem wl_b2 (s : ByteArray) (k : Nat) (h0 : isLet (bt s k) = false) (h : isDig (bt s k) = false) {B2 : Bool} (hB : B2 = (decide (k + 1 < s.size) && isTwo (bt s k) (bt s (k + 1)))) : wl s k = if B2 then 2 else if isSgn (bt s k) then 1 else 0:=by
 rw [wl_else s k h0 h,hB]
 simp only [Bool.and_eq_true,decide_eq_true_eq]
theorem two_of {s : ByteArray} {k : Nat} {a b c B2 : Bool} (t1 : ((s.extract k (k + 2)).toList == [60,61]) = a) (t2 : ((s.extract k (k + 2)).toList == [62,61]) = b) (t3 : ((s.extract k (k + 2)).toList == [60,62]) = c) (hlt : k < s.size) (hz : k + 1 < s.size)
  (hB : B2 = (decide (k + 1 < s.size) && isTwo (bt s k) (bt s (k + 1)))) : B2 = (a || b || c):=by
 rw [hB,← t1,← t2,← t3,twoAt s k 60 61 hlt,twoAt s k 62 61 hlt,twoAt s k 60 62 hlt,decide_eq_true hz]
 simp only [Bool.true_and]
 rfl
theorem left_word_at {s : ByteArray} {a n : Nat} {ws : List ByteArray} {T : Int × List ByteArray} (h : Left_ s a ws T) (ha : a < s.size) (hb : bt s a ≠ 32) (hn : n = a + wl s a) (hna : n ≠ a) (hc : ws.length ≠ 80) :
  Left_ s n (ws ++ [s.extract a n]) T:=by
 subst hn
 exact left_word h ha hb (by omega) hc
theorem wordsOf_short (s : ByteArray) (w : World) (h : s.size ≤ 240) : Calls Tryz.prog 32 #[.string s] w fun e w' => ∃ v,e = .returned (.tuple #[v,.int .i64 (lexT s).1]) ∧ w'.ownsRow w.heap.size 9 1 v (lexT s).2.length ((lexT s).2.map Value.string) ∧ Below w.heap.size w w':=by
 obtain ⟨i0,hi,hz0,hz1,hz2⟩:=info_parts infoS
 have hl:=left_start s h
 generalize lexT s = T at hl
 have HL : Hid (Left_ s 0 [] T):=hl
 clear hl
 go_enter Tryz.func32,Tryz.ntmps32
 go_wp2_with fail
 go_loopw [4,5] (fun v i wr => ∃ (k : Nat) (ws : List ByteArray),k ≤ s.size ∧ i = .int .i64 k ∧ ws.length ≤ 80 ∧ Hid (wr.ownsRow w.heap.size 9 1 v ws.length (ws.map Value.string)) ∧ Hid (Below w.heap.size w wr) ∧ Hid (Left_ s k ws T)) (fun _ i _ => s.size - (intOf i).toNat)
 case atStart => exact ⟨0,[],Nat.zero_le _,rfl,by simp,World.ownsRow_nil _ _ _ _,Below.refl _ _,HL⟩
 case round =>
  clear HL
  obtain ⟨k,ws,hk,rfl,hn,HO,HB,HL⟩:=hrel
  obtain ⟨ao,cap,rfl⟩:=owns_shape HO.out
  by_cases hlt : k < s.size
  ·by_cases hb : bt s k = 32
   ·have L:=left_blank HL.out hlt hb
    have L:=hid2 L
    have hb2 : ((s[k].toNat : Int) == 32) = true:=by rw [bt_get s k hlt,hb];rfl
    clear hb
    go_wp2_with fail
    go_roundw
    case rel => exact ⟨k + 1,ws,by omega,by go_num,hn,HO,HB,L⟩
    case measure => simp [intOf];omega
   ·have hb2 : ((s[k].toNat : Int) == 32) = false:=by rw [bt_get s k hlt];simpa using hb
    have HN:=hid2 hb
    have HG:=hid2 (bt_get s k hlt)
    clear hb
    cases hL : isLet (bt s k)
    ·cases hD : isDig (bt s k)
     ·have HLf:=hid2 hL
      have HDf:=hid2 hD
      clear hL hD
      have nl:=of_decide_eq_false HLf.out
      have nd:=of_decide_eq_false HDf.out
      rw [← HG.out] at nl nd
      obtain ⟨B2,HB2⟩ : ∃ B2 : Bool,Hid (B2 = (decide (k + 1 < s.size) && isTwo (bt s k) (bt s (k + 1)))):=⟨_,rfl⟩
      have hkk : (((k : Nat) : Int) == ((k : Nat) : Int)) = true:=by simp
      by_cases r1 : 97 ≤ (s[k].toNat : Int)
      ·have f1 : decide ((s[k].toNat : Int) ≤ 122) = false:=by simp;omega
       have f2 : 48 ≤ (s[k].toNat : Int):=by omega
       have f3 : decide ((s[k].toNat : Int) ≤ 57) = false:=by simp;omega
       clear nl nd
       as_aux_lemma =>
        go_wp2_with fail
        go_loop [7] (fun i => i = .int .i64 k) (fun _ => 0)
        case atStart => rfl
        case round =>
         subst hrel
         go_wp2_with fail
         go_loop [7] (fun i => i = .int .i64 k) (fun _ => 0)
         case atStart => rfl
         case round =>
          subst hrel
          go_upto_region 15 with fail
          go_cut [95] (fun b wx => b = .bool B2 ∧ Hid (wx.ownsRow w.heap.size 9 1 (.slice ao ws.length cap) ws.length (ws.map Value.string)) ∧ Hid (Below w.heap.size w wx))
          case first =>
           rcases Nat.lt_or_ge (k + 1) s.size with hz | hz
           ·have hzz : ((k : Nat) : Int) + 1 < (s.size : Int):=by omega
            cases t1 : ((s.extract k (k + 2)).toList == [60,61])
            ·cases t2 : ((s.extract k (k + 2)).toList == [62,61])
             ·cases t3 : ((s.extract k (k + 2)).toList == [60,62])
              ·have HE:=hid2 (two_of t1 t2 t3 hlt hz HB2.out)
               go_wp2_with fail
               go_meet
               exact ⟨by rw [HE.out];rfl,HO,HB⟩
              ·have HE:=hid2 (two_of t1 t2 t3 hlt hz HB2.out)
               go_wp2_with fail
               go_meet
               exact ⟨by rw [HE.out];rfl,HO,HB⟩
             ·have HE:=hid2 (two_of t1 t2 rfl hlt hz HB2.out)
              go_wp2_with fail
              go_meet
              exact ⟨by rw [HE.out];rfl,HO,HB⟩
            ·have HE:=hid2 (two_of t1 rfl rfl hlt hz HB2.out)
             go_wp2_with fail
             go_meet
             exact ⟨by rw [HE.out];rfl,HO,HB⟩
           ·have hzz : ¬ (((k : Nat) : Int) + 1 < (s.size : Int)):=by omega
            have HE:=hid2 (show B2 = false by rw [HB2.out,decide_eq_false (by omega)];rfl)
            go_wp2_with fail
            go_meet
            exact ⟨by rw [HE.out],HO,HB⟩
          case rest =>
           clear HO HB
           obtain ⟨rfl,HO,HB⟩:=hcut
           cases hB : B2
           ·have HBf:=hid2 hB
            clear hB
            go_upto_region 17 with fail
            go_cut [136] (fun b wx => b = .bool (isSgn (bt s k)) ∧ Hid (wx.ownsRow w.heap.size 9 1 (.slice ao ws.length cap) ws.length (ws.map Value.string)) ∧ Hid (Below w.heap.size w wx))
            case first =>
             cases c40 : ((s[k].toNat : Int) == 40)
             rotate_left
             ·have HE:=hid2 (show isSgn (bt s k) = true by rw [← HG.out];simp [isSgn,c40])
              go_wp2_with fail
              go_meet
              exact ⟨by rw [HE.out],HO,HB⟩
             cases c41 : ((s[k].toNat : Int) == 41)
             rotate_left
             ·have HE:=hid2 (show isSgn (bt s k) = true by rw [← HG.out];simp [isSgn,c41])
              go_wp2_with fail
              go_meet
              exact ⟨by rw [HE.out],HO,HB⟩
             cases c44 : ((s[k].toNat : Int) == 44)
             rotate_left
             ·have HE:=hid2 (show isSgn (bt s k) = true by rw [← HG.out];simp [isSgn,c44])
              go_wp2_with fail
              go_meet
              exact ⟨by rw [HE.out],HO,HB⟩
             cases c42 : ((s[k].toNat : Int) == 42)
             rotate_left
             ·have HE:=hid2 (show isSgn (bt s k) = true by rw [← HG.out];simp [isSgn,c42])
              go_wp2_with fail
              go_meet
              exact ⟨by rw [HE.out],HO,HB⟩
             cases c43 : ((s[k].toNat : Int) == 43)
             rotate_left
             ·have HE:=hid2 (show isSgn (bt s k) = true by rw [← HG.out];simp [isSgn,c43])
              go_wp2_with fail
              go_meet
              exact ⟨by rw [HE.out],HO,HB⟩
             cases c45 : ((s[k].toNat : Int) == 45)
             rotate_left
             ·have HE:=hid2 (show isSgn (bt s k) = true by rw [← HG.out];simp [isSgn,c45])
              go_wp2_with fail
              go_meet
              exact ⟨by rw [HE.out],HO,HB⟩
             cases c60 : ((s[k].toNat : Int) == 60)
             rotate_left
             ·have HE:=hid2 (show isSgn (bt s k) = true by rw [← HG.out];simp [isSgn,c60])
              go_wp2_with fail
              go_meet
              exact ⟨by rw [HE.out],HO,HB⟩
             cases c62 : ((s[k].toNat : Int) == 62)
             rotate_left
             ·have HE:=hid2 (show isSgn (bt s k) = true by rw [← HG.out];simp [isSgn,c62])
              go_wp2_with fail
              go_meet
              exact ⟨by rw [HE.out],HO,HB⟩
             cases c61 : ((s[k].toNat : Int) == 61)
             rotate_left
             ·have HE:=hid2 (show isSgn (bt s k) = true by rw [← HG.out];simp [isSgn,c61])
              go_wp2_with fail
              go_meet
              exact ⟨by rw [HE.out],HO,HB⟩
             have HE:=hid2 (show isSgn (bt s k) = false by rw [← HG.out];simp [isSgn,c40,c41,c44,c42,c43,c45,c60,c62,c61])
             go_wp2_with fail
             go_meet
             exact ⟨by rw [HE.out],HO,HB⟩
            case rest =>
             clear HO HB
             obtain ⟨rfl,HO,HB⟩:=hcut
             cases hS : isSgn (bt s k)
             ·have e:=left_none HL.out hlt HN.out (by rw [wl_b2 s k HLf.out HDf.out HB2.out,HBf.out,hS];rfl)
              subst e
              clear hS
              go_wp2_with fail
              go_ret2
              exact ⟨_,rfl,World.ownsRow_nil _ _ _ _,HB.out⟩
             ·have HS:=hid2 hS
              clear hS
              have hk1 : (((k : Nat) : Int) + 1 == ((k : Nat) : Int)) = false:=by simp;omega
              have HE:=hid2 (show k + 1 = k + wl s k by rw [wl_b2 s k HLf.out HDf.out HB2.out,HBf.out,HS.out];rfl)
              by_cases hc : ws.length = 80
              ·have e:=left_many HL.out hlt HN.out (by have:=HE.out;omega) hc
               subst e
               have hc2 : (80 : Int) < ((ws.length : Nat) : Int) + 1:=by omega
               have HC:=hid2 hc
               clear hc
               go_wp2_with (at_builtin;go_must (refine wpList_append_own _ rfl (.tmp 142) (.tmp 147) 52 rfl w.heap.size 9 i0 (.string ⟨#[]⟩) 1 16 Tryz.underlying52 hi hz0 hz1 hz2 rfl (by decide) _ _ _ rfl (HO.out.alloc _) ⟨wc.heap.size,0,none⟩ 1 1 [.string (s.extract k (k + 1))] rfl rfl (cell_one_new _ _ _) (by intro u hu;simp at hu;subst hu;rfl) (by show _ ≤ 2 ^ 63 - 1;omega) (by omega) (by have:=HB.out.size;simp;omega) ?_))
               intro v' w1 ho' hg _
               obtain ⟨ao',cap',rfl⟩:=owns_shape ho'
               have R:=hid2 (own_word HB.out HO.out ho' hg)
               clear ho' hg
               go_wp2_with fail
               go_ret2
               exact ⟨_,rfl,World.ownsRow_nil _ _ _ _,R.out.2⟩
              ·have L:=hid2 (left_word_at HL.out hlt HN.out HE.out (by omega) hc)
               have hc2 : ¬ ((80 : Int) < ((ws.length : Nat) : Int) + 1):=by omega
               have hc3 : ws.length + 1 ≤ 80:=by omega
               clear hc
               go_wp2_with (at_builtin;go_must (refine wpList_append_own _ rfl (.tmp 142) (.tmp 147) 52 rfl w.heap.size 9 i0 (.string ⟨#[]⟩) 1 16 Tryz.underlying52 hi hz0 hz1 hz2 rfl (by decide) _ _ _ rfl (HO.out.alloc _) ⟨wc.heap.size,0,none⟩ 1 1 [.string (s.extract k (k + 1))] rfl rfl (cell_one_new _ _ _) (by intro u hu;simp at hu;subst hu;rfl) (by show _ ≤ 2 ^ 63 - 1;omega) (by omega) (by have:=HB.out.size;simp;omega) ?_))
               intro v' w1 ho' hg _
               obtain ⟨ao',cap',rfl⟩:=owns_shape ho'
               have R:=hid2 (own_word HB.out HO.out ho' hg)
               clear ho' hg
               go_wp2_with fail
               go_roundw
               case rel => exact ⟨k + 1,_,by omega,by go_num,by simpa using hc3,R.out.1,R.out.2,L⟩
               case measure => simp [intOf];omega
           ·have HBt:=hid2 hB
            clear hB
            have hk2 : (((k : Nat) : Int) + 2 == ((k : Nat) : Int)) = false:=by simp;omega
            have hle : k + 2 ≤ s.size:=by
             have:=wl_le s k hlt
             rw [wl_b2 s k HLf.out HDf.out HB2.out,HBt.out] at this
             exact this
            have HE:=hid2 (show k + 2 = k + wl s k by rw [wl_b2 s k HLf.out HDf.out HB2.out,HBt.out];rfl)
            by_cases hc : ws.length = 80
            ·have e:=left_many HL.out hlt HN.out (by have:=HE.out;omega) hc
             subst e
             have hc2 : (80 : Int) < ((ws.length : Nat) : Int) + 1:=by omega
             have HC:=hid2 hc
             clear hc
             go_wp2_with (at_builtin;go_must (refine wpList_append_own _ rfl (.tmp 142) (.tmp 147) 52 rfl w.heap.size 9 i0 (.string ⟨#[]⟩) 1 16 Tryz.underlying52 hi hz0 hz1 hz2 rfl (by decide) _ _ _ rfl (HO.out.alloc _) ⟨wc.heap.size,0,none⟩ 1 1 [.string (s.extract k (k + 2))] rfl rfl (cell_one_new _ _ _) (by intro u hu;simp at hu;subst hu;rfl) (by show _ ≤ 2 ^ 63 - 1;omega) (by omega) (by have:=HB.out.size;simp;omega) ?_))
             intro v' w1 ho' hg _
             obtain ⟨ao',cap',rfl⟩:=owns_shape ho'
             have R:=hid2 (own_word HB.out HO.out ho' hg)
             clear ho' hg
             go_wp2_with fail
             go_ret2
             exact ⟨_,rfl,World.ownsRow_nil _ _ _ _,R.out.2⟩
            ·have L:=hid2 (left_word_at HL.out hlt HN.out HE.out (by omega) hc)
             have hc2 : ¬ ((80 : Int) < ((ws.length : Nat) : Int) + 1):=by omega
             have hc3 : ws.length + 1 ≤ 80:=by omega
             clear hc
             go_wp2_with (at_builtin;go_must (refine wpList_append_own _ rfl (.tmp 142) (.tmp 147) 52 rfl w.heap.size 9 i0 (.string ⟨#[]⟩) 1 16 Tryz.underlying52 hi hz0 hz1 hz2 rfl (by decide) _ _ _ rfl (HO.out.alloc _) ⟨wc.heap.size,0,none⟩ 1 1 [.string (s.extract k (k + 2))] rfl rfl (cell_one_new _ _ _) (by intro u hu;simp at hu;subst hu;rfl) (by show _ ≤ 2 ^ 63 - 1;omega) (by omega) (by have:=HB.out.size;simp;omega) ?_))
             intro v' w1 ho' hg _
             obtain ⟨ao',cap',rfl⟩:=owns_shape ho'
             have R:=hid2 (own_word HB.out HO.out ho' hg)
             clear ho' hg
             go_wp2_with fail
             go_roundw
             case rel => exact ⟨k + 2,_,by omega,by go_num,by simpa using hc3,R.out.1,R.out.2,L⟩
             case measure => simp [intOf];omega
      ·have f0 : decide (97 ≤ (s[k].toNat : Int)) = false:=decide_eq_false r1
       by_cases r2 : 48 ≤ (s[k].toNat : Int)
       ·have f3 : decide ((s[k].toNat : Int) ≤ 57) = false:=by simp;omega
        clear nl nd r1
        as_aux_lemma =>
         go_wp2_with fail
         go_loop [7] (fun i => i = .int .i64 k) (fun _ => 0)
         case atStart => rfl
         case round =>
          subst hrel
          go_wp2_with fail
          go_loop [7] (fun i => i = .int .i64 k) (fun _ => 0)
          case atStart => rfl
          case round =>
           subst hrel
           go_upto_region 15 with fail
           go_cut [95] (fun b wx => b = .bool B2 ∧ Hid (wx.ownsRow w.heap.size 9 1 (.slice ao ws.length cap) ws.length (ws.map Value.string)) ∧ Hid (Below w.heap.size w wx))
           case first =>
            rcases Nat.lt_or_ge (k + 1) s.size with hz | hz
            ·have hzz : ((k : Nat) : Int) + 1 < (s.size : Int):=by omega
             cases t1 : ((s.extract k (k + 2)).toList == [60,61])
             ·cases t2 : ((s.extract k (k + 2)).toList == [62,61])
              ·cases t3 : ((s.extract k (k + 2)).toList == [60,62])
               ·have HE:=hid2 (two_of t1 t2 t3 hlt hz HB2.out)
                go_wp2_with fail
                go_meet
                exact ⟨by rw [HE.out];rfl,HO,HB⟩
               ·have HE:=hid2 (two_of t1 t2 t3 hlt hz HB2.out)
                go_wp2_with fail
                go_meet
                exact ⟨by rw [HE.out];rfl,HO,HB⟩
              ·have HE:=hid2 (two_of t1 t2 rfl hlt hz HB2.out)
               go_wp2_with fail
               go_meet
               exact ⟨by rw [HE.out];rfl,HO,HB⟩
             ·have HE:=hid2 (two_of t1 rfl rfl hlt hz HB2.out)
              go_wp2_with fail
              go_meet
              exact ⟨by rw [HE.out];rfl,HO,HB⟩
            ·have hzz : ¬ (((k : Nat) : Int) + 1 < (s.size : Int)):=by omega
             have HE:=hid2 (show B2 = false by rw [HB2.out,decide_eq_false (by omega)];rfl)
             go_wp2_with fail
             go_meet
             exact ⟨by rw [HE.out],HO,HB⟩
           case rest =>
            clear HO HB
            obtain ⟨rfl,HO,HB⟩:=hcut
            cases hB : B2
            ·have HBf:=hid2 hB
             clear hB
             go_upto_region 17 with fail
             go_cut [136] (fun b wx => b = .bool (isSgn (bt s k)) ∧ Hid (wx.ownsRow w.heap.size 9 1 (.slice ao ws.length cap) ws.length (ws.map Value.string)) ∧ Hid (Below w.heap.size w wx))
             case first =>
              cases c40 : ((s[k].toNat : Int) == 40)
              rotate_left
              ·have HE:=hid2 (show isSgn (bt s k) = true by rw [← HG.out];simp [isSgn,c40])
               go_wp2_with fail
               go_meet
               exact ⟨by rw [HE.out],HO,HB⟩
              cases c41 : ((s[k].toNat : Int) == 41)
              rotate_left
              ·have HE:=hid2 (show isSgn (bt s k) = true by rw [← HG.out];simp [isSgn,c41])
               go_wp2_with fail
               go_meet
               exact ⟨by rw [HE.out],HO,HB⟩
              cases c44 : ((s[k].toNat : Int) == 44)
              rotate_left
              ·have HE:=hid2 (show isSgn (bt s k) = true by rw [← HG.out];simp [isSgn,c44])
               go_wp2_with fail
               go_meet
               exact ⟨by rw [HE.out],HO,HB⟩
              cases c42 : ((s[k].toNat : Int) == 42)
              rotate_left
              ·have HE:=hid2 (show isSgn (bt s k) = true by rw [← HG.out];simp [isSgn,c42])
               go_wp2_with fail
               go_meet
               exact ⟨by rw [HE.out],HO,HB⟩
              cases c43 : ((s[k].toNat : Int) == 43)
              rotate_left
              ·have HE:=hid2 (show isSgn (bt s k) = true by rw [← HG.out];simp [isSgn,c43])
               go_wp2_with fail
               go_meet
               exact ⟨by rw [HE.out],HO,HB⟩
              cases c45 : ((s[k].toNat : Int) == 45)
              rotate_left
              ·have HE:=hid2 (show isSgn (bt s k) = true by rw [← HG.out];simp [isSgn,c45])
               go_wp2_with fail
               go_meet
               exact ⟨by rw [HE.out],HO,HB⟩
              cases c60 : ((s[k].toNat : Int) == 60)
              rotate_left
              ·have HE:=hid2 (show isSgn (bt s k) = true by rw [← HG.out];simp [isSgn,c60])
               go_wp2_with fail
               go_meet
               exact ⟨by rw [HE.out],HO,HB⟩
              cases c62 : ((s[k].toNat : Int) == 62)
              rotate_left
              ·have HE:=hid2 (show isSgn (bt s k) = true by rw [← HG.out];simp [isSgn,c62])
               go_wp2_with fail
               go_meet
               exact ⟨by rw [HE.out],HO,HB⟩
              cases c61 : ((s[k].toNat : Int) == 61)
              rotate_left
              ·have HE:=hid2 (show isSgn (bt s k) = true by rw [← HG.out];simp [isSgn,c61])
               go_wp2_with fail
               go_meet
               exact ⟨by rw [HE.out],HO,HB⟩
              have HE:=hid2 (show isSgn (bt s k) = false by rw [← HG.out];simp [isSgn,c40,c41,c44,c42,c43,c45,c60,c62,c61])
              go_wp2_with fail
              go_meet
              exact ⟨by rw [HE.out],HO,HB⟩
             case rest =>
              clear HO HB
              obtain ⟨rfl,HO,HB⟩:=hcut
              cases hS : isSgn (bt s k)
              ·have e:=left_none HL.out hlt HN.out (by rw [wl_b2 s k HLf.out HDf.out HB2.out,HBf.out,hS];rfl)
               subst e
               clear hS
               go_wp2_with fail
               go_ret2
               exact ⟨_,rfl,World.ownsRow_nil _ _ _ _,HB.out⟩
              ·have HS:=hid2 hS
               clear hS
               have hk1 : (((k : Nat) : Int) + 1 == ((k : Nat) : Int)) = false:=by simp;omega
               have HE:=hid2 (show k + 1 = k + wl s k by rw [wl_b2 s k HLf.out HDf.out HB2.out,HBf.out,HS.out];rfl)
               by_cases hc : ws.length = 80
               ·have e:=left_many HL.out hlt HN.out (by have:=HE.out;omega) hc
                subst e
                have hc2 : (80 : Int) < ((ws.length : Nat) : Int) + 1:=by omega
                have HC:=hid2 hc
                clear hc
                go_wp2_with (at_builtin;go_must (refine wpList_append_own _ rfl (.tmp 142) (.tmp 147) 52 rfl w.heap.size 9 i0 (.string ⟨#[]⟩) 1 16 Tryz.underlying52 hi hz0 hz1 hz2 rfl (by decide) _ _ _ rfl (HO.out.alloc _) ⟨wc.heap.size,0,none⟩ 1 1 [.string (s.extract k (k + 1))] rfl rfl (cell_one_new _ _ _) (by intro u hu;simp at hu;subst hu;rfl) (by show _ ≤ 2 ^ 63 - 1;omega) (by omega) (by have:=HB.out.size;simp;omega) ?_))
                intro v' w1 ho' hg _
                obtain ⟨ao',cap',rfl⟩:=owns_shape ho'
                have R:=hid2 (own_word HB.out HO.out ho' hg)
                clear ho' hg
                go_wp2_with fail
                go_ret2
                exact ⟨_,rfl,World.ownsRow_nil _ _ _ _,R.out.2⟩
               ·have L:=hid2 (left_word_at HL.out hlt HN.out HE.out (by omega) hc)
                have hc2 : ¬ ((80 : Int) < ((ws.length : Nat) : Int) + 1):=by omega
                have hc3 : ws.length + 1 ≤ 80:=by omega
                clear hc
                go_wp2_with (at_builtin;go_must (refine wpList_append_own _ rfl (.tmp 142) (.tmp 147) 52 rfl w.heap.size 9 i0 (.string ⟨#[]⟩) 1 16 Tryz.underlying52 hi hz0 hz1 hz2 rfl (by decide) _ _ _ rfl (HO.out.alloc _) ⟨wc.heap.size,0,none⟩ 1 1 [.string (s.extract k (k + 1))] rfl rfl (cell_one_new _ _ _) (by intro u hu;simp at hu;subst hu;rfl) (by show _ ≤ 2 ^ 63 - 1;omega) (by omega) (by have:=HB.out.size;simp;omega) ?_))
                intro v' w1 ho' hg _
                obtain ⟨ao',cap',rfl⟩:=owns_shape ho'
                have R:=hid2 (own_word HB.out HO.out ho' hg)
                clear ho' hg
                go_wp2_with fail
                go_roundw
                case rel => exact ⟨k + 1,_,by omega,by go_num,by simpa using hc3,R.out.1,R.out.2,L⟩
                case measure => simp [intOf];omega
            ·have HBt:=hid2 hB
             clear hB
             have hk2 : (((k : Nat) : Int) + 2 == ((k : Nat) : Int)) = false:=by simp;omega
             have hle : k + 2 ≤ s.size:=by
              have:=wl_le s k hlt
              rw [wl_b2 s k HLf.out HDf.out HB2.out,HBt.out] at this
              exact this
             have HE:=hid2 (show k + 2 = k + wl s k by rw [wl_b2 s k HLf.out HDf.out HB2.out,HBt.out];rfl)
             by_cases hc : ws.length = 80
             ·have e:=left_many HL.out hlt HN.out (by have:=HE.out;omega) hc
              subst e
              have hc2 : (80 : Int) < ((ws.length : Nat) : Int) + 1:=by omega
              have HC:=hid2 hc
              clear hc
              go_wp2_with (at_builtin;go_must (refine wpList_append_own _ rfl (.tmp 142) (.tmp 147) 52 rfl w.heap.size 9 i0 (.string ⟨#[]⟩) 1 16 Tryz.underlying52 hi hz0 hz1 hz2 rfl (by decide) _ _ _ rfl (HO.out.alloc _) ⟨wc.heap.size,0,none⟩ 1 1 [.string (s.extract k (k + 2))] rfl rfl (cell_one_new _ _ _) (by intro u hu;simp at hu;subst hu;rfl) (by show _ ≤ 2 ^ 63 - 1;omega) (by omega) (by have:=HB.out.size;simp;omega) ?_))
              intro v' w1 ho' hg _
              obtain ⟨ao',cap',rfl⟩:=owns_shape ho'
              have R:=hid2 (own_word HB.out HO.out ho' hg)
              clear ho' hg
              go_wp2_with fail
              go_ret2
              exact ⟨_,rfl,World.ownsRow_nil _ _ _ _,R.out.2⟩
             ·have L:=hid2 (left_word_at HL.out hlt HN.out HE.out (by omega) hc)
              have hc2 : ¬ ((80 : Int) < ((ws.length : Nat) : Int) + 1):=by omega
              have hc3 : ws.length + 1 ≤ 80:=by omega
              clear hc
              go_wp2_with (at_builtin;go_must (refine wpList_append_own _ rfl (.tmp 142) (.tmp 147) 52 rfl w.heap.size 9 i0 (.string ⟨#[]⟩) 1 16 Tryz.underlying52 hi hz0 hz1 hz2 rfl (by decide) _ _ _ rfl (HO.out.alloc _) ⟨wc.heap.size,0,none⟩ 1 1 [.string (s.extract k (k + 2))] rfl rfl (cell_one_new _ _ _) (by intro u hu;simp at hu;subst hu;rfl) (by show _ ≤ 2 ^ 63 - 1;omega) (by omega) (by have:=HB.out.size;simp;omega) ?_))
              intro v' w1 ho' hg _
              obtain ⟨ao',cap',rfl⟩:=owns_shape ho'
              have R:=hid2 (own_word HB.out HO.out ho' hg)
              clear ho' hg
              go_wp2_with fail
              go_roundw
              case rel => exact ⟨k + 2,_,by omega,by go_num,by simpa using hc3,R.out.1,R.out.2,L⟩
              case measure => simp [intOf];omega
       ·have f2 : decide (48 ≤ (s[k].toNat : Int)) = false:=decide_eq_false r2
        clear nl nd r1 r2
        as_aux_lemma =>
         go_wp2_with fail
         go_loop [7] (fun i => i = .int .i64 k) (fun _ => 0)
         case atStart => rfl
         case round =>
          subst hrel
          go_wp2_with fail
          go_loop [7] (fun i => i = .int .i64 k) (fun _ => 0)
          case atStart => rfl
          case round =>
           subst hrel
           go_upto_region 15 with fail
           go_cut [95] (fun b wx => b = .bool B2 ∧ Hid (wx.ownsRow w.heap.size 9 1 (.slice ao ws.length cap) ws.length (ws.map Value.string)) ∧ Hid (Below w.heap.size w wx))
           case first =>
            rcases Nat.lt_or_ge (k + 1) s.size with hz | hz
            ·have hzz : ((k : Nat) : Int) + 1 < (s.size : Int):=by omega
             cases t1 : ((s.extract k (k + 2)).toList == [60,61])
             ·cases t2 : ((s.extract k (k + 2)).toList == [62,61])
              ·cases t3 : ((s.extract k (k + 2)).toList == [60,62])
               ·have HE:=hid2 (two_of t1 t2 t3 hlt hz HB2.out)
                go_wp2_with fail
                go_meet
                exact ⟨by rw [HE.out];rfl,HO,HB⟩
               ·have HE:=hid2 (two_of t1 t2 t3 hlt hz HB2.out)
                go_wp2_with fail
                go_meet
                exact ⟨by rw [HE.out];rfl,HO,HB⟩
              ·have HE:=hid2 (two_of t1 t2 rfl hlt hz HB2.out)
               go_wp2_with fail
               go_meet
               exact ⟨by rw [HE.out];rfl,HO,HB⟩
             ·have HE:=hid2 (two_of t1 rfl rfl hlt hz HB2.out)
              go_wp2_with fail
              go_meet
              exact ⟨by rw [HE.out];rfl,HO,HB⟩
            ·have hzz : ¬ (((k : Nat) : Int) + 1 < (s.size : Int)):=by omega
             have HE:=hid2 (show B2 = false by rw [HB2.out,decide_eq_false (by omega)];rfl)
             go_wp2_with fail
             go_meet
             exact ⟨by rw [HE.out],HO,HB⟩
           case rest =>
            clear HO HB
            obtain ⟨rfl,HO,HB⟩:=hcut
            cases hB : B2
            ·have HBf:=hid2 hB
             clear hB
             go_upto_region 17 with fail
             go_cut [136] (fun b wx => b = .bool (isSgn (bt s k)) ∧ Hid (wx.ownsRow w.heap.size 9 1 (.slice ao ws.length cap) ws.length (ws.map Value.string)) ∧ Hid (Below w.heap.size w wx))
             case first =>
              cases c40 : ((s[k].toNat : Int) == 40)
              rotate_left
              ·have HE:=hid2 (show isSgn (bt s k) = true by rw [← HG.out];simp [isSgn,c40])
               go_wp2_with fail
               go_meet
               exact ⟨by rw [HE.out],HO,HB⟩
              cases c41 : ((s[k].toNat : Int) == 41)
              rotate_left
              ·have HE:=hid2 (show isSgn (bt s k) = true by rw [← HG.out];simp [isSgn,c41])
               go_wp2_with fail
               go_meet
               exact ⟨by rw [HE.out],HO,HB⟩
              cases c44 : ((s[k].toNat : Int) == 44)
              rotate_left
              ·have HE:=hid2 (show isSgn (bt s k) = true by rw [← HG.out];simp [isSgn,c44])
               go_wp2_with fail
               go_meet
               exact ⟨by rw [HE.out],HO,HB⟩
              cases c42 : ((s[k].toNat : Int) == 42)
              rotate_left
              ·have HE:=hid2 (show isSgn (bt s k) = true by rw [← HG.out];simp [isSgn,c42])
               go_wp2_with fail
               go_meet
               exact ⟨by rw [HE.out],HO,HB⟩
              cases c43 : ((s[k].toNat : Int) == 43)
              rotate_left
              ·have HE:=hid2 (show isSgn (bt s k) = true by rw [← HG.out];simp [isSgn,c43])
               go_wp2_with fail
               go_meet
               exact ⟨by rw [HE.out],HO,HB⟩
              cases c45 : ((s[k].toNat : Int) == 45)
              rotate_left
              ·have HE:=hid2 (show isSgn (bt s k) = true by rw [← HG.out];simp [isSgn,c45])
               go_wp2_with fail
               go_meet
               exact ⟨by rw [HE.out],HO,HB⟩
              cases c60 : ((s[k].toNat : Int) == 60)
              rotate_left
              ·have HE:=hid2 (show isSgn (bt s k) = true by rw [← HG.out];simp [isSgn,c60])
               go_wp2_with fail
               go_meet
               exact ⟨by rw [HE.out],HO,HB⟩
              cases c62 : ((s[k].toNat : Int) == 62)
              rotate_left
              ·have HE:=hid2 (show isSgn (bt s k) = true by rw [← HG.out];simp [isSgn,c62])
               go_wp2_with fail
               go_meet
               exact ⟨by rw [HE.out],HO,HB⟩
              cases c61 : ((s[k].toNat : Int) == 61)
              rotate_left
              ·have HE:=hid2 (show isSgn (bt s k) = true by rw [← HG.out];simp [isSgn,c61])
               go_wp2_with fail
               go_meet
               exact ⟨by rw [HE.out],HO,HB⟩
              have HE:=hid2 (show isSgn (bt s k) = false by rw [← HG.out];simp [isSgn,c40,c41,c44,c42,c43,c45,c60,c62,c61])
              go_wp2_with fail
              go_meet
              exact ⟨by rw [HE.out],HO,HB⟩
             case rest =>
              clear HO HB
              obtain ⟨rfl,HO,HB⟩:=hcut
              cases hS : isSgn (bt s k)
              ·have e:=left_none HL.out hlt HN.out (by rw [wl_b2 s k HLf.out HDf.out HB2.out,HBf.out,hS];rfl)
               subst e
               clear hS
               go_wp2_with fail
               go_ret2
               exact ⟨_,rfl,World.ownsRow_nil _ _ _ _,HB.out⟩
              ·have HS:=hid2 hS
               clear hS
               have hk1 : (((k : Nat) : Int) + 1 == ((k : Nat) : Int)) = false:=by simp;omega
               have HE:=hid2 (show k + 1 = k + wl s k by rw [wl_b2 s k HLf.out HDf.out HB2.out,HBf.out,HS.out];rfl)
               by_cases hc : ws.length = 80
               ·have e:=left_many HL.out hlt HN.out (by have:=HE.out;omega) hc
                subst e
                have hc2 : (80 : Int) < ((ws.length : Nat) : Int) + 1:=by omega
                have HC:=hid2 hc
                clear hc
                go_wp2_with (at_builtin;go_must (refine wpList_append_own _ rfl (.tmp 142) (.tmp 147) 52 rfl w.heap.size 9 i0 (.string ⟨#[]⟩) 1 16 Tryz.underlying52 hi hz0 hz1 hz2 rfl (by decide) _ _ _ rfl (HO.out.alloc _) ⟨wc.heap.size,0,none⟩ 1 1 [.string (s.extract k (k + 1))] rfl rfl (cell_one_new _ _ _) (by intro u hu;simp at hu;subst hu;rfl) (by show _ ≤ 2 ^ 63 - 1;omega) (by omega) (by have:=HB.out.size;simp;omega) ?_))
                intro v' w1 ho' hg _
                obtain ⟨ao',cap',rfl⟩:=owns_shape ho'
                have R:=hid2 (own_word HB.out HO.out ho' hg)
                clear ho' hg
                go_wp2_with fail
                go_ret2
                exact ⟨_,rfl,World.ownsRow_nil _ _ _ _,R.out.2⟩
               ·have L:=hid2 (left_word_at HL.out hlt HN.out HE.out (by omega) hc)
                have hc2 : ¬ ((80 : Int) < ((ws.length : Nat) : Int) + 1):=by omega
                have hc3 : ws.length + 1 ≤ 80:=by omega
                clear hc
                go_wp2_with (at_builtin;go_must (refine wpList_append_own _ rfl (.tmp 142) (.tmp 147) 52 rfl w.heap.size 9 i0 (.string ⟨#[]⟩) 1 16 Tryz.underlying52 hi hz0 hz1 hz2 rfl (by decide) _ _ _ rfl (HO.out.alloc _) ⟨wc.heap.size,0,none⟩ 1 1 [.string (s.extract k (k + 1))] rfl rfl (cell_one_new _ _ _) (by intro u hu;simp at hu;subst hu;rfl) (by show _ ≤ 2 ^ 63 - 1;omega) (by omega) (by have:=HB.out.size;simp;omega) ?_))
                intro v' w1 ho' hg _
                obtain ⟨ao',cap',rfl⟩:=owns_shape ho'
                have R:=hid2 (own_word HB.out HO.out ho' hg)
                clear ho' hg
                go_wp2_with fail
                go_roundw
                case rel => exact ⟨k + 1,_,by omega,by go_num,by simpa using hc3,R.out.1,R.out.2,L⟩
                case measure => simp [intOf];omega
            ·have HBt:=hid2 hB
             clear hB
             have hk2 : (((k : Nat) : Int) + 2 == ((k : Nat) : Int)) = false:=by simp;omega
             have hle : k + 2 ≤ s.size:=by
              have:=wl_le s k hlt
              rw [wl_b2 s k HLf.out HDf.out HB2.out,HBt.out] at this
              exact this
             have HE:=hid2 (show k + 2 = k + wl s k by rw [wl_b2 s k HLf.out HDf.out HB2.out,HBt.out];rfl)
             by_cases hc : ws.length = 80
             ·have e:=left_many HL.out hlt HN.out (by have:=HE.out;omega) hc
              subst e
              have hc2 : (80 : Int) < ((ws.length : Nat) : Int) + 1:=by omega
              have HC:=hid2 hc
              clear hc
              go_wp2_with (at_builtin;go_must (refine wpList_append_own _ rfl (.tmp 142) (.tmp 147) 52 rfl w.heap.size 9 i0 (.string ⟨#[]⟩) 1 16 Tryz.underlying52 hi hz0 hz1 hz2 rfl (by decide) _ _ _ rfl (HO.out.alloc _) ⟨wc.heap.size,0,none⟩ 1 1 [.string (s.extract k (k + 2))] rfl rfl (cell_one_new _ _ _) (by intro u hu;simp at hu;subst hu;rfl) (by show _ ≤ 2 ^ 63 - 1;omega) (by omega) (by have:=HB.out.size;simp;omega) ?_))
              intro v' w1 ho' hg _
              obtain ⟨ao',cap',rfl⟩:=owns_shape ho'
              have R:=hid2 (own_word HB.out HO.out ho' hg)
              clear ho' hg
              go_wp2_with fail
              go_ret2
              exact ⟨_,rfl,World.ownsRow_nil _ _ _ _,R.out.2⟩
             ·have L:=hid2 (left_word_at HL.out hlt HN.out HE.out (by omega) hc)
              have hc2 : ¬ ((80 : Int) < ((ws.length : Nat) : Int) + 1):=by omega
              have hc3 : ws.length + 1 ≤ 80:=by omega
              clear hc
              go_wp2_with (at_builtin;go_must (refine wpList_append_own _ rfl (.tmp 142) (.tmp 147) 52 rfl w.heap.size 9 i0 (.string ⟨#[]⟩) 1 16 Tryz.underlying52 hi hz0 hz1 hz2 rfl (by decide) _ _ _ rfl (HO.out.alloc _) ⟨wc.heap.size,0,none⟩ 1 1 [.string (s.extract k (k + 2))] rfl rfl (cell_one_new _ _ _) (by intro u hu;simp at hu;subst hu;rfl) (by show _ ≤ 2 ^ 63 - 1;omega) (by omega) (by have:=HB.out.size;simp;omega) ?_))
              intro v' w1 ho' hg _
              obtain ⟨ao',cap',rfl⟩:=owns_shape ho'
              have R:=hid2 (own_word HB.out HO.out ho' hg)
              clear ho' hg
              go_wp2_with fail
              go_roundw
              case rel => exact ⟨k + 2,_,by omega,by go_num,by simpa using hc3,R.out.1,R.out.2,L⟩
              case measure => simp [intOf];omega
     ·have HLf:=hid2 hL
      have HT:=hid2 hD
      clear hL hD
      as_aux_lemma =>
       have h97b : decide (97 ≤ (s[k].toNat : Int)) = false:=by
        have:=of_decide_eq_true HT.out
        rw [← HG.out] at this
        simp;omega
       have hkk : (((k : Nat) : Int) == ((k : Nat) : Int)) = true:=by simp
       go_wp2_with fail
       go_loop [7] (fun i => i = .int .i64 k) (fun _ => 0)
       case atStart => rfl
       case round =>
        subst hrel
        go_wp2_with fail
        go_loop [7] (fun i => ∃ m : Nat,k ≤ m ∧ m ≤ s.size ∧ i = .int .i64 m ∧ Hid (∀ j,k ≤ j → j < m → isDig (bt s j) = true)) (fun i => s.size - (intOf i).toNat)
        case atStart => exact ⟨k,Nat.le_refl _,hk,rfl,fun j h1 h2 => absurd h2 (by omega)⟩
        case round =>
         obtain ⟨m,hm1,hm2,rfl,HA⟩:=hrel
         by_cases hml : m < s.size
         ·cases hq : isDig (bt s m)
          ·have E:=hid2 (run_of isDig s k m hm1 hm2 HA.out (.inr hq))
           have hkm : k < m:=by
            rcases Nat.lt_or_ge k m with h | h
            ·exact h
            ·have : m = k:=by omega
             subst this
             rw [HT.out] at hq;cases hq
           have hmk : (((m : Nat) : Int) == ((k : Nat) : Int)) = false:=by simp;omega
           have hq1:=of_decide_eq_false hq
           rw [← bt_get s m hml] at hq1
           clear hq
           by_cases h97 : 48 ≤ (s[m].toNat : Int)
           ·have h122 : decide ((s[m].toNat : Int) ≤ 57) = false:=by simp;omega
            clear hq1
            have HE:=hid2 (show m = k + wl s k by rw [wl_dig s k HLf.out HT.out];have:=E.out;omega)
            by_cases hc : ws.length = 80
            ·have e:=left_many HL.out hlt HN.out (by have:=HE.out;omega) hc
             subst e
             have hc2 : (80 : Int) < ((ws.length : Nat) : Int) + 1:=by omega
             have HC:=hid2 hc
             clear hc
             go_wp2_with (at_builtin;go_must (refine wpList_append_own _ rfl (.tmp 142) (.tmp 147) 52 rfl w.heap.size 9 i0 (.string ⟨#[]⟩) 1 16 Tryz.underlying52 hi hz0 hz1 hz2 rfl (by decide) _ _ _ rfl (HO.out.alloc _) ⟨wr.heap.size,0,none⟩ 1 1 [.string (s.extract k (m))] rfl rfl (cell_one_new _ _ _) (by intro u hu;simp at hu;subst hu;rfl) (by show _ ≤ 2 ^ 63 - 1;omega) (by omega) (by have:=HB.out.size;simp;omega) ?_))
             intro v' w1 ho' hg _
             obtain ⟨ao',cap',rfl⟩:=owns_shape ho'
             have R:=hid2 (own_word HB.out HO.out ho' hg)
             clear ho' hg
             go_wp2_with fail
             go_ret2
             exact ⟨_,rfl,World.ownsRow_nil _ _ _ _,R.out.2⟩
            ·have L:=hid2 (left_word_at HL.out hlt HN.out HE.out (by omega) hc)
             have hc2 : ¬ ((80 : Int) < ((ws.length : Nat) : Int) + 1):=by omega
             have hc3 : ws.length + 1 ≤ 80:=by omega
             clear hc
             go_wp2_with (at_builtin;go_must (refine wpList_append_own _ rfl (.tmp 142) (.tmp 147) 52 rfl w.heap.size 9 i0 (.string ⟨#[]⟩) 1 16 Tryz.underlying52 hi hz0 hz1 hz2 rfl (by decide) _ _ _ rfl (HO.out.alloc _) ⟨wr.heap.size,0,none⟩ 1 1 [.string (s.extract k (m))] rfl rfl (cell_one_new _ _ _) (by intro u hu;simp at hu;subst hu;rfl) (by show _ ≤ 2 ^ 63 - 1;omega) (by omega) (by have:=HB.out.size;simp;omega) ?_))
             intro v' w1 ho' hg _
             obtain ⟨ao',cap',rfl⟩:=owns_shape ho'
             have R:=hid2 (own_word HB.out HO.out ho' hg)
             clear ho' hg
             go_wp2_with fail
             go_roundw
             case rel => exact ⟨m,_,by omega,by go_num,by simpa using hc3,R.out.1,R.out.2,L⟩
             case measure => simp [intOf];omega
           ·have h97b : decide (48 ≤ (s[m].toNat : Int)) = false:=decide_eq_false h97
            clear hq1 h97
            have HE:=hid2 (show m = k + wl s k by rw [wl_dig s k HLf.out HT.out];have:=E.out;omega)
            by_cases hc : ws.length = 80
            ·have e:=left_many HL.out hlt HN.out (by have:=HE.out;omega) hc
             subst e
             have hc2 : (80 : Int) < ((ws.length : Nat) : Int) + 1:=by omega
             have HC:=hid2 hc
             clear hc
             go_wp2_with (at_builtin;go_must (refine wpList_append_own _ rfl (.tmp 142) (.tmp 147) 52 rfl w.heap.size 9 i0 (.string ⟨#[]⟩) 1 16 Tryz.underlying52 hi hz0 hz1 hz2 rfl (by decide) _ _ _ rfl (HO.out.alloc _) ⟨wr.heap.size,0,none⟩ 1 1 [.string (s.extract k (m))] rfl rfl (cell_one_new _ _ _) (by intro u hu;simp at hu;subst hu;rfl) (by show _ ≤ 2 ^ 63 - 1;omega) (by omega) (by have:=HB.out.size;simp;omega) ?_))
             intro v' w1 ho' hg _
             obtain ⟨ao',cap',rfl⟩:=owns_shape ho'
             have R:=hid2 (own_word HB.out HO.out ho' hg)
             clear ho' hg
             go_wp2_with fail
             go_ret2
             exact ⟨_,rfl,World.ownsRow_nil _ _ _ _,R.out.2⟩
            ·have L:=hid2 (left_word_at HL.out hlt HN.out HE.out (by omega) hc)
             have hc2 : ¬ ((80 : Int) < ((ws.length : Nat) : Int) + 1):=by omega
             have hc3 : ws.length + 1 ≤ 80:=by omega
             clear hc
             go_wp2_with (at_builtin;go_must (refine wpList_append_own _ rfl (.tmp 142) (.tmp 147) 52 rfl w.heap.size 9 i0 (.string ⟨#[]⟩) 1 16 Tryz.underlying52 hi hz0 hz1 hz2 rfl (by decide) _ _ _ rfl (HO.out.alloc _) ⟨wr.heap.size,0,none⟩ 1 1 [.string (s.extract k (m))] rfl rfl (cell_one_new _ _ _) (by intro u hu;simp at hu;subst hu;rfl) (by show _ ≤ 2 ^ 63 - 1;omega) (by omega) (by have:=HB.out.size;simp;omega) ?_))
             intro v' w1 ho' hg _
             obtain ⟨ao',cap',rfl⟩:=owns_shape ho'
             have R:=hid2 (own_word HB.out HO.out ho' hg)
             clear ho' hg
             go_wp2_with fail
             go_roundw
             case rel => exact ⟨m,_,by omega,by go_num,by simpa using hc3,R.out.1,R.out.2,L⟩
             case measure => simp [intOf];omega
          ·have hq1:=of_decide_eq_true hq
           rw [← bt_get s m hml] at hq1
           obtain ⟨hq1,hq2⟩:=hq1
           have HQ:=hid2 hq
           clear hq
           go_wp2_with fail
           go_round
           case rel => exact ⟨m + 1,by omega,by omega,by go_num,fun j h1 h2 => by
            by_cases hjm : j = m
            ·subst hjm;exact HQ.out
            ·exact HA.out j h1 (by omega)⟩
           case measure => simp [intOf];omega
         ·have E:=hid2 (run_of isDig s k m hm1 hm2 HA.out (.inl (by omega)))
          have hge : ¬ ((m : Int) < (s.size : Int)):=by omega
          have hmk : (((m : Nat) : Int) == ((k : Nat) : Int)) = false:=by simp;omega
          have HE:=hid2 (show m = k + wl s k by rw [wl_dig s k HLf.out HT.out];have:=E.out;omega)
          by_cases hc : ws.length = 80
          ·have e:=left_many HL.out hlt HN.out (by have:=HE.out;omega) hc
           subst e
           have hc2 : (80 : Int) < ((ws.length : Nat) : Int) + 1:=by omega
           have HC:=hid2 hc
           clear hc
           go_wp2_with (at_builtin;go_must (refine wpList_append_own _ rfl (.tmp 142) (.tmp 147) 52 rfl w.heap.size 9 i0 (.string ⟨#[]⟩) 1 16 Tryz.underlying52 hi hz0 hz1 hz2 rfl (by decide) _ _ _ rfl (HO.out.alloc _) ⟨wr.heap.size,0,none⟩ 1 1 [.string (s.extract k (m))] rfl rfl (cell_one_new _ _ _) (by intro u hu;simp at hu;subst hu;rfl) (by show _ ≤ 2 ^ 63 - 1;omega) (by omega) (by have:=HB.out.size;simp;omega) ?_))
           intro v' w1 ho' hg _
           obtain ⟨ao',cap',rfl⟩:=owns_shape ho'
           have R:=hid2 (own_word HB.out HO.out ho' hg)
           clear ho' hg
           go_wp2_with fail
           go_ret2
           exact ⟨_,rfl,World.ownsRow_nil _ _ _ _,R.out.2⟩
          ·have L:=hid2 (left_word_at HL.out hlt HN.out HE.out (by omega) hc)
           have hc2 : ¬ ((80 : Int) < ((ws.length : Nat) : Int) + 1):=by omega
           have hc3 : ws.length + 1 ≤ 80:=by omega
           clear hc
           go_wp2_with (at_builtin;go_must (refine wpList_append_own _ rfl (.tmp 142) (.tmp 147) 52 rfl w.heap.size 9 i0 (.string ⟨#[]⟩) 1 16 Tryz.underlying52 hi hz0 hz1 hz2 rfl (by decide) _ _ _ rfl (HO.out.alloc _) ⟨wr.heap.size,0,none⟩ 1 1 [.string (s.extract k (m))] rfl rfl (cell_one_new _ _ _) (by intro u hu;simp at hu;subst hu;rfl) (by show _ ≤ 2 ^ 63 - 1;omega) (by omega) (by have:=HB.out.size;simp;omega) ?_))
           intro v' w1 ho' hg _
           obtain ⟨ao',cap',rfl⟩:=owns_shape ho'
           have R:=hid2 (own_word HB.out HO.out ho' hg)
           clear ho' hg
           go_wp2_with fail
           go_roundw
           case rel => exact ⟨m,_,by omega,by go_num,by simpa using hc3,R.out.1,R.out.2,L⟩
           case measure => simp [intOf];omega
    ·have HT:=hid2 hL
     clear hL
     as_aux_lemma =>
      go_wp2_with fail
      go_loop [7] (fun i => ∃ m : Nat,k ≤ m ∧ m ≤ s.size ∧ i = .int .i64 m ∧ Hid (∀ j,k ≤ j → j < m → isLet (bt s j) = true)) (fun i => s.size - (intOf i).toNat)
      case atStart => exact ⟨k,Nat.le_refl _,hk,rfl,fun j h1 h2 => absurd h2 (by omega)⟩
      case round =>
       obtain ⟨m,hm1,hm2,rfl,HA⟩:=hrel
       by_cases hml : m < s.size
       ·cases hq : isLet (bt s m)
        ·have E:=hid2 (run_of isLet s k m hm1 hm2 HA.out (.inr hq))
         have hkm : k < m:=by
          rcases Nat.lt_or_ge k m with h | h
          ·exact h
          ·have : m = k:=by omega
           subst this
           rw [HT.out] at hq;cases hq
         have hmk : (((m : Nat) : Int) == ((k : Nat) : Int)) = false:=by simp;omega
         have hq1:=of_decide_eq_false hq
         rw [← bt_get s m hml] at hq1
         clear hq
         by_cases h97 : 97 ≤ (s[m].toNat : Int)
         ·have h122 : decide ((s[m].toNat : Int) ≤ 122) = false:=by simp;omega
          clear hq1
          have HE:=hid2 (show m = k + wl s k by rw [wl_let s k HT.out];have:=E.out;omega)
          by_cases hc : ws.length = 80
          ·have e:=left_many HL.out hlt HN.out (by have:=HE.out;omega) hc
           subst e
           have hc2 : (80 : Int) < ((ws.length : Nat) : Int) + 1:=by omega
           have HC:=hid2 hc
           clear hc
           go_wp2_with (at_builtin;go_must (refine wpList_append_own _ rfl (.tmp 142) (.tmp 147) 52 rfl w.heap.size 9 i0 (.string ⟨#[]⟩) 1 16 Tryz.underlying52 hi hz0 hz1 hz2 rfl (by decide) _ _ _ rfl (HO.out.alloc _) ⟨wr.heap.size,0,none⟩ 1 1 [.string (s.extract k (m))] rfl rfl (cell_one_new _ _ _) (by intro u hu;simp at hu;subst hu;rfl) (by show _ ≤ 2 ^ 63 - 1;omega) (by omega) (by have:=HB.out.size;simp;omega) ?_))
           intro v' w1 ho' hg _
           obtain ⟨ao',cap',rfl⟩:=owns_shape ho'
           have R:=hid2 (own_word HB.out HO.out ho' hg)
           clear ho' hg
           go_wp2_with fail
           go_ret2
           exact ⟨_,rfl,World.ownsRow_nil _ _ _ _,R.out.2⟩
          ·have L:=hid2 (left_word_at HL.out hlt HN.out HE.out (by omega) hc)
           have hc2 : ¬ ((80 : Int) < ((ws.length : Nat) : Int) + 1):=by omega
           have hc3 : ws.length + 1 ≤ 80:=by omega
           clear hc
           go_wp2_with (at_builtin;go_must (refine wpList_append_own _ rfl (.tmp 142) (.tmp 147) 52 rfl w.heap.size 9 i0 (.string ⟨#[]⟩) 1 16 Tryz.underlying52 hi hz0 hz1 hz2 rfl (by decide) _ _ _ rfl (HO.out.alloc _) ⟨wr.heap.size,0,none⟩ 1 1 [.string (s.extract k (m))] rfl rfl (cell_one_new _ _ _) (by intro u hu;simp at hu;subst hu;rfl) (by show _ ≤ 2 ^ 63 - 1;omega) (by omega) (by have:=HB.out.size;simp;omega) ?_))
           intro v' w1 ho' hg _
           obtain ⟨ao',cap',rfl⟩:=owns_shape ho'
           have R:=hid2 (own_word HB.out HO.out ho' hg)
           clear ho' hg
           go_wp2_with fail
           go_roundw
           case rel => exact ⟨m,_,by omega,by go_num,by simpa using hc3,R.out.1,R.out.2,L⟩
           case measure => simp [intOf];omega
         ·have h97b : decide (97 ≤ (s[m].toNat : Int)) = false:=decide_eq_false h97
          clear hq1 h97
          have HE:=hid2 (show m = k + wl s k by rw [wl_let s k HT.out];have:=E.out;omega)
          by_cases hc : ws.length = 80
          ·have e:=left_many HL.out hlt HN.out (by have:=HE.out;omega) hc
           subst e
           have hc2 : (80 : Int) < ((ws.length : Nat) : Int) + 1:=by omega
           have HC:=hid2 hc
           clear hc
           go_wp2_with (at_builtin;go_must (refine wpList_append_own _ rfl (.tmp 142) (.tmp 147) 52 rfl w.heap.size 9 i0 (.string ⟨#[]⟩) 1 16 Tryz.underlying52 hi hz0 hz1 hz2 rfl (by decide) _ _ _ rfl (HO.out.alloc _) ⟨wr.heap.size,0,none⟩ 1 1 [.string (s.extract k (m))] rfl rfl (cell_one_new _ _ _) (by intro u hu;simp at hu;subst hu;rfl) (by show _ ≤ 2 ^ 63 - 1;omega) (by omega) (by have:=HB.out.size;simp;omega) ?_))
           intro v' w1 ho' hg _
           obtain ⟨ao',cap',rfl⟩:=owns_shape ho'
           have R:=hid2 (own_word HB.out HO.out ho' hg)
           clear ho' hg
           go_wp2_with fail
           go_ret2
           exact ⟨_,rfl,World.ownsRow_nil _ _ _ _,R.out.2⟩
          ·have L:=hid2 (left_word_at HL.out hlt HN.out HE.out (by omega) hc)
           have hc2 : ¬ ((80 : Int) < ((ws.length : Nat) : Int) + 1):=by omega
           have hc3 : ws.length + 1 ≤ 80:=by omega
           clear hc
           go_wp2_with (at_builtin;go_must (refine wpList_append_own _ rfl (.tmp 142) (.tmp 147) 52 rfl w.heap.size 9 i0 (.string ⟨#[]⟩) 1 16 Tryz.underlying52 hi hz0 hz1 hz2 rfl (by decide) _ _ _ rfl (HO.out.alloc _) ⟨wr.heap.size,0,none⟩ 1 1 [.string (s.extract k (m))] rfl rfl (cell_one_new _ _ _) (by intro u hu;simp at hu;subst hu;rfl) (by show _ ≤ 2 ^ 63 - 1;omega) (by omega) (by have:=HB.out.size;simp;omega) ?_))
           intro v' w1 ho' hg _
           obtain ⟨ao',cap',rfl⟩:=owns_shape ho'
           have R:=hid2 (own_word HB.out HO.out ho' hg)
           clear ho' hg
           go_wp2_with fail
           go_roundw
           case rel => exact ⟨m,_,by omega,by go_num,by simpa using hc3,R.out.1,R.out.2,L⟩
           case measure => simp [intOf];omega
        ·have hq1:=of_decide_eq_true hq
         rw [← bt_get s m hml] at hq1
         obtain ⟨hq1,hq2⟩:=hq1
         have HQ:=hid2 hq
         clear hq
         go_wp2_with fail
         go_round
         case rel => exact ⟨m + 1,by omega,by omega,by go_num,fun j h1 h2 => by
          by_cases hjm : j = m
          ·subst hjm;exact HQ.out
          ·exact HA.out j h1 (by omega)⟩
         case measure => simp [intOf];omega
       ·have E:=hid2 (run_of isLet s k m hm1 hm2 HA.out (.inl (by omega)))
        have hge : ¬ ((m : Int) < (s.size : Int)):=by omega
        have hmk : (((m : Nat) : Int) == ((k : Nat) : Int)) = false:=by simp;omega
        have HE:=hid2 (show m = k + wl s k by rw [wl_let s k HT.out];have:=E.out;omega)
        by_cases hc : ws.length = 80
        ·have e:=left_many HL.out hlt HN.out (by have:=HE.out;omega) hc
         subst e
         have hc2 : (80 : Int) < ((ws.length : Nat) : Int) + 1:=by omega
         have HC:=hid2 hc
         clear hc
         go_wp2_with (at_builtin;go_must (refine wpList_append_own _ rfl (.tmp 142) (.tmp 147) 52 rfl w.heap.size 9 i0 (.string ⟨#[]⟩) 1 16 Tryz.underlying52 hi hz0 hz1 hz2 rfl (by decide) _ _ _ rfl (HO.out.alloc _) ⟨wr.heap.size,0,none⟩ 1 1 [.string (s.extract k (m))] rfl rfl (cell_one_new _ _ _) (by intro u hu;simp at hu;subst hu;rfl) (by show _ ≤ 2 ^ 63 - 1;omega) (by omega) (by have:=HB.out.size;simp;omega) ?_))
         intro v' w1 ho' hg _
         obtain ⟨ao',cap',rfl⟩:=owns_shape ho'
         have R:=hid2 (own_word HB.out HO.out ho' hg)
         clear ho' hg
         go_wp2_with fail
         go_ret2
         exact ⟨_,rfl,World.ownsRow_nil _ _ _ _,R.out.2⟩
        ·have L:=hid2 (left_word_at HL.out hlt HN.out HE.out (by omega) hc)
         have hc2 : ¬ ((80 : Int) < ((ws.length : Nat) : Int) + 1):=by omega
         have hc3 : ws.length + 1 ≤ 80:=by omega
         clear hc
         go_wp2_with (at_builtin;go_must (refine wpList_append_own _ rfl (.tmp 142) (.tmp 147) 52 rfl w.heap.size 9 i0 (.string ⟨#[]⟩) 1 16 Tryz.underlying52 hi hz0 hz1 hz2 rfl (by decide) _ _ _ rfl (HO.out.alloc _) ⟨wr.heap.size,0,none⟩ 1 1 [.string (s.extract k (m))] rfl rfl (cell_one_new _ _ _) (by intro u hu;simp at hu;subst hu;rfl) (by show _ ≤ 2 ^ 63 - 1;omega) (by omega) (by have:=HB.out.size;simp;omega) ?_))
         intro v' w1 ho' hg _
         obtain ⟨ao',cap',rfl⟩:=owns_shape ho'
         have R:=hid2 (own_word HB.out HO.out ho' hg)
         clear ho' hg
         go_wp2_with fail
         go_roundw
         case rel => exact ⟨m,_,by omega,by go_num,by simpa using hc3,R.out.1,R.out.2,L⟩
         case measure => simp [intOf];omega
  ·have e:=left_end HL.out (by omega)
   subst e
   have hge : ¬ ((k : Int) < (s.size : Int)):=by omega
   go_wp2_with fail
   go_ret2
   exact ⟨_,rfl,HO.out,HB.out⟩
end Go.Proofs.YteaanpdckkmjoaaGreatDoor
