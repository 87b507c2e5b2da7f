/- Several texts in one, each with its own head. What is proved: what the parts say. Conditions: theirs. -/
import Derived.Test.YteaanpdckkmjoaaGreatDoorRows
import Derived.Test.YteaanpdckkmjoaaGreatDoorExprPureJ
import Derived.ProofKit
import Derived.OpenShut
import Derived.OwnWalk
import Derived.Outline
import Derived.Test.YteaanpdckkmjoaaGreatDoorLexPureJ
import Derived.Test.YteaanpdckkmjoaaGreatDoorLex4
import Derived.Test.YteaanpdckkmjoaaGreatDoorQfM
import Derived.Test.YteaanpdckkmjoaaGreatDoorParsePureJ
import Derived.Lib.ItoaNum
import Derived.Lib.Join
set_option linter.unusedVariables false
set_option linter.unusedSimpArgs false
set_option maxRecDepth 100000
set_option maxHeartbeats 8000000
namespace Go.Proofs.YteaanpdckkmjoaaGreatDoor
open Go.RowKit
theorem same_nil (f : Int) (w : World) :
  Calls Tryz.prog 8 #[.nilIface,.int .i64 f] w fun e w' => e = .returned (.bool (f == 0)) ∧ w' = w:=by
 go_enter Tryz.func8,Tryz.ntmps8
 go_wp2
 go_ret
 exact ⟨rfl,rfl⟩
theorem assert_errno (c : Int) (w : World) : (Instr.typeAssert (.iface 48 (.int .i64 c)) 31 48 true).run Tryz.prog w = .ok (.tuple #[.int .i64 c,.bool true]) w:=by kernel_rfl
theorem same_err (c f : Int) (w : World) (hc : 0 < c) :
  Calls Tryz.prog 8 #[.iface 48 (.int .i64 c),.int .i64 f] w fun e w' => e = .returned (.bool (c == f)) ∧ w' = w:=by
 have ta:=fun w => assert_errno c w
 by_cases hf : 0 < f
 ·go_enter Tryz.func8,Tryz.ntmps8
  go_wp2
  go_ret
  exact ⟨rfl,rfl⟩
 ·have hd : decide (0 < f) = false:=by simp;omega
  have hg : (c == f) = false:=by simp;omega
  rw [hg]
  clear hg
  go_enter Tryz.func8,Tryz.ntmps8
  go_wp2
  go_ret
  exact ⟨rfl,rfl⟩
theorem toList_inj (x y : ByteArray) (h : x.toList = y.toList) : x = y:=by
 rw [Lib.toList_data,Lib.toList_data] at h
 rw [← Lib.mk_data x,← Lib.mk_data y,h]
theorem lexT_pos (s : ByteArray) : 0 ≤ (lexT s).1:=by
 unfold lexT
 split
 ·generalize s.size = f
  have : ∀ (f a : Nat) (ws : List ByteArray),0 ≤ (lexF s f a ws).1:=by
   intro f
   induction f with
   | zero => intro a ws;exact Int.le_refl _
   | succ f ih =>
    intro a ws
    unfold lexF
    repeat' split
    all_goals first | exact ih _ _ | decide | exact Int.le_refl _
  exact this _ _ _
 ·decide
theorem wordsOf_long (s : ByteArray) (w : World) (h : 240 < s.size) : Calls Tryz.prog 32 #[.string s] w fun e w' => ∃ v,e = .returned (.tuple #[v,.int .i64 (lexT s).1]) ∧ w'.ownsRow w.heap.size 9 1 v (lexT s).2.length ((lexT s).2.map Value.string) ∧ Below w.heap.size w w':=by
 have e : lexT s = (2,[]):=by unfold lexT;rw [if_neg (by omega)]
 rw [e]
 go_enter Tryz.func32,Tryz.ntmps32
 go_wp2
 go_ret2
 exact ⟨_,rfl,World.ownsRow_nil _ _ _ _,Below.refl _ _⟩
theorem wordsOf_any (s : ByteArray) (w : World) : Calls Tryz.prog 32 #[.string s] w fun e w' => ∃ v,e = .returned (.tuple #[v,.int .i64 (lexT s).1]) ∧ w'.ownsRow w.heap.size 9 1 v (lexT s).2.length ((lexT s).2.map Value.string) ∧ Below w.heap.size w w':=by
 by_cases h : s.size ≤ 240
 ·exact wordsOf_short s w h
 ·exact wordsOf_long s w (by omega)
end Go.Proofs.YteaanpdckkmjoaaGreatDoor
namespace Go.Proofs.YteaanpdckkmjoaaGreatDoor
open Go.ChangeShapes Go.WideShapes Go.ChangeAt Go.RowKit
def QofR (s : ByteArray) (w : World) (r : Ending) (w' : World) : Prop:=Below w.heap.size w w' ∧ match parseQ s with
 | .error c => r = .returned (.tuple #[qzV,.int .i64 c]) ∧ 0 < c
 | .ok q => ∃ va vw vb ps,r = .returned (.tuple #[qyV va vw vb q,.int .i64 0]) ∧ QyO w' w.heap.size va vw vb q ps
theorem qof_lex (s : ByteArray) (w : World) (hx : (lexT s).1 ≠ 0) :
  Calls Tryz.prog 13 #[.string s] w fun r w' => QofR s w r w':=by
 have ba:=below_alloc w (.cells #[.slice none 0 0,.slice none 0 0,.slice none 0 0,.int .i64 0,.int .i64 0,.int .i64 0,.int .i64 0] 25)
 have BA:=hidE ba
 have BR:=hidE (blk_alloc w [.slice none 0 0,.slice none 0 0,.slice none 0 0,.int .i64 0,.int .i64 0,.int .i64 0,.int .i64 0] 25)
 have WO:=wordsOf_any s (w.alloc (.cells #[.slice none 0 0,.slice none 0 0,.slice none 0 0,.int .i64 0,.int .i64 0,.int .i64 0,.int .i64 0] 25))
 have hpos:=lexT_pos s
 have EP : Hid (parseQ s = .error (lexT s).1):=by show _ = _;unfold parseQ;rw [if_pos hx]
 have HX:=hidE (show 0 < (lexT s).1 by omega)
 have q1 : decide (0 < (lexT s).1) = true:=by simp;omega
 have q2 : 0 < (lexT s).1:=by omega
 have e9 : (w.alloc (.cells #[.slice none 0 0,.slice none 0 0,.slice none 0 0,.int .i64 0,.int .i64 0,.int .i64 0,.int .i64 0] 25)).heap.size = w.heap.size + 1:=by simp
 generalize (lexT s).1 = c at *
 have WOH:=hidE WO
 clear WO ba hx hpos e9
 go_enter Tryz.func13,Tryz.ntmps13
 go_wp2_with fail
 refine WOH.out.mono ?_
 rintro r w1 ⟨v,rfl,ho,hb⟩
 obtain ⟨ao,cap,rfl⟩:=owns_shapeE ho
 have B1:=hidE (BA.out.trans (hb.mono BA.out.size))
 have BR1:=blk_below BR.out hb BR.out.lt
 have f0:=BR1.fz 0
 have c0:=BR1.c 0 (by simp)
 have f1:=BR1.fz 1
 have c1:=BR1.c 1 (by simp)
 have f2:=BR1.fz 2
 have c2:=BR1.c 2 (by simp)
 have f3:=BR1.fz 3
 have c3:=BR1.c 3 (by simp)
 have f4:=BR1.fz 4
 have c4:=BR1.c 4 (by simp)
 have f5:=BR1.fz 5
 have c5:=BR1.c 5 (by simp)
 have f6:=BR1.fz 6
 have c6:=BR1.c 6 (by simp)
 simp only [List.getElem?_cons_zero,List.getElem?_cons_succ] at c0 c1 c2 c3 c4 c5 c6
 have Z:=hidE (show BlkAt (((((((w1.setCell ⟨w.heap.size,0,none⟩ (.slice none 0 0)).setCell ⟨w.heap.size,1,none⟩ (.slice none 0 0)).setCell ⟨w.heap.size,2,none⟩ (.slice none 0 0)).setCell ⟨w.heap.size,3,none⟩ (.int .i64 0)).setCell ⟨w.heap.size,4,none⟩ (.int .i64 0)).setCell ⟨w.heap.size,5,none⟩ (.int .i64 0)).setCell ⟨w.heap.size,6,none⟩ (.int .i64 0)) w.heap.size [.slice none 0 0,.slice none 0 0,.slice none 0 0,.int .i64 0,.int .i64 0,.int .i64 0,.int .i64 0] by simpa using (blk_set (blk_set (blk_set (blk_set (blk_set (blk_set (blk_set BR1 0 (.slice none 0 0) (by simp)) 1 (.slice none 0 0) (by simp)) 2 (.slice none 0 0) (by simp)) 3 (.int .i64 0) (by simp)) 4 (.int .i64 0) (by simp)) 5 (.int .i64 0) (by simp)) 6 (.int .i64 0) (by simp)))
 have KG : Hid (KeptB w1 (((((((w1.setCell ⟨w.heap.size,0,none⟩ (.slice none 0 0)).setCell ⟨w.heap.size,1,none⟩ (.slice none 0 0)).setCell ⟨w.heap.size,2,none⟩ (.slice none 0 0)).setCell ⟨w.heap.size,3,none⟩ (.int .i64 0)).setCell ⟨w.heap.size,4,none⟩ (.int .i64 0)).setCell ⟨w.heap.size,5,none⟩ (.int .i64 0)).setCell ⟨w.heap.size,6,none⟩ (.int .i64 0)) (fun q => q = w.heap.size)):=(keptB_set (keptB_set (keptB_set (keptB_set (keptB_set (keptB_set (keptB_set (keptB_of_below (bad:=fun q => q = w.heap.size) (Below.refl w1.heap.size w1)) rfl 0 _) rfl 1 _) rfl 2 _) rfl 3 _) rfl 4 _) rfl 5 _) rfl 6 _)
 clear hb ho WOH BR BR1
 go_wp2_with fail
 generalize (((((((w1.setCell ⟨w.heap.size,0,none⟩ (.slice none 0 0)).setCell ⟨w.heap.size,1,none⟩ (.slice none 0 0)).setCell ⟨w.heap.size,2,none⟩ (.slice none 0 0)).setCell ⟨w.heap.size,3,none⟩ (.int .i64 0)).setCell ⟨w.heap.size,4,none⟩ (.int .i64 0)).setCell ⟨w.heap.size,5,none⟩ (.int .i64 0)).setCell ⟨w.heap.size,6,none⟩ (.int .i64 0)) = wz at *
 have z0:=Z.out.c 0 (by simp)
 have z1:=Z.out.c 1 (by simp)
 have z2:=Z.out.c 2 (by simp)
 have z3:=Z.out.c 3 (by simp)
 have z4:=Z.out.c 4 (by simp)
 have z5:=Z.out.c 5 (by simp)
 have z6:=Z.out.c 6 (by simp)
 simp only [List.getElem?_cons_zero,List.getElem?_cons_succ] at z0 z1 z2 z3 z4 z5 z6
 refine bodyPost_ret (v:=.tuple #[.agg #[.slice none 0 0,.slice none 0 0,.slice none 0 0,.int .i64 0,.int .i64 0,.int .i64 0,.int .i64 0],.int .i64 c]) (by simp [results,Tryz.results13,go_sem,z0,z1,z2,z3,z4,z5,z6]) rfl ?_
 refine ⟨below_kept B1.out KG.out (fun k e => by omega),?_⟩
 rw [EP.out]
 exact ⟨rfl,HX.out⟩
theorem fStart (Q : Exit → Act → World → Prop) (Y X : Code) (C0 : Code) (h0 : rgn 0 (Tryz.f13.body.getD .skip) = some C0) (C1 : Code) (h1 : rgn 1 (Tryz.f13.body.getD .skip) = some C1) (C2 : Code) (h2 : rgn 2 (Tryz.f13.body.getD .skip) = some C2) (C4 : Code) (h4 : rgn 4 (Tryz.f13.body.getD .skip) = some C4) (C5 : Code) (h5 : rgn 5 (Tryz.f13.body.getD .skip) = some C5) (t : List Value) (s : ByteArray) (w : World) (ht : t.length = 167) (k0 : t[0]? = some (.string s))
  (hx : (lexT s).1 = 0)
  (hQ : ∀ (t' : List Value) (wv : Value) (g : Nat) (w' : World),t'.length = 167 → t'[2]? = some (.pointer (some ⟨w.heap.size,0,none⟩)) → t'[6]? = some (.pointer (some ⟨g,0,none⟩)) → t'[7]? = some (.pointer (some ⟨g + 1,0,none⟩)) → QD w w' g w.heap.size (g + 1) wv (lexT s).2 (.ok (lexT s).2) (.slice none 0 0) (.slice none 0 0) (.slice none 0 0) ⟨[],[],[],0,0,0,0⟩ → Code.wp Tryz.prog X Q { tmps:=t'.toArray,defers:=[] } w') :
  Code.wp Tryz.prog (.seq C0 (.seq C1 (.seq (.seq C2 (.cond (.tmp 22) Y .skip)) (.seq C4 (.seq C5 X))))) Q { tmps:=t.toArray,defers:=[] } w:=by
 have HQ:=hidE hQ
 have ba:=below_alloc w (.cells #[.slice none 0 0,.slice none 0 0,.slice none 0 0,.int .i64 0,.int .i64 0,.int .i64 0,.int .i64 0] 25)
 have BR:=blk_alloc w [.slice none 0 0,.slice none 0 0,.slice none 0 0,.int .i64 0,.int .i64 0,.int .i64 0,.int .i64 0] 25
 have TR:=tyAt_new w #[.slice none 0 0,.slice none 0 0,.slice none 0 0,.int .i64 0,.int .i64 0,.int .i64 0,.int .i64 0] 25
 have WO:=wordsOf_any s (w.alloc (.cells #[.slice none 0 0,.slice none 0 0,.slice none 0 0,.int .i64 0,.int .i64 0,.int .i64 0,.int .i64 0] 25))
 have hf:=lexT_few s
 rw [hx] at WO
 have HB0:=hidE (below_alloc w (.cells #[.slice none 0 0,.slice none 0 0,.slice none 0 0,.int .i64 0,.int .i64 0,.int .i64 0,.int .i64 0] 25))
 generalize (lexT s).2 = all at *
 have WOH:=hidE WO
 have BRH:=hidE BR
 have TRH:=hidE TR
 have HF:=hidE hf
 clear hQ WO ba BR TR hx hf
 obtain ⟨f,hf,hi⟩:=listedQ t ht
 have e0:=some_at (hi 0 (by decide)) k0
 rw [e0] at hf
 clear hi ht k0 e0
 subst hf
 unfold Tryz.f13 at h0
 simp [rgn] at h0
 subst h0
 unfold Tryz.f13 at h1
 simp [rgn] at h1
 subst h1
 unfold Tryz.f13 at h2
 simp [rgn] at h2
 subst h2
 unfold Tryz.f13 at h4
 simp [rgn] at h4
 subst h4
 unfold Tryz.f13 at h5
 simp [rgn] at h5
 subst h5
 go_wp2_with fail
 refine WOH.out.mono ?_
 rintro r w1 ⟨v,rfl,ho,hb⟩
 obtain ⟨ao,cap,rfl⟩:=owns_shapeE ho
 have hsz1 : w.heap.size + 1 ≤ w1.heap.size:=by have:=hb.size;simp at this;exact this
 have b1:=below_alloc w1 (.cells #[.slice ao all.length cap,.int .i64 0,.int .i64 0,.int .i64 0] 69)
 have b2:=below_alloc (w1.alloc (.cells #[.slice ao all.length cap,.int .i64 0,.int .i64 0,.int .i64 0] 69)) (.cells #[.slice none 0 0,.slice none 0 0,.slice none 0 0,.int .i64 0,.int .i64 0,.int .i64 0,.int .i64 0] 25)
 have z1 : (w1.alloc (.cells #[.slice ao all.length cap,.int .i64 0,.int .i64 0,.int .i64 0] 69)).heap.size = w1.heap.size + 1:=by simp
 have BB : Below w1.heap.size w1 ((w1.alloc (.cells #[.slice ao all.length cap,.int .i64 0,.int .i64 0,.int .i64 0] 69)).alloc (.cells #[.slice none 0 0,.slice none 0 0,.slice none 0 0,.int .i64 0,.int .i64 0,.int .i64 0,.int .i64 0] 25)):=b1.trans (b2.mono b1.size)
 have BD:=blk_below (blk_alloc w1 [.slice ao all.length cap,.int .i64 0,.int .i64 0,.int .i64 0] 69) b2 (by omega)
 have BQ:=blk_alloc (w1.alloc (.cells #[.slice ao all.length cap,.int .i64 0,.int .i64 0,.int .i64 0] 69)) [.slice none 0 0,.slice none 0 0,.slice none 0 0,.int .i64 0,.int .i64 0,.int .i64 0,.int .i64 0] 25
 have TQ:=tyAt_new (w1.alloc (.cells #[.slice ao all.length cap,.int .i64 0,.int .i64 0,.int .i64 0] 69)) #[.slice none 0 0,.slice none 0 0,.slice none 0 0,.int .i64 0,.int .i64 0,.int .i64 0,.int .i64 0] 25
 rw [z1] at BQ TQ
 have hrow:=rowG_below (rowG_of_owns ho) BB
 have hRD : RD ((w1.alloc (.cells #[.slice ao all.length cap,.int .i64 0,.int .i64 0,.int .i64 0] 69)).alloc (.cells #[.slice none 0 0,.slice none 0 0,.slice none 0 0,.int .i64 0,.int .i64 0,.int .i64 0,.int .i64 0] 25)) w1.heap.size (.slice ao all.length cap) all 0 all 0 0 :=
  ⟨by simpa using BD,hrow,fun g' off m c e => by have:=(own_at ho g' (by rw [e];rfl)).2;omega,by have:=HF.out;omega,Nat.zero_le _,Int.le_refl _,by rw [if_pos rfl,List.drop_zero]⟩
 have HS : Hid (QD w _ w1.heap.size w.heap.size (w1.heap.size + 1) (.slice ao all.length cap) all (.ok all) (.slice none 0 0) (.slice none 0 0) (.slice none 0 0) ⟨[],[],[],0,0,0,0⟩) :=
  ⟨HB0.out.trans ((hb.trans (BB.mono hb.size)).mono HB0.out.size),⟨0,hRD⟩,BQ,blk_below (blk_below BRH.out hb (by simp)) BB (by omega),TQ,tyAt_kept (tyAt_kept TRH.out (keptB_of_below (bad:=fun _ => False) hb) id) (keptB_of_below (bad:=fun _ => False) BB) id,Nat.le_refl _,by omega,by omega,⟨[],rfl,World.ownsRow_nil _ _ _ _,fun p hp => by simp at hp,fun _ p hp => by simp at hp⟩,⟨rfl,fun _ => .inl ⟨rfl,rfl⟩⟩,⟨rfl,fun _ => .inl ⟨rfl,rfl⟩⟩⟩
 clear hb ho b1 b2 z1 BB BD BQ TQ hrow hRD WOH BRH TRH
 go_wp2_with fail
 exact HQ.out _ (.slice ao all.length cap) w1.heap.size _ rfl rfl rfl rfl HS.out
theorem fMore7 (Q : Exit → Act → World → Prop) (X : Code) (C7 : Code) (h7 : rgn 7 (Tryz.f13.body.getD .skip) = some C7) (t : List Value) (g gr gq : Nat) (wv : Value) (all : Ws) (st : St) (va vw vb : Value) (q : Qy) (W w : World) (ht : t.length = 167) (k2 : t[2]? = some (.pointer (some ⟨gr,0,none⟩))) (k6 : t[6]? = some (.pointer (some ⟨g,0,none⟩))) (k7 : t[7]? = some (.pointer (some ⟨gq,0,none⟩)))
  (h : QD W w g gr gq wv all st va vw vb q)
  (hQ : ∀ (t' : List Value)  (w' : World),t'.length = 167 → t'[2]? = some (.pointer (some ⟨gr,0,none⟩)) → t'[6]? = some (.pointer (some ⟨g,0,none⟩)) → t'[7]? = some (.pointer (some ⟨gq,0,none⟩)) → t'[8]? = some (.bool true) → QD W w' g gr gq wv all st va vw vb q → Code.wp Tryz.prog X Q { tmps:=t'.toArray,defers:=[] } w') :
  Code.wp Tryz.prog (.seq C7 X) Q { tmps:=t.toArray,defers:=[] } w:=by
 have HQ:=hidE hQ
 have H:=hidE h
 clear hQ h
 obtain ⟨f,hf,hi⟩:=listedQ t ht
 have e2:=some_at (hi 2 (by decide)) k2
 have e6:=some_at (hi 6 (by decide)) k6
 have e7:=some_at (hi 7 (by decide)) k7
 rw [e2,e6,e7] at hf
 clear hi ht k2 e2 k6 e6 k7 e7
 subst hf
 unfold Tryz.f13 at h7
 simp [rgn] at h7
 subst h7
 go_wp2_with fail
 exact HQ.out _ _ rfl rfl rfl rfl rfl H.out
theorem qof_rest (s : ByteArray) (w : World) (hx : (lexT s).1 = 0) :
  Calls Tryz.prog 13 #[.string s] w fun r w' => QofR s w r w':=by
 have okw : WsOk (lexT s).2:=⟨fun x hxm e => by
  have h9:=lexT_wordy s x hxm
  subst e
  exact absurd rfl h9.1,lexT_240 s⟩
 have hf:=lexT_few s
 have EP : parseQ s = (match chkSt (questS (lexT s).2).1 (questS (lexT s).2).2 with | .error c => .error c | .ok _ => .ok (questS (lexT s).2).1):=by
  unfold parseQ
  rw [if_neg (fun e => e hx),quest_run]
  cases (questS (lexT s).2).2 with
  | error c => rfl
  | ok r =>
   simp only [runK,chkSt]
   by_cases hc : chkQ (questS (lexT s).2).1 = 0
   ·rw [if_neg (fun e => e hc),if_pos hc]
   ·rw [if_pos hc,if_neg hc]
 go_enter Tryz.func13,Tryz.ntmps13
 refine fStart _ _ _ _ (by kernel_rfl) _ (by kernel_rfl) _ (by kernel_rfl) _ (by kernel_rfl) _ (by kernel_rfl) _ s w rfl rfl hx ?_
 intro t1 wv g w1 ht1 a1 b1 c1 h1
 refine wp_seq (fMust6 _ _ (by kernel_rfl) t1 g _ _ wv _ okw _ _ _ _ _ w w1 ht1 a1 b1 c1 h1 ?_)
 intro t2 w2 ht2 a2 b2 c2 h2
 refine then_normal (fMore7 _ _ _ (by kernel_rfl) t2 g _ _ wv _ _ _ _ _ _ w w2 ht2 a2 b2 c2 h2 ?_)
 intro t3 w3 ht3 a3 b3 c3 d3 h3
 have hwl:=wl_must wSelect (.ok (lexT s).2)
 have hw0 : wlS (.ok (lexT s).2) = (lexT s).2.length:=rfl
 refine wp_seq (fLoop _ _ (by kernel_rfl) t3 g _ _ wv _ okw _ _ _ _ _ w w3 FU rfl (by unfold FU;omega) (by omega) ht3 a3 b3 c3 d3 h3 ?_)
 intro t4 va w4 ht4 a4 b4 c4 h4
 refine then_normal (wp_seq (fMust30 _ _ (by kernel_rfl) t4 g _ _ wv _ okw _ _ _ _ _ w w4 ht4 a4 b4 c4 h4 ?_))
 intro t5 w5 ht5 a5 b5 c5 h5
 refine then_normal (wp_seq (fMust31 _ _ (by kernel_rfl) t5 g _ _ wv _ okw _ _ _ _ _ w w5 ht5 a5 b5 c5 h5 ?_))
 intro t6 w6 ht6 a6 b6 c6 h6
 refine then_normal (fWhere _ _ _ (by kernel_rfl) _ (by kernel_rfl) _ (by kernel_rfl) t6 g _ _ wv _ okw _ _ _ _ _ w w6 rfl rfl ht6 a6 b6 c6 h6 ?_)
 intro t7 vw w7 ht7 a7 b7 c7 h7
 refine fGroup _ _ _ (by kernel_rfl) _ (by kernel_rfl) _ (by kernel_rfl) _ (by kernel_rfl) t7 g _ _ wv _ okw _ _ _ _ _ w w7 rfl rfl ht7 a7 b7 c7 h7 ?_
 intro t8 vb w8 ht8 a8 b8 c8 h8
 refine wp_seq (fMust39 _ _ (by kernel_rfl) t8 g _ _ wv _ okw _ _ _ _ _ w w8 ht8 a8 b8 c8 h8 ?_)
 intro t9 w9 ht9 a9 b9 c9 h9
 refine then_normal (fSize _ _ _ (by kernel_rfl) _ (by kernel_rfl) t9 g _ _ wv _ okw _ _ _ _ _ w w9 ht9 a9 b9 c9 h9 ?_)
 intro t10 w10 ht10 a10 b10 c10 h10
 refine fOpt42 _ _ _ (by kernel_rfl) _ (by kernel_rfl) _ (by kernel_rfl) t10 g _ _ wv _ okw _ _ _ _ _ w w10 ht10 a10 b10 c10 h10 ?_
 intro t11 w11 ht11 a11 b11 c11 h11
 refine fOpt45 _ _ _ (by kernel_rfl) _ (by kernel_rfl) _ (by kernel_rfl) t11 g _ _ wv _ okw _ _ _ _ _ w w11 ht11 a11 b11 c11 h11 ?_
 intro t12 w12 ht12 a12 b12 c12 h12
 refine fOpt48 _ _ _ (by kernel_rfl) _ (by kernel_rfl) _ (by kernel_rfl) t12 g _ _ wv _ okw _ _ _ _ _ w w12 ht12 a12 b12 c12 h12 ?_
 intro t13 w13 ht13 a13 b13 c13 h13
 refine fEnds _ _ _ (by kernel_rfl) _ (by kernel_rfl) t13 g _ _ wv _ okw _ _ _ _ _ w w13 ht13 a13 b13 c13 h13 ?_
 intro t14 w14 ht14 a14 b14 c14 h14
 refine fChk _ _ _ (by kernel_rfl) _ (by kernel_rfl) t14 g _ _ wv _ okw _ _ _ _ _ w w14 ht14 a14 b14 c14 h14 ?_
 intro t15 w15 ht15 a15 b15 c15 h15
 have h9 : QD w w15 g w.heap.size (g + 1) wv (lexT s).2 (chkSt (questS (lexT s).2).1 (questS (lexT s).2).2) va vw vb (questS (lexT s).2).1:=h15
 clear h15
 cases hst : chkSt (questS (lexT s).2).1 (questS (lexT s).2).2 with
 | error c =>
  rw [hst] at h9 EP
  refine fBad _ _ _ (by kernel_rfl) (by kernel_rfl) _ t15 g _ _ wv _ c _ _ _ _ w w15 ht15 a15 b15 c15 h9 ?_
  intro w' hb hc
  refine ⟨hb,?_⟩
  rw [EP]
  exact ⟨rfl,hc⟩
 | ok ws =>
  rw [hst] at h9 EP
  refine fGood _ _ _ _ (by kernel_rfl) (by kernel_rfl) t15 g _ _ wv _ ws _ _ _ _ w w15 ht15 a15 b15 c15 h9 ?_
  intro w' ps hb hqo
  refine ⟨hb,?_⟩
  rw [EP]
  exact ⟨_,_,_,ps,rfl,hqo⟩
theorem qof_any (s : ByteArray) (w : World) : Calls Tryz.prog 13 #[.string s] w fun r w' => QofR s w r w':=by
 by_cases hx : (lexT s).1 = 0
 ·exact qof_rest s w hx
 ·exact qof_lex s w hx
end Go.Proofs.YteaanpdckkmjoaaGreatDoor
namespace Go.Proofs.YteaanpdckkmjoaaGreatDoor
theorem okN_one {n : Nd} (h : okN n = 0) (ha : ar n.op = 1) : n = ⟨n.op,n.x,0,0,0,0⟩:=by
 unfold okN at h
 by_cases hh : badN n
 ·simp [hh] at h
 ·have h1 : n.op ≠ 1 ∧ n.op ≠ 2:=ar_12 (by omega)
  unfold badN at hh
  obtain ⟨op,x,y,m,k,v⟩:=n
  simp only [not_or,not_and,Decidable.not_not] at hh ha h1
  obtain ⟨-,h2,h3,h4,-⟩:=hh
  obtain ⟨rfl,rfl⟩ : k = 0 ∧ v = 0:=Decidable.byContradiction (fun hc => h2 h1.1 (fun a b => hc ⟨a,b⟩))
  obtain rfl:=h3 h1.2
  obtain rfl:=h4 (by omega)
  rfl
theorem okN_two {n : Nd} (h : okN n = 0) (ha : ar n.op = 2) : n = ⟨n.op,n.x,n.y,0,0,0⟩:=by
 unfold okN at h
 by_cases hh : badN n
 ·simp [hh] at h
 ·have h1 : n.op ≠ 1 ∧ n.op ≠ 2:=ar_12 (by omega)
  unfold badN at hh
  obtain ⟨op,x,y,m,k,v⟩:=n
  simp only [not_or,not_and,Decidable.not_not] at hh ha h1
  obtain ⟨-,h2,h3,-,-⟩:=hh
  obtain ⟨rfl,rfl⟩ : k = 0 ∧ v = 0:=Decidable.byContradiction (fun hc => h2 h1.1 (fun a b => hc ⟨a,b⟩))
  obtain rfl:=h3 h1.2
  rfl
theorem okN_zero {n : Nd} (h : okN n = 0) (ha : ar n.op = 0) : (n = ⟨1,0,0,0,n.k,n.v⟩ ∧ vokB n.k n.v = true) ∨ (n = ⟨2,0,0,n.n,0,0⟩ ∧ 0 ≤ n.n ∧ n.n < 4):=by
 unfold okN at h
 by_cases hh : badN n
 ·simp [hh] at h
 ·rw [if_neg hh] at h
  by_cases h9 : n.n < 0 ∨ 4 ≤ n.n
  ·simp [h9] at h
  ·rw [if_neg h9] at h
   have hv : vokB n.k n.v = true:=by
    by_cases hv : vokB n.k n.v = true
    ·exact hv
    ·simp [hv] at h
   unfold badN at hh
   obtain ⟨op,x,y,m,k,v⟩:=n
   simp only [not_or,not_and,Decidable.not_not] at hh ha h9 hv ⊢
   obtain ⟨-,h2,h3,h4,h5⟩:=hh
   obtain rfl:=h4 (by omega)
   obtain rfl:=h5 (by omega)
   have hop : op = 1 ∨ op = 2:=by
    unfold ar at ha
    by_cases h8 : op = 1 ∨ op = 2
    ·exact h8
    ·rw [if_neg h8] at ha
     split at ha
     ·omega
     ·split at ha <;> omega
   rcases hop with rfl | rfl
   ·obtain rfl:=h3 (by decide)
    exact .inl ⟨rfl,hv⟩
   ·obtain ⟨rfl,rfl⟩ : k = 0 ∧ v = 0:=Decidable.byContradiction (fun hc => h2 (by decide) (fun a b => hc ⟨a,b⟩))
    exact .inr ⟨rfl,by omega,by omega⟩
def enc : List UInt8 → Nat
 | [] => 0
 | b :: l => b.toNat + 1 + 257 * enc l
def decN : Nat → Nat → List UInt8
 | 0,_ => []
 | f + 1,n => if n = 0 then [] else UInt8.ofNat ((n - 1) % 257) :: decN f ((n - 1) / 257)
def dec (n : Nat) : List UInt8:=decN n n
theorem decN_enc : ∀ (l : List UInt8) (f : Nat),enc l ≤ f → decN f (enc l) = l
 | [],f,_ => by cases f <;> simp [decN,enc]
 | b :: l,f,h => by
  have hb : b.toNat < 256:=b.toNat_lt
  obtain ⟨f,rfl⟩ : ∃ g,f = g + 1:=⟨f - 1,by simp only [enc] at h;omega⟩
  have h1 : (b.toNat + 1 + 257 * enc l - 1) % 257 = b.toNat:=by omega
  have h2 : (b.toNat + 1 + 257 * enc l - 1) / 257 = enc l:=by omega
  have h3 : ¬ (b.toNat + 1 + 257 * enc l = 0):=by omega
  simp only [decN,enc,if_neg h3,h1,h2]
  rw [decN_enc l f (by simp only [enc] at h;omega)]
  simp
theorem dec_enc (l : List UInt8) : dec (enc l) = l:=decN_enc l _ (Nat.le_refl _)
def isFB (k n : Int) : Bool:=k == 2 && n == 0
def isTB (k n : Int) : Bool:=k == 2 && n == 1
def textB (k n : Int) : List UInt8:=if k = 1 then Lib.itoa n else if isFB k n then [102,97,108,115,101] else if isTB k n then [116,114,117,101] else [110,117,108,108]
def cstB (k v : Int) : ByteArray:=if v < 0 then ⟨#[40,48,32,45,32]⟩ ++ ⟨(Lib.itoa (-v)).toArray⟩ ++ ⟨#[41]⟩ else ⟨(textB k v).toArray⟩
def sgnB (op : Int) : ByteArray:=if op = 6 then ⟨#[43]⟩ else if op = 7 then ⟨#[45]⟩ else if op = 8 then ⟨#[42]⟩ else if op = 9 then ⟨#[97,110,100]⟩ else if op = 10 then ⟨#[111,114]⟩ else if op = 11 then ⟨#[60]⟩ else ⟨#[61]⟩
def txO (op : Int) (a b : ByteArray) : ByteArray :=
 if op = 3 then ⟨#[40,45,32]⟩ ++ a ++ ⟨#[41]⟩ else if op = 4 then ⟨#[40,110,111,116,32]⟩ ++ a ++ ⟨#[41]⟩ else if op = 5 then ⟨#[40]⟩ ++ a ++ ⟨#[32,105,115,32,110,117,108,108,41]⟩
 else ⟨#[40]⟩ ++ a ++ ⟨#[32]⟩ ++ sgnB op ++ ⟨#[32]⟩ ++ b ++ ⟨#[41]⟩
def fldB (n : Int) : ByteArray:=if n = 0 then wT else if n = 1 then wK else if n = 2 then wA else wB
def D (p : V2) : ByteArray:=if p.1 = 3 then ⟨(dec p.2.toNat).toArray⟩ else cstB p.1 p.2
def E (s : ByteArray) : V2:=(3,(enc s.data.toList : Int))
theorem D_E (s : ByteArray) : D (E s) = s:=by
 unfold D E
 simp only [if_true,Int.toNat_natCast,dec_enc,Array.toArray_toList]
def oT (op : Int) (a b : V2) : V2:=E (txO op (D a) (D b))
def evT4 : List V2:=[E wT,E wK,E wA,E wB]
theorem D_fld (n : Int) (h0 : 0 ≤ n) (h4 : n < 4) : D (nth evT4 n) = fldB n:=by
 have : n = 0 ∨ n = 1 ∨ n = 2 ∨ n = 3:=by omega
 rcases this with rfl | rfl | rfl | rfl
 ·exact D_E wT
 ·exact D_E wK
 ·exact D_E wA
 ·exact D_E wB
theorem txO_one {op : Int} (h : ar op = 1) (a b c : ByteArray) : txO op a b = txO op a c:=by
 have : op = 3 ∨ op = 4 ∨ op = 5:=by
  unfold ar at h
  split at h
  ·omega
  ·split at h
   ·omega
   ·split at h <;> omega
 rcases this with rfl | rfl | rfl <;> rfl
theorem vok_ne {k v : Int} (h : vokB k v = true) : k ≠ 3:=by
 have:=of_decide_eq_true h
 omega
def txL (l : List Nd) : ByteArray:=D (evL oT evT4 l)
def nmB (k : Int) : ByteArray:=if k = 3 then wSum else if k = 4 then wMin else if k = 5 then wMax else wCount
def agB (a : AgQ) : ByteArray:=if a.kind = 1 then ⟨#[99,111,117,110,116,40,42,41]⟩ else nmB a.kind ++ ⟨#[40]⟩ ++ txL a.of ++ ⟨#[41]⟩
def decB (n : Int) : ByteArray:=⟨(Lib.itoa n).toArray⟩
def partB (word : ByteArray) (s : ByteArray) (l : List Nd) : ByteArray:=if l.length = 0 then s else s ++ (word ++ txL l)
def qyB (q : Qy) : ByteArray :=
 partB ⟨#[32,103,114,111,117,112,32,98,121,32]⟩ (partB ⟨#[32,119,104,101,114,101,32]⟩ (⟨#[115,101,108,101,99,116,32]⟩ ++ ⟨(Lib.join (q.aggs.map fun a => (agB a).data.toList) [44,32]).toArray⟩ ++ ⟨#[32,102,114,111,109,32,101,118,101,110,116,115]⟩) q.wh) q.bys
  ++ ⟨#[32,119,105,110,100,111,119,32]⟩ ++ decB q.size ++ ⟨#[32,115,108,105,100,101,32]⟩ ++ decB q.slide ++ ⟨#[32,100,101,108,97,121,32]⟩ ++ decB q.delay ++ ⟨#[32,108,97,116,101,32]⟩ ++ decB q.late
end Go.Proofs.YteaanpdckkmjoaaGreatDoor
