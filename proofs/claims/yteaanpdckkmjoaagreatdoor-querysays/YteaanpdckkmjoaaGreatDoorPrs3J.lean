/- Several texts in one, each with its own head. What is proved: what the parts say. Conditions: theirs. -/
import Derived.Test.YteaanpdckkmjoaaGreatDoorRq5J
set_option linter.unusedVariables false
set_option linter.unusedSimpArgs false
set_option maxRecDepth 100000
set_option maxHeartbeats 8000000
namespace Go.Proofs.YteaanpdckkmjoaaGreatDoor
open Go.ChangeShapes Go.WideShapes Go.ChangeAt Go.RowKit
theorem sgOf_nil : sgIn sgL (hdW []) = none:=by decide
theorem tkS_none {rank : Int} {ws : Ws} (h : sgIn sgL (hdW ws) = none) : tkS rank ws = none:=by
 cases ws with
 | nil => rfl
 | cons x r =>
  have h : sgOf x = none:=h
  simp only [tkS,h]
theorem tkS_some {rank : Int} {ws : Ws} {s : Sg} (h : sgIn sgL (hdW ws) = some s) : ∃ x r,ws = x :: r ∧ tkS rank ws = if s.rank = rank then some (s,r) else none:=by
 cases ws with
 | nil => rw [sgOf_nil] at h;cases h
 | cons x r =>
  have h : sgOf x = some s:=h
  refine ⟨x,r,rfl,?_⟩
  simp only [tkS,h]
def TakeSR (w w' : World) (gp gm : Nat) (rank : Int) (wv : Value) (ws : Ws) (d e : Int) (r : Ending) : Prop :=
 match tkS rank ws with
 | some p => r = .returned (.tuple #[sgV p.1,.bool true]) ∧ KeptB w w' (fun q => q = gp) ∧ ∃ wv',PS w' gp gm wv' p.2 d e
 | none => r = .returned (.tuple #[sgV sg0,.bool false]) ∧ KeptB w w' (fun q => q = gp) ∧ PS w' gp gm wv ws d e
theorem takeSign_gen (R : Ending → World → Prop) (gp gm : Nat) (rank : Int) (wv : Value) (ws : Ws) (d e : Int) (w : World) (h : PS w gp gm wv ws d e)
  (hN : tkS rank ws = none → ∀ w',KeptB w w' (fun q => q = gp) → PS w' gp gm wv ws d e → R (.returned (.tuple #[sgV sg0,.bool false])) w')
  (hY : ∀ s ws1,tkS rank ws = some (s,ws1) → ∀ w' wv',KeptB w w' (fun q => q = gp) → PS w' gp gm wv' ws1 d e → R (.returned (.tuple #[sgV s,.bool true])) w') :
  Calls Tryz.prog 98 #[.pointer (some ⟨gp,0,none⟩),.int .i64 rank] w R:=by
 have HN:=hidE hN
 have HY:=hidE hY
 clear hN hY
 have H:=hidE h
 have BA:=hidE (below_alloc w (.cells #[.int .i64 0,.int .i64 0,.bool false,.bool false] 96))
 have BL:=hidE (blk_alloc w [.int .i64 0,.int .i64 0,.bool false,.bool false] 96)
 have H0:=hidE (ps_kept h BA.out)
 have hlt : gp < w.heap.size:=h.bd.lt
 clear h
 go_enter Tryz.func98,Tryz.ntmps98
 go_wp2_with fail
 have hg4 : w.heap.size ≠ gp:=by omega
 generalize w.alloc (.cells #[.int .i64 0,.int .i64 0,.bool false,.bool false] 96) = wa at *
 generalize hgr : w.heap.size = g4 at *
 have PNH:=hidE (@pan_body Tryz.prog Tryz.f98 R)
 refine takeSign_r1 _ _ (by kernel_rfl) _ gp gm g4 wv ws d e rank _ rfl rfl rfl rfl H0.out (pan_then PNH.out) ?_
 rintro t' gs s b w1 ht k0 k1 k4 k6 k7 ⟨hs,hb,hbl,hgs,hbw⟩
 have BL1:=hidE (blk_below BL.out hbw BL.out.lt)
 have P1:=hidE (ps_kept H0.out hbw)
 have BB : Hid (Below g4 w w1):=BA.out.trans (hbw.mono (by have:=BA.out.size;omega))
 have hne : gs ≠ g4:=by have:=BL.out.lt;omega
 have hg9 : w.heap.size ≤ g4:=by omega
 have KB : ∀ wz,Below g4 w wz → KeptB w wz (fun q => q = gp):=fun wz hz => keptB_of_below (hz.mono hg9)
 have KBH:=hidE KB
 obtain ⟨f,hf,hi⟩:=listed30 t' ht
 have e0:=some_at (hi 0 (by decide)) k0
 have e1:=some_at (hi 1 (by decide)) k1
 have e4:=some_at (hi 4 (by decide)) k4
 have e6:=some_at (hi 6 (by decide)) k6
 have e7:=some_at (hi 7 (by decide)) k7
 rw [e0,e1,e4,e6,e7] at hf
 clear hi ht k0 k1 k4 k6 k7 e0 e1 e4 e6 e7 KB BL H0 PNH
 subst hf
 have f0:=BL1.out.fz 0
 have f1:=BL1.out.fz 1
 have f2:=BL1.out.fz 2
 have f3:=BL1.out.fz 3
 have c0:=BL1.out.c 0 (by simp)
 have c1:=BL1.out.c 1 (by simp)
 have c2:=BL1.out.c 2 (by simp)
 have c3:=BL1.out.c 3 (by simp)
 have q0:=hbl.c 0 (by simp)
 have q1:=hbl.c 1 (by simp)
 have q2:=hbl.c 2 (by simp)
 have q3:=hbl.c 3 (by simp)
 have HBL:=hidE hbl
 simp only [List.getElem?_cons_zero,List.getElem?_cons_succ] at c0 c1 c2 c3 q0 q1 q2 q3
 refine then_normal ?_
 rename_i K9 hK9
 refine hK9 _ _ ?_
 cases hsg : sgIn sgL (hdW ws) with
 | none =>
  rw [hsg] at hs hb
  have hs : sg0 = s:=hs
  have hb : false = b:=hb
  subst hs hb
  have HR:=hidE (HN.out (tkS_none hsg))
  have Z4:=hidE (blk_set (blk_set (blk_set (blk_set BL1.out 0 (.int .i64 0) (by simp)) 1 (.int .i64 0) (by simp)) 2 (.bool false) (by simp)) 3 (.bool false) (by simp))
  have ZB:=hidE ((((BB.out.setCell (p:=⟨g4,0,none⟩) (Nat.le_refl _) (.int .i64 0)).setCell (p:=⟨g4,1,none⟩) (Nat.le_refl _) (.int .i64 0)).setCell (p:=⟨g4,2,none⟩) (Nat.le_refl _) (.bool false)).setCell (p:=⟨g4,3,none⟩) (Nat.le_refl _) (.bool false))
  clear hsg HN HY q0 q1 q2 q3 hgs hbw
  have Z5:=hidE (show BlkAt _ g4 [.int .i64 0,.int .i64 0,.bool false,.bool false] by simpa using Z4.out)
  clear Z4
  go_wp2_with fail
  generalize ((((w1.setCell ⟨g4,0,none⟩ (.int .i64 0)).setCell ⟨g4,1,none⟩ (.int .i64 0)).setCell ⟨g4,2,none⟩ (.bool false)).setCell ⟨g4,3,none⟩ (.bool false)) = wz at *
  have z0:=Z5.out.c 0 (by simp)
  have z1:=Z5.out.c 1 (by simp)
  have z2:=Z5.out.c 2 (by simp)
  have z3:=Z5.out.c 3 (by simp)
  simp only [List.getElem?_cons_zero,List.getElem?_cons_succ] at z0 z1 z2 z3
  exact bodyPost_ret (v:=.tuple #[.agg #[.int .i64 0,.int .i64 0,.bool false,.bool false],.bool false]) (by simp [results,Tryz.results98,go_sem,z0,z1,z2,z3]) rfl (HR.out _ (KBH.out _ ZB.out) (ps_kept H.out (by rw [hgr];exact ZB.out)))
 | some s0 =>
  rw [hsg] at hs hb
  have hs : s0 = s:=hs
  have hb : true = b:=hb
  subst hs hb
  obtain ⟨x,r,hws,hts⟩:=tkS_some (rank:=rank) hsg
  subst hws
  by_cases hrk : s0.rank = rank
  ·rw [if_pos hrk] at hts
   have HR:=hidE (HY.out s0 r hts)
   have hne2 : (s0.rank != rank) = false:=by simp [hrk]
   have SK:=hidE (skip_any gp gm wv x r d e w1 P1.out)
   have hgs4 : gp < g4:=by omega
   have hgsp : gp < gs:=by have:=BA.out.size;omega
   clear hsg HN HY hts hgs hbw hrk
   go_wp2_with fail
   refine SK.out.mono ?_
   rintro r9 w2 ⟨rfl,hk,wv',hp⟩
   have BS:=hidE (blk_kept HBL.out hk (fun e9 => by omega))
   have BG:=hidE (blk_kept BL1.out hk (fun e9 => by omega))
   have Z5:=hidE (show BlkAt _ g4 [.int .i64 s0.rank,.int .i64 s0.op,.bool s0.turned,.bool s0.denied] by simpa using blk_set (blk_set (blk_set (blk_set BG.out 0 (.int .i64 s0.rank) (by simp)) 1 (.int .i64 s0.op) (by simp)) 2 (.bool s0.turned) (by simp)) 3 (.bool s0.denied) (by simp))
   have K9 : Hid (KeptB w2 ((((w2.setCell ⟨g4,0,none⟩ (.int .i64 s0.rank)).setCell ⟨g4,1,none⟩ (.int .i64 s0.op)).setCell ⟨g4,2,none⟩ (.bool s0.turned)).setCell ⟨g4,3,none⟩ (.bool s0.denied)) (fun q => q = g4)):=keptB_set (keptB_set (keptB_set (keptB_set (keptB_of_below (bad:=fun q => q = g4) (Below.refl w2.heap.size w2)) rfl 0 _) rfl 1 _) rfl 2 _) rfl 3 _
   have KW : Hid (KeptB w ((((w2.setCell ⟨g4,0,none⟩ (.int .i64 s0.rank)).setCell ⟨g4,1,none⟩ (.int .i64 s0.op)).setCell ⟨g4,2,none⟩ (.bool s0.turned)).setCell ⟨g4,3,none⟩ (.bool s0.denied)) (fun q => q = gp)):=by
    have k1:=keptB_trans (KBH.out _ BB.out) hk
    exact ⟨k1.b0.trans K9.out.b0,fun k hk9 hn => (K9.out.block k (Nat.lt_of_lt_of_le hk9 k1.b0.size) (fun e9 => by omega)).trans (k1.block k hk9 hn)⟩
   have PZ:=hidE (ps_far hp K9.out (fun k e9 => by omega))
   clear c0 c1 c2 c3 q0 q1 q2 q3 f0 f1 f2 f3
   have f0:=BG.out.fz 0
   have f1:=BG.out.fz 1
   have f2:=BG.out.fz 2
   have f3:=BG.out.fz 3
   have c0:=BG.out.c 0 (by simp)
   have c1:=BG.out.c 1 (by simp)
   have c2:=BG.out.c 2 (by simp)
   have c3:=BG.out.c 3 (by simp)
   have q0:=BS.out.c 0 (by simp)
   have q1:=BS.out.c 1 (by simp)
   have q2:=BS.out.c 2 (by simp)
   have q3:=BS.out.c 3 (by simp)
   simp only [List.getElem?_cons_zero,List.getElem?_cons_succ] at c0 c1 c2 c3 q0 q1 q2 q3
   clear hk hp SK
   go_wp2_with fail
   generalize ((((w2.setCell ⟨g4,0,none⟩ (.int .i64 s0.rank)).setCell ⟨g4,1,none⟩ (.int .i64 s0.op)).setCell ⟨g4,2,none⟩ (.bool s0.turned)).setCell ⟨g4,3,none⟩ (.bool s0.denied)) = wz at *
   have z0:=Z5.out.c 0 (by simp)
   have z1:=Z5.out.c 1 (by simp)
   have z2:=Z5.out.c 2 (by simp)
   have z3:=Z5.out.c 3 (by simp)
   simp only [List.getElem?_cons_zero,List.getElem?_cons_succ] at z0 z1 z2 z3
   exact bodyPost_ret (v:=.tuple #[.agg #[.int .i64 s0.rank,.int .i64 s0.op,.bool s0.turned,.bool s0.denied],.bool true]) (by simp [results,Tryz.results98,go_sem,z0,z1,z2,z3]) rfl (HR.out _ _ KW.out PZ.out)
  ·rw [if_neg hrk] at hts
   have HR:=hidE (HN.out hts)
   have hne2 : (s0.rank != rank) = true:=by simp [hrk]
   have ZB:=hidE ((((BB.out.setCell (p:=⟨g4,0,none⟩) (Nat.le_refl _) (.int .i64 0)).setCell (p:=⟨g4,1,none⟩) (Nat.le_refl _) (.int .i64 0)).setCell (p:=⟨g4,2,none⟩) (Nat.le_refl _) (.bool false)).setCell (p:=⟨g4,3,none⟩) (Nat.le_refl _) (.bool false))
   have Z5:=hidE (show BlkAt _ g4 [.int .i64 0,.int .i64 0,.bool false,.bool false] by simpa using blk_set (blk_set (blk_set (blk_set BL1.out 0 (.int .i64 0) (by simp)) 1 (.int .i64 0) (by simp)) 2 (.bool false) (by simp)) 3 (.bool false) (by simp))
   clear hsg HN HY hts hgs hbw hrk
   go_wp2_with fail
   generalize ((((w1.setCell ⟨g4,0,none⟩ (.int .i64 0)).setCell ⟨g4,1,none⟩ (.int .i64 0)).setCell ⟨g4,2,none⟩ (.bool false)).setCell ⟨g4,3,none⟩ (.bool false)) = wz at *
   have z0:=Z5.out.c 0 (by simp)
   have z1:=Z5.out.c 1 (by simp)
   have z2:=Z5.out.c 2 (by simp)
   have z3:=Z5.out.c 3 (by simp)
   simp only [List.getElem?_cons_zero,List.getElem?_cons_succ] at z0 z1 z2 z3
   exact bodyPost_ret (v:=.tuple #[.agg #[.int .i64 0,.int .i64 0,.bool false,.bool false],.bool false]) (by simp [results,Tryz.results98,go_sem,z0,z1,z2,z3]) rfl (HR.out _ (KBH.out _ ZB.out) (ps_kept H.out (by rw [hgr];exact ZB.out)))
theorem takeSign_any (gp gm : Nat) (rank : Int) (wv : Value) (ws : Ws) (d e : Int) (w : World) (h : PS w gp gm wv ws d e) :
  Calls Tryz.prog 98 #[.pointer (some ⟨gp,0,none⟩),.int .i64 rank] w fun r w' => TakeSR w w' gp gm rank wv ws d e r:=by
 refine takeSign_gen _ gp gm rank wv ws d e w h (fun hn w' hk hp => ?_) (fun s ws1 hs w' wv' hk hp => ?_)
 ·unfold TakeSR
  rw [hn]
  exact ⟨rfl,hk,hp⟩
 ·unfold TakeSR
  rw [hs]
  exact ⟨rfl,hk,wv',hp⟩
def WfN (l : List Nd) : Prop:=0 < l.length ∧ l.length ≤ 40 ∧ ∃ bs,Good l bs ∧ bs[l.length - 1]? = some 0
theorem wf_mvb {l : List Nd} (h : WfN l) : ∀ n ∈ l,Mvb n:=by
 obtain ⟨-,h1,bs,hg,-⟩:=h
 exact good_mvb hg (by omega)
theorem wf_jn2 {op : Int} {l m z : List Nd} (ho : ar op = 2) (hl : WfN l) (hm : WfN m) (h : jn2 op l m = .ok z) : z = joinL op l m ∧ WfN z:=by
 unfold jn2 at h
 by_cases h4 : 40 < l.length + m.length + 1
 ·rw [if_pos h4] at h;cases h
 ·rw [if_neg h4] at h
  cases h
  obtain ⟨a0,a1,bl,hg,hb⟩:=hl
  obtain ⟨c0,c1,bm,hg2,hb2⟩:=hm
  have hlen : (joinL op l m).length = l.length + m.length + 1:=by simp [joinL];omega
  refine ⟨rfl,by omega,by omega,_,good_joinL hg hg2 a0 c0 hb hb2 ho,?_⟩
  have h9 : (bl ++ bm.map (· + l.length)).length = l.length + m.length:=by simp [hg.1,hg2.1]
  rw [hlen,show l.length + m.length + 1 - 1 = l.length + m.length from by omega,← h9,List.getElem?_append_right (Nat.le_refl _)]
  simp
theorem wf_jn1 {op : Int} {l z : List Nd} (ho : ar op = 1) (hl : WfN l) (h : jn1 op l = .ok z) : z = join1 op l ∧ WfN z:=by
 unfold jn1 at h
 by_cases h4 : 40 < l.length + 1
 ·rw [if_pos h4] at h;cases h
 ·rw [if_neg h4] at h
  cases h
  obtain ⟨a0,a1,bl,hg,hb⟩:=hl
  have hlen : (join1 op l).length = l.length + 1:=by simp [join1]
  refine ⟨rfl,by omega,by omega,_,good_join1 hg a0 hb ho,?_⟩
  rw [hlen,show l.length + 1 - 1 = bl.length from by rw [hg.1];omega,List.getElem?_append_right (Nat.le_refl _)]
  simp
def isSl : Value → Bool
 | .slice _ _ _ => true
 | _ => false
structure ErC (c : Int) (v : Value) : Prop where
 ne : c ≠ 0
 sl : isSl v = true
theorem sl_shape {v : Value} (h : isSl v = true) : ∃ a n c,v = .slice a n c:=by
 cases v <;> simp [isSl] at h
 exact ⟨_,_,_,rfl⟩
def NdsR (w : World) (B : Nat) (v : Value) (l : List Nd) : Prop:=w.ownsRow B 91 6 v l.length (rowN l) ∧ WfN l
theorem NdsR.sl {w : World} {B : Nat} {v : Value} {l : List Nd} (h : NdsR w B v l) : isSl v = true:=by
 obtain ⟨ao,cap,rfl⟩:=owns_shapeE h.1
 rfl
theorem nds_kept {w w' : World} {B : Nat} {v : Value} {l : List Nd} {bad : Nat → Prop} (h : NdsR w B v l) (hk : KeptB w w' bad) (hb : ∀ k,bad k → k < B) : NdsR w' B v l :=
 ⟨own_kept h.1 hk (fun k e h9 => by have:=hb k h9;have:=(own_at h.1 k e).1;omega),h.2⟩
def PRR (w w' : World) (gp gm : Nat) (d : Int) (r : PR) (e : Ending) : Prop:=KeptB w w' (fun q => q = gp) ∧ match r with
 | .ok p => ∃ v wv',e = .returned v ∧ NdsR w' (gp + 1) v p.1 ∧ PS w' gp gm wv' p.2 d 0
 | .error c => ∃ v wv',e = .returned v ∧ ErC c v ∧ PS w' gp gm wv' [] d c
theorem join_err (gp gm : Nat) (op : Int) (u v wv : Value) (ws : Ws) (d e : Int) (he : e ≠ 0) (w : World) (h : PS w gp gm wv ws d e) :
  Calls Tryz.prog 116 #[.pointer (some ⟨gp,0,none⟩),.int .i64 op,u,v] w fun r w' => r = .returned (.slice none 0 0) ∧ Below w.heap.size w w':=by
 have c3 : w.cell? ⟨gp,3,none⟩ = some (errC e):=h.bd.c 3 (by simp)
 have ec : errC e = .iface 48 (.int .i64 e):=by unfold errC;rw [if_neg he]
 rw [ec] at c3
 clear h he ec
 go_enter Tryz.func116,Tryz.ntmps116
 go_wp2_with fail
 go_ret
 exact ⟨rfl,Below.refl _ _⟩
theorem join_ok (R : Ending → World → Prop) (gp gm : Nat) (op : Int) (u v wv : Value) (ws : Ws) (d : Int) (w : World) (h : PS w gp gm wv ws d 0) (z : List Nd) (hz : z.length ≤ 200)
  (HJ : Calls Tryz.prog 124 #[.int .i64 op,u,v] w fun e w' => ∃ u',e = .returned u' ∧ w'.ownsRow w.heap.size 91 6 u' z.length (rowN z) ∧ Below w.heap.size w w')
  (hN : 40 < z.length → ∀ w',KeptB w w' (fun q => q = gp) → PS w' gp gm (.slice none 0 0) [] d 2 → R (.returned (.slice none 0 0)) w')
  (hY : z.length ≤ 40 → ∀ u' w',KeptB w w' (fun q => q = gp) → PS w' gp gm wv ws d 0 → w'.ownsRow (gp + 1) 91 6 u' z.length (rowN z) → R (.returned u') w') :
  Calls Tryz.prog 116 #[.pointer (some ⟨gp,0,none⟩),.int .i64 op,u,v] w R:=by
 have c3 : w.cell? ⟨gp,3,none⟩ = some .nilIface:=h.bd.c 3 (by simp)
 have H:=hidE h
 have HN:=hidE hN
 have HY:=hidE hY
 have HJJ:=hidE HJ
 have hlt:=h.bd.lt
 clear h hN hY HJ
 go_enter Tryz.func116,Tryz.ntmps116
 go_wp2_with fail
 refine HJJ.out.mono ?_
 rintro e w1 ⟨u',rfl,ho,hb⟩
 obtain ⟨ao,cap,rfl⟩:=owns_shapeE ho
 have HO:=hidE (owns_baseG ho (show gp + 1 ≤ w.heap.size by omega))
 have HB:=hidE hb
 have H1:=hidE (ps_kept H.out hb)
 clear ho hb HJJ
 by_cases h4 : 40 < z.length
 ·have d4 : decide (40 < (z.length : Int)) = true:=by simp;omega
  have FL:=hidE (fail_any gp gm 2 (by decide) wv ws d 0 w1 H1.out)
  have HN2:=hidE (HN.out h4)
  clear h4
  go_wp2_with fail
  refine FL.out.mono ?_
  rintro e w2 ⟨rfl,hk,hp⟩
  have HK:=hidE hk
  have HP:=hidE hp
  clear hk hp FL
  go_wp2_with fail
  exact HN2.out _ (keptB_trans (keptB_of_below HB.out) HK.out) HP.out
 ·have d4 : decide (40 < (z.length : Int)) = false:=by simp;omega
  have HY2:=hidE (HY.out (by omega))
  clear h4
  go_wp2_with fail
  exact HY2.out _ _ (keptB_of_below HB.out) H1.out HO.out
theorem nil_row6 (w : World) : RowG w (.slice none 0 0) 6 ([] : List Nd).length (rowN []):=⟨rfl,.inl ⟨⟨_,_,rfl⟩,rfl⟩⟩
theorem join1_any (gp gm : Nat) (op : Int) (ho : ar op = 1) (u wv : Value) (l : List Nd) (ws : Ws) (d : Int) (w : World) (h : PS w gp gm wv ws d 0) (hu : NdsR w (gp + 1) u l) :
  Calls Tryz.prog 116 #[.pointer (some ⟨gp,0,none⟩),.int .i64 op,u,.slice none 0 0] w fun r w' => PRR w w' gp gm d (wth ws (jn1 op l)) r:=by
 have hl:=hu.2.2.1
 have hlen : (join1 op l).length = l.length + 1:=by simp [join1]
 refine join_ok _ gp gm op u (.slice none 0 0) wv ws d w h (join1 op l) (by omega) (join_one op l [] u (.slice none 0 0) w (by omega) (rowG_of_owns hu.1) (nil_row6 w) (wf_mvb hu.2) ho) (fun h4 w' hk hp => ?_) (fun h4 u' w' hk hp ho2 => ?_)
 ·have e : jn1 op l = .error 2:=by unfold jn1;rw [if_pos (by omega)]
  rw [e]
  exact ⟨hk,_,_,rfl,⟨by decide,rfl⟩,hp⟩
 ·have e : jn1 op l = .ok (join1 op l):=by unfold jn1;rw [if_neg (by omega)]
  have hw:=(wf_jn1 ho hu.2 e).2
  rw [e]
  exact ⟨hk,_,_,rfl,⟨ho2,hw⟩,hp⟩
theorem join2_any (gp gm : Nat) (op : Int) (ho : ar op = 2) (u v wv : Value) (l m : List Nd) (ws : Ws) (d : Int) (w : World) (h : PS w gp gm wv ws d 0) (hu : NdsR w (gp + 1) u l) (hv : NdsR w (gp + 1) v m) :
  Calls Tryz.prog 116 #[.pointer (some ⟨gp,0,none⟩),.int .i64 op,u,v] w fun r w' => PRR w w' gp gm d (wth ws (jn2 op l m)) r:=by
 have hl:=hu.2.2.1
 have hm:=hv.2.2.1
 have hlen : (joinL op l m).length = l.length + m.length + 1:=by simp [joinL];omega
 refine join_ok _ gp gm op u v wv ws d w h (joinL op l m) (by omega) (join_two op l m u v w (by omega) (by omega) (rowG_of_owns hu.1) (rowG_of_owns hv.1) (wf_mvb hu.2) (wf_mvb hv.2) ho) (fun h4 w' hk hp => ?_) (fun h4 u' w' hk hp ho2 => ?_)
 ·have e : jn2 op l m = .error 2:=by unfold jn2;rw [if_pos (by omega)]
  rw [e]
  exact ⟨hk,_,_,rfl,⟨by decide,rfl⟩,hp⟩
 ·have e : jn2 op l m = .ok (joinL op l m):=by unfold jn2;rw [if_neg (by omega)]
  have hw:=(wf_jn2 ho hu.2 hv.2 e).2
  rw [e]
  exact ⟨hk,_,_,rfl,⟨ho2,hw⟩,hp⟩
def RLu (w w' : World) (g : Nat) (wv : Value) (all : Ws) (d : Int) (res : PR) (u : Value) : Prop :=
 KeptB w w' (fun q => q = g) ∧ ∃ n',match res with
 | .ok (l,ws1) => NdsR w' (g + 1) u l ∧ RD w' g wv all n' ws1 d 0
 | .error c => 0 < c ∧ RD w' g wv all n' [] d c
theorem rlu_from {w0 w w' : World} {g : Nat} {wv : Value} {all : Ws} {d : Int} {res : PR} {u : Value} (hk : KeptB w0 w (fun q => q = g)) (h : RLu w w' g wv all d res u) : RLu w0 w' g wv all d res u:=⟨keptB_trans hk h.1,h.2⟩
theorem rlevel_err (g : Nat) (k : Int) (wv : Value) (all : Ws) (n : Nat) (ws : Ws) (d e : Int) (he : e ≠ 0) (w : World) (h : RD w g wv all n ws d e) :
  Calls Tryz.prog 36 #[.pointer (some ⟨g,0,none⟩),.int .i64 k] w fun r w' => r = .returned (.slice none 0 0) ∧ Below w.heap.size w w':=by
 have c3 : w.cell? ⟨g,3,none⟩ = some (.int .i64 e):=h.bd.c 3 (by simp)
 have hep:=h.ep
 have q1 : (0 : Int) < e:=by omega
 have q0 : decide ((0 : Int) < e) = true:=decide_eq_true q1
 clear h hep
 go_enter Tryz.func36,Tryz.ntmps36
 go_wp2_with fail
 go_ret
 exact ⟨rfl,Below.refl _ _⟩
theorem rlevel_rows (R : Value → World → Prop) (g : Nat) (k : Int) (hk : k = 0 ∨ k = 1 ∨ k = 4 ∨ k = 5) (wv : Value) (all : Ws) (n : Nat) (ws : Ws) (d : Int) (w : World) (h : RD w g wv all n ws d 0)
  (hr : Calls Tryz.prog 57 #[.pointer (some ⟨g,0,none⟩),.int .i64 k] w fun r w' => ∃ v,r = .returned v ∧ isSl v = true ∧ R v w') :
  Calls Tryz.prog 36 #[.pointer (some ⟨g,0,none⟩),.int .i64 k] w fun r w' => ∃ v,r = .returned v ∧ isSl v = true ∧ R v w':=by
 have c3 : w.cell? ⟨g,3,none⟩ = some (.int .i64 0):=h.bd.c 3 (by simp)
 have HR:=hidE hr
 clear h hr
 rcases hk with rfl | rfl | rfl | rfl
 all_goals
  go_enter Tryz.func36,Tryz.ntmps36
  go_wp2_with (go_at_call 57;refine HR.out.mono ?_;rintro e w' ⟨v,rfl,hs,hR⟩;obtain ⟨a,m,c,rfl⟩:=sl_shape hs;have HRR:=hidE hR;clear hR hs)
  go_ret
  exact ⟨_,rfl,rfl,HRR.out⟩
theorem rlevel_comp (R : Value → World → Prop) (g : Nat) (wv : Value) (all : Ws) (n : Nat) (ws : Ws) (d : Int) (w : World) (h : RD w g wv all n ws d 0)
  (hr : Calls Tryz.prog 60 #[.pointer (some ⟨g,0,none⟩)] w fun r w' => ∃ v,r = .returned v ∧ isSl v = true ∧ R v w') :
  Calls Tryz.prog 36 #[.pointer (some ⟨g,0,none⟩),.int .i64 3] w fun r w' => ∃ v,r = .returned v ∧ isSl v = true ∧ R v w':=by
 have c3 : w.cell? ⟨g,3,none⟩ = some (.int .i64 0):=h.bd.c 3 (by simp)
 have HR:=hidE hr
 clear h hr
 go_enter Tryz.func36,Tryz.ntmps36
 go_wp2_with (go_at_call 60;refine HR.out.mono ?_;rintro e w' ⟨v,rfl,hs,hR⟩;obtain ⟨a,m,c,rfl⟩:=sl_shape hs;have HRR:=hidE hR;clear hR hs)
 go_ret
 exact ⟨_,rfl,rfl,HRR.out⟩
theorem rlevel_rest (R : Value → World → Prop) (g : Nat) (wv : Value) (all : Ws) (n : Nat) (ws : Ws) (d : Int) (w : World) (h : RD w g wv all n ws d 0)
  (hr : Calls Tryz.prog 61 #[.pointer (some ⟨g,0,none⟩)] w fun r w' => ∃ v,r = .returned v ∧ isSl v = true ∧ R v w') :
  Calls Tryz.prog 36 #[.pointer (some ⟨g,0,none⟩),.int .i64 7] w fun r w' => ∃ v,r = .returned v ∧ isSl v = true ∧ R v w':=by
 have c3 : w.cell? ⟨g,3,none⟩ = some (.int .i64 0):=h.bd.c 3 (by simp)
 have HR:=hidE hr
 clear h hr
 go_enter Tryz.func36,Tryz.ntmps36
 go_wp2_with (go_at_call 61;refine HR.out.mono ?_;rintro e w' ⟨v,rfl,hs,hR⟩;obtain ⟨a,m,c,rfl⟩:=sl_shape hs;have HRR:=hidE hR;clear hR hs)
 go_ret
 exact ⟨_,rfl,rfl,HRR.out⟩
theorem rlevel_not (g : Nat) (wv : Value) (all : Ws) (hne : ∀ x ∈ all,x ≠ ⟨#[]⟩) (n : Nat) (ws : Ws) (d : Int) (w : World) (h : RD w g wv all n ws d 0) (ht : tk wNot ws = none) (res : PR)
  (hr : ∀ w1,RD w1 g wv all n ws d 0 → Calls Tryz.prog 36 #[.pointer (some ⟨g,0,none⟩),.int .i64 3] w1 fun r w' => ∃ v,r = .returned v ∧ isSl v = true ∧ RLu w1 w' g wv all d res v) :
  Calls Tryz.prog 36 #[.pointer (some ⟨g,0,none⟩),.int .i64 2] w fun r w' => ∃ v,r = .returned v ∧ isSl v = true ∧ RLu w w' g wv all d res v:=by
 have c3 : w.cell? ⟨g,3,none⟩ = some (.int .i64 0):=h.bd.c 3 (by simp)
 have TK:=rtake_any g wNot (by decide) wv all hne n ws d 0 w h
 unfold RTakeR at TK
 rw [ht] at TK
 unfold wNot at TK
 have TK:=hidE TK
 have HR:=hidE hr
 clear h hr ht hne
 go_enter Tryz.func36,Tryz.ntmps36
 go_wp2_with fail
 refine TK.out.mono ?_
 rintro r w1 ⟨rfl,hk,hp⟩
 have LV:=hidE (HR.out w1 hp)
 have HK:=hidE hk
 clear hk hp HR TK
 go_wp2_with fail
 refine LV.out.mono ?_
 rintro e w' ⟨v,rfl,hs,hR⟩
 obtain ⟨a,m,c,rfl⟩:=sl_shape hs
 have HRR:=hidE (rlu_from HK.out hR)
 clear hR hs LV HK
 go_wp2_with fail
 go_ret
 exact ⟨_,rfl,rfl,HRR.out⟩
theorem rlevel_neg (g : Nat) (wv : Value) (all : Ws) (hne : ∀ x ∈ all,x ≠ ⟨#[]⟩) (n : Nat) (ws : Ws) (d : Int) (w : World) (h : RD w g wv all n ws d 0) (ht : tk wMinus ws = none) (res : PR)
  (hr : ∀ w1,RD w1 g wv all n ws d 0 → Calls Tryz.prog 36 #[.pointer (some ⟨g,0,none⟩),.int .i64 7] w1 fun r w' => ∃ v,r = .returned v ∧ isSl v = true ∧ RLu w1 w' g wv all d res v) :
  Calls Tryz.prog 36 #[.pointer (some ⟨g,0,none⟩),.int .i64 6] w fun r w' => ∃ v,r = .returned v ∧ isSl v = true ∧ RLu w w' g wv all d res v:=by
 have c3 : w.cell? ⟨g,3,none⟩ = some (.int .i64 0):=h.bd.c 3 (by simp)
 have TK:=rtake_any g wMinus (by decide) wv all hne n ws d 0 w h
 unfold RTakeR at TK
 rw [ht] at TK
 unfold wMinus at TK
 have TK:=hidE TK
 have HR:=hidE hr
 clear h hr ht hne
 go_enter Tryz.func36,Tryz.ntmps36
 go_wp2_with fail
 refine TK.out.mono ?_
 rintro r w1 ⟨rfl,hk,hp⟩
 have LV:=hidE (HR.out w1 hp)
 have HK:=hidE hk
 clear hk hp HR TK
 go_wp2_with fail
 refine LV.out.mono ?_
 rintro e w' ⟨v,rfl,hs,hR⟩
 obtain ⟨a,m,c,rfl⟩:=sl_shape hs
 have HRR:=hidE (rlu_from HK.out hR)
 clear hR hs LV HK
 go_wp2_with fail
 go_ret
 exact ⟨_,rfl,rfl,HRR.out⟩
theorem putN_one (op : Int) (l : List Nd) : putN op l [] = join1 op l:=by
 unfold putN join1
 simp
theorem putN_two (op : Int) (l m : List Nd) (hm : 0 < m.length) : putN op l m = joinL op l m:=by
 unfold putN joinL
 rw [if_neg (by omega)]
 simp
theorem rput_bad (g : Nat) (op : Int) (u v wv : Value) (hs : isSl u = true) (all : Ws) (n : Nat) (ws : Ws) (d e : Int) (he : e ≠ 0) (w : World) (h : RD w g wv all n ws d e) :
  Calls Tryz.prog 59 #[.pointer (some ⟨g,0,none⟩),.int .i64 op,u,v] w fun r w' => ∃ v',r = .returned v' ∧ isSl v' = true ∧ RLu w w' g wv all d (.error e) v':=by
 refine (rput_err g op u v wv all n ws d e he w h).mono ?_
 rintro r w' ⟨rfl,hb⟩
 have h9:=h.ws0
 rw [if_neg he] at h9
 subst h9
 have hp:=h.ep
 exact ⟨u,rfl,hs,keptB_of_below hb,n,by omega,rd_kept h hb⟩
theorem rput1_any (g : Nat) (op : Int) (ho : ar op = 1) (u wv : Value) (all : Ws) (n : Nat) (ws : Ws) (d : Int) (w : World) (h : RD w g wv all n ws d 0) (l : List Nd) (hu : NdsR w (g + 1) u l) :
  Calls Tryz.prog 59 #[.pointer (some ⟨g,0,none⟩),.int .i64 op,u,.slice none 0 0] w fun r w' => ∃ v',r = .returned v' ∧ isSl v' = true ∧ RLu w w' g wv all d (wth ws (jn1 op l)) v':=by
 have nl : RowG w (.slice none 0 0) 6 ([] : List Nd).length (rowN []):=⟨rfl,.inl ⟨⟨_,_,rfl⟩,rfl⟩⟩
 obtain ⟨k0,k1,k2⟩:=hu.2
 have hg:=h.bd.lt
 by_cases h4 : 40 < l.length + 1
 ·have e : wth ws (jn1 op l) = .error 2:=by unfold jn1;rw [if_pos h4];rfl
  rw [e]
  refine (rput_many g op u _ wv all n ws d w h l [] (by omega) (by simp) (rowG_of_owns hu.1) nl (by simp;omega)).mono ?_
  rintro r w' ⟨rfl,hk,hp⟩
  exact ⟨u,rfl,hu.sl,hk,n,by omega,hp⟩
 ·have e1 : jn1 op l = .ok (join1 op l):=by unfold jn1;rw [if_neg h4]
  have e : wth ws (jn1 op l) = .ok (join1 op l,ws):=by rw [e1];rfl
  rw [e]
  refine (rput_ok g op u _ wv all n ws d w h l [] k0 (by simp;omega) (rowG_of_owns hu.1) nl (fun n hn => by cases hn)).mono ?_
  rintro r w' ⟨v',rfl,hr,hb⟩
  rw [putN_one] at hr
  have hn : NdsR w' (g + 1) v' (join1 op l):=⟨own_mono hr (by omega),(wf_jn1 ho hu.2 e1).2⟩
  exact ⟨v',rfl,hn.sl,keptB_of_below hb,n,hn,rd_kept h hb⟩
theorem rput2_any (g : Nat) (op : Int) (ho : ar op = 2) (u v wv : Value) (all : Ws) (n : Nat) (ws : Ws) (d : Int) (w : World) (h : RD w g wv all n ws d 0) (l m : List Nd) (hu : NdsR w (g + 1) u l) (hv : NdsR w (g + 1) v m) :
  Calls Tryz.prog 59 #[.pointer (some ⟨g,0,none⟩),.int .i64 op,u,v] w fun r w' => ∃ v',r = .returned v' ∧ isSl v' = true ∧ RLu w w' g wv all d (wth ws (jn2 op l m)) v':=by
 obtain ⟨k0,k1,k2⟩:=hu.2
 obtain ⟨j0,j1,j2⟩:=hv.2
 have hg:=h.bd.lt
 by_cases h4 : 40 < l.length + m.length + 1
 ·have e : wth ws (jn2 op l m) = .error 2:=by unfold jn2;rw [if_pos h4];rfl
  rw [e]
  refine (rput_many g op u v wv all n ws d w h l m (by omega) (by omega) (rowG_of_owns hu.1) (rowG_of_owns hv.1) h4).mono ?_
  rintro r w' ⟨rfl,hk,hp⟩
  exact ⟨u,rfl,hu.sl,hk,n,by omega,hp⟩
 ·have e1 : jn2 op l m = .ok (joinL op l m):=by unfold jn2;rw [if_neg h4]
  have e : wth ws (jn2 op l m) = .ok (joinL op l m,ws):=by rw [e1];rfl
  rw [e]
  refine (rput_ok g op u v wv all n ws d w h l m k0 (by omega) (rowG_of_owns hu.1) (rowG_of_owns hv.1) (wf_mvb hv.2)).mono ?_
  rintro r w' ⟨v',rfl,hr,hb⟩
  rw [putN_two op l m j0] at hr
  have hn : NdsR w' (g + 1) v' (joinL op l m):=⟨own_mono hr (by omega),(wf_jn2 ho hu.2 hv.2 e1).2⟩
  exact ⟨v',rfl,hn.sl,keptB_of_below hb,n,hn,rd_kept h hb⟩
theorem rin_level (g : Nat) (k : Int) (wv : Value) (all : Ws) (n : Nat) (ws : Ws) (D : Nat) (hD : D ≤ 12) (res : PR)
  (hr : D ≠ 12 → ∀ w1,RD w1 g wv all n ws ((D : Int) + 1) 0 → Calls Tryz.prog 36 #[.pointer (some ⟨g,0,none⟩),.int .i64 k] w1 fun r w' => ∃ v,r = .returned v ∧ isSl v = true ∧ RLu w1 w' g wv all ((D : Int) + 1) res v) :
  ∀ w1,RD w1 g wv all n (if 12 ≤ (D : Int) then [] else ws) ((D : Int) + 1) (if 12 ≤ (D : Int) then errN 0 2 else 0) →
   Calls Tryz.prog 36 #[.pointer (some ⟨g,0,none⟩),.int .i64 k] w1 fun r w' => ∃ v,r = .returned v ∧ isSl v = true ∧ RLu w1 w' g wv all ((D : Int) + 1) (if D = 12 then .error 2 else res) v:=by
 intro w1 hp
 by_cases h12 : D = 12
 ·rw [if_pos h12]
  rw [if_pos (by omega),if_pos (by omega),errN_0] at hp
  refine (rlevel_err g k wv all n [] _ 2 (by decide) w1 hp).mono ?_
  rintro r w' ⟨rfl,hb⟩
  exact ⟨_,rfl,rfl,keptB_of_below hb,n,by decide,rd_kept hp hb⟩
 ·rw [if_neg h12]
  rw [if_neg (by omega),if_neg (by omega)] at hp
  exact hr h12 w1 hp
theorem rlu_deep {w w' : World} {g : Nat} {wv : Value} {all : Ws} {d : Int} {res : PR} {u : Value} (h : RLu w w' g wv all d res u) : w'.cell? ⟨g,2,none⟩ = some (.int .i64 d):=by
 obtain ⟨-,n',h⟩:=h
 cases res with
 | ok p => exact h.2.bd.c 2 (by simp)
 | error c => exact h.2.bd.c 2 (by simp)
theorem rlu_fz {w w' : World} {g : Nat} {wv : Value} {all : Ws} {d : Int} {res : PR} {u : Value} (h : RLu w w' g wv all d res u) : w'.frozen? ⟨g,2,none⟩ = false:=by
 obtain ⟨-,n',h⟩:=h
 cases res with
 | ok p => exact h.2.bd.fz 2
 | error c => exact h.2.bd.fz 2
theorem rdec_put (g : Nat) (op : Int) (ho : ar op = 1) (u : Value) (hs : isSl u = true) (wv : Value) (all : Ws) (D : Nat) (res : PR) (w w3 : World) (h : RLu w w3 g wv all ((D : Int) + 1) res u) :
  (Calls Tryz.prog 59 #[.pointer (some ⟨g,0,none⟩),.int .i64 op,u,.slice none 0 0] (w3.setCell ⟨g,2,none⟩ (.int .i64 (D : Int))) fun r w' => ∃ v',r = .returned v' ∧ isSl v' = true ∧ RLu (w3.setCell ⟨g,2,none⟩ (.int .i64 (D : Int))) w' g wv all (D : Int) (aheadP op res) v') ∧
   KeptB w3 (w3.setCell ⟨g,2,none⟩ (.int .i64 (D : Int))) (fun q => q = g):=by
 obtain ⟨-,n',h⟩:=h
 cases res with
 | ok p =>
  obtain ⟨l,ws2⟩:=p
  obtain ⟨hn,hd⟩:=h
  have B2:=blk_set hd.bd 2 (.int .i64 (D : Int)) (by simp)
  have P2:=rd_set hd 2 (.int .i64 (D : Int)) (n':=n') (ws':=ws2) (d':=(D : Int)) (e':=0) (by simpa using B2) hd.le (Int.le_refl _) hd.ws0
  exact ⟨rput1_any g op ho u wv all n' ws2 _ _ P2.1 l (nds_kept hn P2.2 (fun k e => by omega)),P2.2⟩
 | error c =>
  obtain ⟨hc,hd⟩:=h
  have B2:=blk_set hd.bd 2 (.int .i64 (D : Int)) (by simp)
  have P2:=rd_set hd 2 (.int .i64 (D : Int)) (n':=n') (ws':=[]) (d':=(D : Int)) (e':=c) (by simpa using B2) hd.le hd.ep hd.ws0
  exact ⟨rput_bad g op u _ wv hs all n' [] _ c (by omega) _ P2.1,P2.2⟩
theorem rtook_not (g : Nat) (wv : Value) (all : Ws) (hne : ∀ x ∈ all,x ≠ ⟨#[]⟩) (n : Nat) (ws ws1 : Ws) (D : Nat) (hD : D ≤ 12) (w : World) (h : RD w g wv all n ws (D : Int) 0) (ht : tk wNot ws = some ws1) (res : PR)
  (hr : D ≠ 12 → ∀ w1 n',RD w1 g wv all n' ws1 ((D : Int) + 1) 0 → Calls Tryz.prog 36 #[.pointer (some ⟨g,0,none⟩),.int .i64 2] w1 fun r w' => ∃ v,r = .returned v ∧ isSl v = true ∧ RLu w1 w' g wv all ((D : Int) + 1) res v) :
  Calls Tryz.prog 36 #[.pointer (some ⟨g,0,none⟩),.int .i64 2] w fun r w' => ∃ v,r = .returned v ∧ isSl v = true ∧ RLu w w' g wv all (D : Int) (aheadP 4 (if D = 12 then .error 2 else res)) v:=by
 have c3 : w.cell? ⟨g,3,none⟩ = some (.int .i64 0):=h.bd.c 3 (by simp)
 have TK:=rtake_any g wNot (by decide) wv all hne n ws (D : Int) 0 w h
 unfold RTakeR at TK
 rw [ht] at TK
 unfold wNot at TK
 have TK:=hidE TK
 have LV:=hidE (rin_level g 2 wv all (n + 1) ws1 D hD res (fun hd w1 hp => hr hd w1 _ hp))
 have HD:=hidT hD
 generalize (if D = 12 then (Except.error 2 : PR) else res) = R2 at *
 clear h hr ht hne hD
 go_enter Tryz.func36,Tryz.ntmps36
 go_wp2_with fail
 refine TK.out.mono ?_
 rintro r w1 ⟨rfl,hk,hp⟩
 have HK:=hidE hk
 have IN:=hidE (rin_any g wv all (n + 1) ws1 (D : Int) 0 w1 hp (by omega) (by have:=HD.out;omega))
 clear hk hp TK
 go_wp2_with fail
 refine IN.out.mono ?_
 rintro r w2 ⟨rfl,hk,hp⟩
 have HK2:=hidE (keptB_trans HK.out hk)
 have LV2:=hidE (LV.out w2 hp)
 clear hk hp IN LV HK
 go_wp2_with fail
 refine LV2.out.mono ?_
 rintro r w3 ⟨v,rfl,hs,hR⟩
 obtain ⟨a,m,c,rfl⟩:=sl_shape hs
 have c2:=rlu_deep hR
 have f2:=rlu_fz hR
 have PT:=hidE (rdec_put g 4 (by decide) (.slice a m c) rfl wv all D _ w2 w3 hR)
 have HK3:=hidE (keptB_trans HK2.out hR.1)
 clear hR hs LV2 HK2
 have hD9 : D ≤ 12:=HD.out
 go_wp2_with fail
 refine PT.out.1.mono ?_
 rintro r w4 ⟨v,rfl,hs,hR⟩
 obtain ⟨a,m,c,rfl⟩:=sl_shape hs
 have HRR:=hidE (rlu_from (keptB_trans HK3.out PT.out.2) hR)
 clear hR hs PT HK3
 go_wp2_with fail
 go_ret
 exact ⟨_,rfl,rfl,HRR.out⟩
theorem rtook_neg (g : Nat) (wv : Value) (all : Ws) (hne : ∀ x ∈ all,x ≠ ⟨#[]⟩) (n : Nat) (ws ws1 : Ws) (D : Nat) (hD : D ≤ 12) (w : World) (h : RD w g wv all n ws (D : Int) 0) (ht : tk wMinus ws = some ws1) (res : PR)
  (hr : D ≠ 12 → ∀ w1 n',RD w1 g wv all n' ws1 ((D : Int) + 1) 0 → Calls Tryz.prog 36 #[.pointer (some ⟨g,0,none⟩),.int .i64 6] w1 fun r w' => ∃ v,r = .returned v ∧ isSl v = true ∧ RLu w1 w' g wv all ((D : Int) + 1) res v) :
  Calls Tryz.prog 36 #[.pointer (some ⟨g,0,none⟩),.int .i64 6] w fun r w' => ∃ v,r = .returned v ∧ isSl v = true ∧ RLu w w' g wv all (D : Int) (aheadP 3 (if D = 12 then .error 2 else res)) v:=by
 have c3 : w.cell? ⟨g,3,none⟩ = some (.int .i64 0):=h.bd.c 3 (by simp)
 have TK:=rtake_any g wMinus (by decide) wv all hne n ws (D : Int) 0 w h
 unfold RTakeR at TK
 rw [ht] at TK
 unfold wMinus at TK
 have TK:=hidE TK
 have LV:=hidE (rin_level g 6 wv all (n + 1) ws1 D hD res (fun hd w1 hp => hr hd w1 _ hp))
 have HD:=hidT hD
 generalize (if D = 12 then (Except.error 2 : PR) else res) = R2 at *
 clear h hr ht hne hD
 go_enter Tryz.func36,Tryz.ntmps36
 go_wp2_with fail
 refine TK.out.mono ?_
 rintro r w1 ⟨rfl,hk,hp⟩
 have HK:=hidE hk
 have IN:=hidE (rin_any g wv all (n + 1) ws1 (D : Int) 0 w1 hp (by omega) (by have:=HD.out;omega))
 clear hk hp TK
 go_wp2_with fail
 refine IN.out.mono ?_
 rintro r w2 ⟨rfl,hk,hp⟩
 have HK2:=hidE (keptB_trans HK.out hk)
 have LV2:=hidE (LV.out w2 hp)
 clear hk hp IN LV HK
 go_wp2_with fail
 refine LV2.out.mono ?_
 rintro r w3 ⟨v,rfl,hs,hR⟩
 obtain ⟨a,m,c,rfl⟩:=sl_shape hs
 have c2:=rlu_deep hR
 have f2:=rlu_fz hR
 have PT:=hidE (rdec_put g 3 (by decide) (.slice a m c) rfl wv all D _ w2 w3 hR)
 have HK3:=hidE (keptB_trans HK2.out hR.1)
 clear hR hs LV2 HK2
 have hD9 : D ≤ 12:=HD.out
 go_wp2_with fail
 refine PT.out.1.mono ?_
 rintro r w4 ⟨v,rfl,hs,hR⟩
 obtain ⟨a,m,c,rfl⟩:=sl_shape hs
 have HRR:=hidE (rlu_from (keptB_trans HK3.out PT.out.2) hR)
 clear hR hs PT HK3
 go_wp2_with fail
 go_ret
 exact ⟨_,rfl,rfl,HRR.out⟩
end Go.Proofs.YteaanpdckkmjoaaGreatDoor
