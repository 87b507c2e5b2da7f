/- Several texts in one, each with its own head. What is proved: what the parts say. Conditions: theirs. -/
import Derived.Test.YteaanpdckkmjoaaGreatDoorChkRJ
import Derived.Test.YteaanpdckkmjoaaGreatDoorRefEF
import Derived.Test.YteaanpdckkmjoaaGreatDoorRefTAJ
import Derived.Test.YteaanpdckkmjoaaGreatDoorRq5J
set_option linter.unusedVariables false
set_option linter.unusedSimpArgs false
set_option maxRecDepth 100000
set_option maxHeartbeats 8000000
namespace Go.Proofs.YteaanpdckkmjoaaGreatDoor
open Go.ChangeShapes Go.WideShapes Go.ChangeAt Go.RowKit
theorem tyE_pos (l : List Nd) : 0 ≤ (tyE l).2:=by
 unfold tyE
 split
 ·decide
 ·split <;> simp
theorem tyF_in : ∀ (l : List Nd) (pre ks : List Int),tyF l pre = some ks → (∀ n ∈ l,okN n = 0) → (∀ k ∈ pre,k = 0 ∨ k = 1 ∨ k = 2) → ∀ k ∈ ks,k = 0 ∨ k = 1 ∨ k = 2
 | [],pre,ks,h,_,hp => by
  simp only [tyF,Option.some.injEq] at h
  subst h
  exact hp
 | n :: l,pre,ks,h,hn,hp => by
  simp only [tyF] at h
  split at h
  ·refine tyF_in l _ ks h (fun m hm => hn m (List.mem_cons_of_mem _ hm)) (fun k hk => ?_)
   rcases List.mem_append.1 hk with hk | hk
   ·exact hp k hk
   ·rw [List.mem_singleton.1 hk]
    exact kindN_in (hn n List.mem_cons_self)
  ·cases h
theorem tyE_in {l : List Nd} (hn : ∀ n ∈ l,okN n = 0) : (tyE l).1 = 0 ∨ (tyE l).1 = 1 ∨ (tyE l).1 = 2:=by
 unfold tyE
 split
 ·exact .inl rfl
 ·cases h : tyF l [] with
  | none => exact .inl rfl
  | some ks =>
   simp only
   have h9:=tyF_in l [] ks h hn (fun k hk => by cases hk)
   rcases Nat.lt_or_ge (l.length - 1) ks.length with hl | hl
   ·simp only [List.getD,List.getElem?_eq_getElem hl,Option.getD_some]
    exact h9 _ (List.getElem_mem hl)
   ·simp [List.getD,List.getElem?_eq_none hl]
theorem good_okN {l : List Nd} {bs : List Nat} (h : Good l bs) : ∀ n ∈ l,okN n = 0:=by
 intro n hn
 obtain ⟨i,hi⟩:=List.getElem?_of_mem hn
 exact (h.2 i n hi).1
def typQ (l : List Nd) (kd : Int) : Int:=if chkE l ≠ 0 then chkE l else if (tyE l).2 ≠ 0 then (tyE l).2 else if 0 < kd ∧ (tyE l).1 ≠ kd ∧ 0 < (tyE l).1 then 3 else 0
theorem typed_any (l : List Nd) (v : Value) (kd : Int) (w : World) (hl : l.length ≤ 1000) (hr : NodG w v l) :
  Calls Tryz.prog 18 #[v,.int .i64 kd] w fun e w' => e = .returned (.int .i64 (typQ l kd)) ∧ Below w.heap.size w w':=by
 have EF:=exprFault_any l v w hl hr
 have h0:=chkE_pos l
 obtain ⟨ao,cap,rfl⟩:=rowG_shape hr
 by_cases hc : chkE l = 0
 ·obtain ⟨bs,hg,h40,hpos,hb⟩:=good_of_chk hc
  have TY:=hidE (fun w' (hbl : Below w.heap.size w w') => rtype_any l bs _ w' hl hpos hg (by simp [List.getD,hb]) (rowG_below hr hbl))
  have hp:=tyE_pos l
  have hk:=tyE_in (good_okN hg)
  have e : typQ l kd = if (tyE l).2 ≠ 0 then (tyE l).2 else if 0 < kd ∧ (tyE l).1 ≠ kd ∧ 0 < (tyE l).1 then 3 else 0:=by unfold typQ;rw [if_neg (by simp [hc])]
  rw [e]
  rw [hc] at EF
  have EFH:=hidE EF
  clear EF hr hc h0 e hg h40 hpos hb
  generalize (tyE l).1 = k at *
  generalize (tyE l).2 = c at *
  have q9 : ¬ (0 : Int) < 0:=by decide
  by_cases h2 : c = 0
  ·rw [if_neg (by simp [h2])]
   subst h2
   by_cases h3 : 0 < kd
   ·have q1 : decide (0 < kd) = true:=decide_eq_true h3
    by_cases h4 : k = kd
    ·rw [if_neg (fun h9 => h9.2.1 h4)]
     have q2 : (k != kd) = false:=by simp [h4]
     have HK:=hidE hk
     clear hk h4
     go_enter Tryz.func18,Tryz.ntmps18
     go_wp2_with fail
     refine EFH.out.mono ?_
     rintro r w1 ⟨rfl,hb⟩
     have T1:=hidE (TY.out w1 hb)
     have B1:=hidE hb
     clear hb EFH TY
     go_wp2_with fail
     refine T1.out.mono ?_
     rintro r w2 ⟨rfl,hb⟩
     have B2:=hidE (B1.out.trans (hb.mono B1.out.size))
     clear hb T1
     go_wp2_with fail
     go_ret
     exact ⟨rfl,B2.out⟩
    ·have q2 : (k != kd) = true:=by simp [h4]
     by_cases h5 : 0 < k
     ·rw [if_pos ⟨h3,h4,h5⟩]
      have q3 : decide (0 < k) = true:=decide_eq_true h5
      have HK:=hidE hk
      clear hk
      go_enter Tryz.func18,Tryz.ntmps18
      go_wp2_with fail
      refine EFH.out.mono ?_
      rintro r w1 ⟨rfl,hb⟩
      have T1:=hidE (TY.out w1 hb)
      have B1:=hidE hb
      clear hb EFH TY
      go_wp2_with fail
      refine T1.out.mono ?_
      rintro r w2 ⟨rfl,hb⟩
      have B2:=hidE (B1.out.trans (hb.mono B1.out.size))
      clear hb T1
      go_wp2_with fail
      go_ret
      exact ⟨rfl,B2.out⟩
     ·rw [if_neg (fun h9 => h5 h9.2.2)]
      have q3 : decide (0 < k) = false:=decide_eq_false h5
      have HK:=hidE hk
      clear hk
      go_enter Tryz.func18,Tryz.ntmps18
      go_wp2_with fail
      refine EFH.out.mono ?_
      rintro r w1 ⟨rfl,hb⟩
      have T1:=hidE (TY.out w1 hb)
      have B1:=hidE hb
      clear hb EFH TY
      go_wp2_with fail
      refine T1.out.mono ?_
      rintro r w2 ⟨rfl,hb⟩
      have B2:=hidE (B1.out.trans (hb.mono B1.out.size))
      clear hb T1
      go_wp2_with fail
      go_ret
      exact ⟨rfl,B2.out⟩
   ·rw [if_neg (fun h9 => h3 h9.1)]
    have q1 : decide (0 < kd) = false:=decide_eq_false h3
    have HK:=hidE hk
    clear hk
    go_enter Tryz.func18,Tryz.ntmps18
    go_wp2_with fail
    refine EFH.out.mono ?_
    rintro r w1 ⟨rfl,hb⟩
    have T1:=hidE (TY.out w1 hb)
    have B1:=hidE hb
    clear hb EFH TY
    go_wp2_with fail
    refine T1.out.mono ?_
    rintro r w2 ⟨rfl,hb⟩
    have B2:=hidE (B1.out.trans (hb.mono B1.out.size))
    clear hb T1
    go_wp2_with fail
    go_ret
    exact ⟨rfl,B2.out⟩
  ·rw [if_pos h2]
   have q1 : 0 < c:=by omega
   have q2 : decide (0 < c) = true:=decide_eq_true q1
   have HK:=hidE hk
   clear hk h2 hp
   go_enter Tryz.func18,Tryz.ntmps18
   go_wp2_with fail
   refine EFH.out.mono ?_
   rintro r w1 ⟨rfl,hb⟩
   have T1:=hidE (TY.out w1 hb)
   have B1:=hidE hb
   clear hb EFH TY
   go_wp2_with fail
   refine T1.out.mono ?_
   rintro r w2 ⟨rfl,hb⟩
   have B2:=hidE (B1.out.trans (hb.mono B1.out.size))
   clear hb T1
   go_wp2_with fail
   go_ret
   exact ⟨rfl,B2.out⟩
 ·have e : typQ l kd = chkE l:=by unfold typQ;rw [if_pos hc]
  rw [e]
  have EFH:=hidE EF
  clear EF hr e
  generalize chkE l = c at *
  have q1 : 0 < c:=by omega
  have q2 : decide (0 < c) = true:=decide_eq_true q1
  clear hc h0
  go_enter Tryz.func18,Tryz.ntmps18
  go_wp2_with fail
  refine EFH.out.mono ?_
  rintro r w1 ⟨rfl,hb⟩
  have B1:=hidE hb
  clear hb EFH
  go_wp2_with fail
  go_ret
  exact ⟨rfl,B1.out⟩
theorem typQ_pos (l : List Nd) (kd : Int) : 0 ≤ typQ l kd:=by
 unfold typQ
 split
 ·exact chkE_pos l
 ·split
  ·exact tyE_pos l
  ·split <;> decide
theorem kindQ_ok {l : List Nd} (h : chkE l = 0) : kindQ l = tyE l:=by
 have hn : ¬ chkE l ≠ 0:=fun e => e h
 unfold kindQ
 rw [if_neg hn]
theorem kindQ_no {l : List Nd} (h : chkE l ≠ 0) : kindQ l = (0,chkE l):=by
 unfold kindQ
 rw [if_pos h]
theorem typQ_ok {l : List Nd} (kd : Int) (h : chkE l = 0) : typQ l kd = if (tyE l).2 ≠ 0 then (tyE l).2 else if 0 < kd ∧ (tyE l).1 ≠ kd ∧ 0 < (tyE l).1 then 3 else 0:=by
 have hn : ¬ chkE l ≠ 0:=fun e => e h
 unfold typQ
 rw [if_neg hn]
theorem typQ_no {l : List Nd} (kd : Int) (h : chkE l ≠ 0) : typQ l kd = chkE l:=by
 unfold typQ
 rw [if_pos h]
theorem typQ_0 (l : List Nd) : typQ l 0 = (kindQ l).2:=by
 by_cases h : chkE l = 0
 ·rw [kindQ_ok h,typQ_ok 0 h]
  by_cases h2 : (tyE l).2 = 0
  ·have hn : ¬ (tyE l).2 ≠ 0:=fun e => e h2
   rw [if_neg hn,if_neg (fun h9 => absurd h9.1 (by decide)),h2]
  ·rw [if_pos h2]
 ·rw [kindQ_no h,typQ_no 0 h]
theorem typQ_k (l : List Nd) (kd : Int) (hk : kd = 1 ∨ kd = 2) : typQ l kd = if (kindQ l).2 ≠ 0 then (kindQ l).2 else if (kindQ l).1 = 3 - kd then 3 else 0:=by
 by_cases h : chkE l = 0
 ·rw [kindQ_ok h,typQ_ok kd h]
  by_cases h2 : (tyE l).2 = 0
  ·have hn : ¬ (tyE l).2 ≠ 0:=fun e => e h2
   rw [if_neg hn,if_neg hn]
   obtain ⟨bs,hg,-⟩:=good_of_chk h
   have hin:=tyE_in (good_okN hg)
   by_cases h3 : (tyE l).1 = 3 - kd
   ·rw [if_pos (by omega),if_pos h3]
   ·rw [if_neg (by omega),if_neg h3]
  ·rw [if_pos h2,if_pos h2]
 ·rw [kindQ_no h,typQ_no kd h]
  show chkE l = if chkE l ≠ 0 then chkE l else _
  rw [if_pos h]
theorem typQ_a (a : AgQ) (h1 : ¬ (a.kind < 1 ∨ 5 < a.kind)) (h2 : a.kind ≠ 1) : chkA a = typQ a.of (if a.kind = 2 then 0 else 1):=by
 unfold chkA
 rw [if_neg h1,if_neg h2]
 by_cases h3 : a.kind = 2
 ·rw [if_pos h3,typQ_0]
  by_cases h4 : (kindQ a.of).2 = 0
  ·have hn : ¬ (kindQ a.of).2 ≠ 0:=fun e => e h4
   rw [if_neg hn,if_neg (fun h9 => h9.2 h3),h4]
  ·rw [if_pos h4]
 ·rw [if_neg h3,typQ_k _ 1 (.inl rfl)]
  by_cases h4 : (kindQ a.of).2 = 0
  ·have hn : ¬ (kindQ a.of).2 ≠ 0:=fun e => e h4
   rw [if_neg hn,if_neg hn]
   by_cases h5 : (kindQ a.of).1 = 2
   ·rw [if_pos ⟨h5,h3⟩,if_pos (by omega)]
   ·rw [if_neg (fun h9 => h5 h9.1),if_neg (by omega)]
  ·rw [if_pos h4,if_pos h4]
theorem typQ_w (l : List Nd) (h : l.length ≠ 0) : chkW l = typQ l 2:=by
 unfold chkW
 rw [if_neg h,typQ_k _ 2 (.inr rfl)]
 rfl
theorem typQ_b (l : List Nd) (h : l.length ≠ 0) : chkB l = typQ l 0:=by
 unfold chkB
 rw [if_neg h,typQ_0]
theorem listedF (t : List Value) (h : t.length = 134) : ∃ f : Nat → Value,t = f 0 :: f 1 :: f 2 :: f 3 :: f 4 :: f 5 :: f 6 :: f 7 :: f 8 :: f 9 :: f 10 :: f 11 :: f 12 :: f 13 :: f 14 :: f 15 :: f 16 :: f 17 :: f 18 :: f 19 :: f 20 :: f 21 :: f 22 :: f 23 :: f 24 :: f 25 :: f 26 :: f 27 :: f 28 :: f 29 :: f 30 :: f 31 :: f 32 :: f 33 :: f 34 :: f 35 :: f 36 :: f 37 :: f 38 :: f 39 :: f 40 :: f 41 :: f 42 :: f 43 :: f 44 :: f 45 :: f 46 :: f 47 :: f 48 :: f 49 :: f 50 :: f 51 :: f 52 :: f 53 :: f 54 :: f 55 :: f 56 :: f 57 :: f 58 :: f 59 :: f 60 :: f 61 :: f 62 :: f 63 :: f 64 :: f 65 :: f 66 :: f 67 :: f 68 :: f 69 :: f 70 :: f 71 :: f 72 :: f 73 :: f 74 :: f 75 :: f 76 :: f 77 :: f 78 :: f 79 :: f 80 :: f 81 :: f 82 :: f 83 :: f 84 :: f 85 :: f 86 :: f 87 :: f 88 :: f 89 :: f 90 :: f 91 :: f 92 :: f 93 :: f 94 :: f 95 :: f 96 :: f 97 :: f 98 :: f 99 :: f 100 :: f 101 :: f 102 :: f 103 :: f 104 :: f 105 :: f 106 :: f 107 :: f 108 :: f 109 :: f 110 :: f 111 :: f 112 :: f 113 :: f 114 :: f 115 :: f 116 :: f 117 :: f 118 :: f 119 :: f 120 :: f 121 :: f 122 :: f 123 :: f 124 :: f 125 :: f 126 :: f 127 :: f 128 :: f 129 :: f 130 :: f 131 :: f 132 :: f 133 :: [] ∧ ∀ i,i < 134 → t[i]? = some (f i):=by
 have e1 : t = (List.range 134).map (fun i => t.getD i undef):=by
  apply List.ext_getElem
  ·simp [h]
  ·intro i h1 h2
   simp [List.getD,h1]
 refine ⟨fun i => t.getD i undef,?_,fun i hi => ?_⟩
 ·have e2 : ∀ g : Nat → Value,(List.range 134).map g = g 0 :: g 1 :: g 2 :: g 3 :: g 4 :: g 5 :: g 6 :: g 7 :: g 8 :: g 9 :: g 10 :: g 11 :: g 12 :: g 13 :: g 14 :: g 15 :: g 16 :: g 17 :: g 18 :: g 19 :: g 20 :: g 21 :: g 22 :: g 23 :: g 24 :: g 25 :: g 26 :: g 27 :: g 28 :: g 29 :: g 30 :: g 31 :: g 32 :: g 33 :: g 34 :: g 35 :: g 36 :: g 37 :: g 38 :: g 39 :: g 40 :: g 41 :: g 42 :: g 43 :: g 44 :: g 45 :: g 46 :: g 47 :: g 48 :: g 49 :: g 50 :: g 51 :: g 52 :: g 53 :: g 54 :: g 55 :: g 56 :: g 57 :: g 58 :: g 59 :: g 60 :: g 61 :: g 62 :: g 63 :: g 64 :: g 65 :: g 66 :: g 67 :: g 68 :: g 69 :: g 70 :: g 71 :: g 72 :: g 73 :: g 74 :: g 75 :: g 76 :: g 77 :: g 78 :: g 79 :: g 80 :: g 81 :: g 82 :: g 83 :: g 84 :: g 85 :: g 86 :: g 87 :: g 88 :: g 89 :: g 90 :: g 91 :: g 92 :: g 93 :: g 94 :: g 95 :: g 96 :: g 97 :: g 98 :: g 99 :: g 100 :: g 101 :: g 102 :: g 103 :: g 104 :: g 105 :: g 106 :: g 107 :: g 108 :: g 109 :: g 110 :: g 111 :: g 112 :: g 113 :: g 114 :: g 115 :: g 116 :: g 117 :: g 118 :: g 119 :: g 120 :: g 121 :: g 122 :: g 123 :: g 124 :: g 125 :: g 126 :: g 127 :: g 128 :: g 129 :: g 130 :: g 131 :: g 132 :: g 133 :: []:=fun _ => rfl
  exact e1.trans (e2 _)
 ·simp [List.getD,h,hi]
structure FQ (W w : World) (gz : Nat) (va vw vb : Value) (q : Qy) (ps : List (AgQ × Value)) : Prop where
 kp : Below W.heap.size W w
 bz : BlkAt w gz [va,vw,vb,.int .i64 q.size,.int .i64 q.slide,.int .i64 q.delay,.int .i64 q.late]
 qg : QyG w va vw vb q ps
theorem fq_below {W w w' : World} {gz : Nat} {va vw vb : Value} {q : Qy} {ps : List (AgQ × Value)} (h : FQ W w gz va vw vb q ps) (hb : Below w.heap.size w w') : FQ W w' gz va vw vb q ps:=⟨h.kp.trans (hb.mono h.kp.size),blk_below h.bz hb h.bz.lt,qyG_below h.qg hb⟩
theorem fq_len {W w : World} {gz : Nat} {va vw vb : Value} {q : Qy} {ps : List (AgQ × Value)} (h : FQ W w gz va vw vb q ps) : q.aggs.length = ps.length:=by rw [← h.qg.qa];simp
theorem lt_t9 {a b : Int} (h : a < b) : decide (a < b) = true:=decide_eq_true h
theorem lt_f9 {a b : Int} (h : ¬ a < b) : decide (a < b) = false:=decide_eq_false h
theorem gMany (Q : Exit → Act → World → Prop) (X : Code) (C1 : Code) (h1 : rgn 1 (Tryz.f7.body.getD .skip) = some C1) (C2 : Code) (h2 : rgn 2 (Tryz.f7.body.getD .skip) = some C2) (t : List Value) (gz : Nat) (va vw vb : Value) (q : Qy) (ps : List (AgQ × Value)) (W w : World) (ht : t.length = 134) (k1 : t[1]? = some (.pointer (some ⟨gz,0,none⟩)))
  (h : FQ W w gz va vw vb q ps)
  (hR : ∀ (t' : List Value) (w' : World),t'[2]? = some (.int .i64 (chkQ q)) → Below W.heap.size W w' → Q .ret { tmps:=t'.toArray,defers:=[] } w')
  (hQ : ∀ (t' : List Value)  (w' : World),t'.length = 134 → t'[1]? = some (.pointer (some ⟨gz,0,none⟩)) → FQ W w' gz va vw vb q ps ∧ ¬ (q.aggs.length = 0 ∨ 4 < q.aggs.length) → Code.wp Tryz.prog X Q { tmps:=t'.toArray,defers:=[] } w') :
  Code.wp Tryz.prog (.seq (.seq C1 (.cond (.tmp 18) (.seq C2 .ret) .skip)) X) Q { tmps:=t.toArray,defers:=[] } w:=by
 have HQ:=hidE hQ
 have HRR:=hidE hR
 have H:=hidE h
 clear hQ hR h
 obtain ⟨ao,cap,rfl⟩:=rowG_shape H.out.qg.ag.row
 obtain ⟨a2,c2,rfl⟩:=rowG_shape H.out.qg.wh
 obtain ⟨a3,c3,rfl⟩:=rowG_shape H.out.qg.by_
 have z0:=H.out.bz.c 0 (by simp)
 have z1:=H.out.bz.c 1 (by simp)
 have z2:=H.out.bz.c 2 (by simp)
 have z3:=H.out.bz.c 3 (by simp)
 have z4:=H.out.bz.c 4 (by simp)
 have z5:=H.out.bz.c 5 (by simp)
 have z6:=H.out.bz.c 6 (by simp)
 simp only [List.getElem?_cons_zero,List.getElem?_cons_succ] at z0 z1 z2 z3 z4 z5 z6
 have hl:=fq_len H.out
 obtain ⟨f,hf,hi⟩:=listedF t ht
 have e1:=some_at (hi 1 (by decide)) k1
 rw [e1] at hf
 clear hi ht k1 e1
 subst hf
 unfold Tryz.f7 at h1
 simp [rgn] at h1
 subst h1
 unfold Tryz.f7 at h2
 simp [rgn] at h2
 subst h2
 by_cases h0 : ps.length = 0
 ·have e : chkQ q = 2:=by unfold chkQ;rw [if_pos (by omega)]
  have E:=hidE e
  rw [h0] at z0
  clear e hl
  go_wp2_with fail
  exact HRR.out _ _ (by rw [E.out];rfl) H.out.kp
 ·by_cases h4 : 4 < ps.length
  ·have e : chkQ q = 2:=by unfold chkQ;rw [if_pos (by omega)]
   have E:=hidE e
   have q1:=lt_f9 (a:=(ps.length : Int)) (b:=1) (by omega)
   have q2:=lt_t9 (a:=4) (b:=(ps.length : Int)) (by omega)
   clear e hl
   go_wp2_with fail
   exact HRR.out _ _ (by rw [E.out];rfl) H.out.kp
  ·have E:=hidE (show ¬ (q.aggs.length = 0 ∨ 4 < q.aggs.length) by omega)
   have q1:=lt_f9 (a:=(ps.length : Int)) (b:=1) (by omega)
   have q2:=lt_f9 (a:=4) (b:=(ps.length : Int)) (by omega)
   clear hl
   go_wp2_with fail
   exact HQ.out _ _ rfl rfl ⟨H.out,E.out⟩
theorem gWhere (Q : Exit → Act → World → Prop) (X : Code) (C16 : Code) (h16 : rgn 16 (Tryz.f7.body.getD .skip) = some C16) (C17 : Code) (h17 : rgn 17 (Tryz.f7.body.getD .skip) = some C17) (C18 : Code) (h18 : rgn 18 (Tryz.f7.body.getD .skip) = some C18) (C19 : Code) (h19 : rgn 19 (Tryz.f7.body.getD .skip) = some C19) (t : List Value) (gz : Nat) (va vw vb : Value) (q : Qy) (ps : List (AgQ × Value)) (W w : World) (hp : chkW q.wh ≠ 0 → chkQ q = chkW q.wh) (ht : t.length = 134) (k1 : t[1]? = some (.pointer (some ⟨gz,0,none⟩)))
  (h : FQ W w gz va vw vb q ps)
  (hR : ∀ (t' : List Value) (w' : World),t'[2]? = some (.int .i64 (chkQ q)) → Below W.heap.size W w' → Q .ret { tmps:=t'.toArray,defers:=[] } w')
  (hQ : ∀ (t' : List Value)  (w' : World),t'.length = 134 → t'[1]? = some (.pointer (some ⟨gz,0,none⟩)) → FQ W w' gz va vw vb q ps ∧ chkW q.wh = 0 → Code.wp Tryz.prog X Q { tmps:=t'.toArray,defers:=[] } w') :
  Code.wp Tryz.prog (.seq (.seq C16 (.cond (.tmp 66) (.seq C17 (.seq C18 (.cond (.tmp 71) (.seq C19 .ret) .skip))) .skip)) X) Q { tmps:=t.toArray,defers:=[] } w:=by
 have HQ:=hidE hQ
 have HRR:=hidE hR
 have H:=hidE h
 clear hQ hR h
 obtain ⟨ao,cap,rfl⟩:=rowG_shape H.out.qg.ag.row
 obtain ⟨a2,c2,rfl⟩:=rowG_shape H.out.qg.wh
 obtain ⟨a3,c3,rfl⟩:=rowG_shape H.out.qg.by_
 have z0:=H.out.bz.c 0 (by simp)
 have z1:=H.out.bz.c 1 (by simp)
 have z2:=H.out.bz.c 2 (by simp)
 have z3:=H.out.bz.c 3 (by simp)
 have z4:=H.out.bz.c 4 (by simp)
 have z5:=H.out.bz.c 5 (by simp)
 have z6:=H.out.bz.c 6 (by simp)
 simp only [List.getElem?_cons_zero,List.getElem?_cons_succ] at z0 z1 z2 z3 z4 z5 z6
 have TY:=typed_any q.wh _ 2 w H.out.qg.lw H.out.qg.wh
 have hpos:=typQ_pos q.wh 2
 obtain ⟨f,hf,hi⟩:=listedF t ht
 have e1:=some_at (hi 1 (by decide)) k1
 rw [e1] at hf
 clear hi ht k1 e1
 subst hf
 unfold Tryz.f7 at h16
 simp [rgn] at h16
 subst h16
 unfold Tryz.f7 at h17
 simp [rgn] at h17
 subst h17
 unfold Tryz.f7 at h18
 simp [rgn] at h18
 subst h18
 unfold Tryz.f7 at h19
 simp [rgn] at h19
 subst h19
 by_cases h0 : q.wh.length = 0
 ·have E:=hidE (show chkW q.wh = 0 by unfold chkW;rw [if_pos h0])
  rw [h0] at z1
  clear TY hpos hp
  go_wp2_with fail
  exact HQ.out _ _ rfl rfl ⟨H.out,E.out⟩
 ·have q1:=lt_t9 (a:=0) (b:=(q.wh.length : Int)) (by omega)
  have q3 : 0 < q.wh.length:=by omega
  rw [← typQ_w _ h0] at TY hpos
  generalize chkW q.wh = c at *
  have TYH:=hidE TY
  clear TY h0
  by_cases hc : c = 0
  ·subst hc
   clear hp hpos
   go_wp2_with fail
   refine TYH.out.mono ?_
   rintro r w1 ⟨rfl,hb⟩
   have H1:=hidE (fq_below H.out hb)
   clear hb TYH H
   go_wp2_with fail
   exact HQ.out _ _ rfl rfl ⟨H1.out,by first | rfl | trivial⟩
  ·have E:=hidE (hp hc)
   have q2:=lt_t9 (a:=0) (b:=c) (by omega)
   clear hp hpos hc
   go_wp2_with fail
   refine TYH.out.mono ?_
   rintro r w1 ⟨rfl,hb⟩
   have H1:=hidE (fq_below H.out hb)
   clear hb TYH H
   go_wp2_with fail
   exact HRR.out _ _ (by rw [E.out];rfl) H1.out.kp
theorem gBy (Q : Exit → Act → World → Prop) (X : Code) (C20 : Code) (h20 : rgn 20 (Tryz.f7.body.getD .skip) = some C20) (C21 : Code) (h21 : rgn 21 (Tryz.f7.body.getD .skip) = some C21) (C22 : Code) (h22 : rgn 22 (Tryz.f7.body.getD .skip) = some C22) (C23 : Code) (h23 : rgn 23 (Tryz.f7.body.getD .skip) = some C23) (t : List Value) (gz : Nat) (va vw vb : Value) (q : Qy) (ps : List (AgQ × Value)) (W w : World) (hp : chkB q.bys ≠ 0 → chkQ q = chkB q.bys) (ht : t.length = 134) (k1 : t[1]? = some (.pointer (some ⟨gz,0,none⟩)))
  (h : FQ W w gz va vw vb q ps)
  (hR : ∀ (t' : List Value) (w' : World),t'[2]? = some (.int .i64 (chkQ q)) → Below W.heap.size W w' → Q .ret { tmps:=t'.toArray,defers:=[] } w')
  (hQ : ∀ (t' : List Value)  (w' : World),t'.length = 134 → t'[1]? = some (.pointer (some ⟨gz,0,none⟩)) → FQ W w' gz va vw vb q ps ∧ chkB q.bys = 0 → Code.wp Tryz.prog X Q { tmps:=t'.toArray,defers:=[] } w') :
  Code.wp Tryz.prog (.seq (.seq C20 (.cond (.tmp 76) (.seq C21 (.seq C22 (.cond (.tmp 81) (.seq C23 .ret) .skip))) .skip)) X) Q { tmps:=t.toArray,defers:=[] } w:=by
 have HQ:=hidE hQ
 have HRR:=hidE hR
 have H:=hidE h
 clear hQ hR h
 obtain ⟨ao,cap,rfl⟩:=rowG_shape H.out.qg.ag.row
 obtain ⟨a2,c2,rfl⟩:=rowG_shape H.out.qg.wh
 obtain ⟨a3,c3,rfl⟩:=rowG_shape H.out.qg.by_
 have z0:=H.out.bz.c 0 (by simp)
 have z1:=H.out.bz.c 1 (by simp)
 have z2:=H.out.bz.c 2 (by simp)
 have z3:=H.out.bz.c 3 (by simp)
 have z4:=H.out.bz.c 4 (by simp)
 have z5:=H.out.bz.c 5 (by simp)
 have z6:=H.out.bz.c 6 (by simp)
 simp only [List.getElem?_cons_zero,List.getElem?_cons_succ] at z0 z1 z2 z3 z4 z5 z6
 have TY:=typed_any q.bys _ 0 w H.out.qg.lb H.out.qg.by_
 have hpos:=typQ_pos q.bys 0
 obtain ⟨f,hf,hi⟩:=listedF t ht
 have e1:=some_at (hi 1 (by decide)) k1
 rw [e1] at hf
 clear hi ht k1 e1
 subst hf
 unfold Tryz.f7 at h20
 simp [rgn] at h20
 subst h20
 unfold Tryz.f7 at h21
 simp [rgn] at h21
 subst h21
 unfold Tryz.f7 at h22
 simp [rgn] at h22
 subst h22
 unfold Tryz.f7 at h23
 simp [rgn] at h23
 subst h23
 by_cases h0 : q.bys.length = 0
 ·have E:=hidE (show chkB q.bys = 0 by unfold chkB;rw [if_pos h0])
  rw [h0] at z2
  clear TY hpos hp
  go_wp2_with fail
  exact HQ.out _ _ rfl rfl ⟨H.out,E.out⟩
 ·have q1:=lt_t9 (a:=0) (b:=(q.bys.length : Int)) (by omega)
  have q3 : 0 < q.bys.length:=by omega
  rw [← typQ_b _ h0] at TY hpos
  generalize chkB q.bys = c at *
  have TYH:=hidE TY
  clear TY h0
  by_cases hc : c = 0
  ·subst hc
   clear hp hpos
   go_wp2_with fail
   refine TYH.out.mono ?_
   rintro r w1 ⟨rfl,hb⟩
   have H1:=hidE (fq_below H.out hb)
   clear hb TYH H
   go_wp2_with fail
   exact HQ.out _ _ rfl rfl ⟨H1.out,by first | rfl | trivial⟩
  ·have E:=hidE (hp hc)
   have q2:=lt_t9 (a:=0) (b:=c) (by omega)
   clear hp hpos hc
   go_wp2_with fail
   refine TYH.out.mono ?_
   rintro r w1 ⟨rfl,hb⟩
   have H1:=hidE (fq_below H.out hb)
   clear hb TYH H
   go_wp2_with fail
   exact HRR.out _ _ (by rw [E.out];rfl) H1.out.kp
theorem gBound (Q : Exit → Act → World → Prop) (X : Code) (C24 : Code) (h24 : rgn 24 (Tryz.f7.body.getD .skip) = some C24) (C25 : Code) (h25 : rgn 25 (Tryz.f7.body.getD .skip) = some C25) (t : List Value) (gz : Nat) (va vw vb : Value) (q : Qy) (ps : List (AgQ × Value)) (W w : World) (hp : (q.size < 1 ∨ 1000 < q.size ∨ q.slide < 1 ∨ 1000 < q.slide ∨ q.delay < 0 ∨ 1000 < q.delay ∨ q.late < 0 ∨ 1000 < q.late) → chkQ q = 1) (ht : t.length = 134) (k1 : t[1]? = some (.pointer (some ⟨gz,0,none⟩)))
  (h : FQ W w gz va vw vb q ps)
  (hR : ∀ (t' : List Value) (w' : World),t'[2]? = some (.int .i64 (chkQ q)) → Below W.heap.size W w' → Q .ret { tmps:=t'.toArray,defers:=[] } w')
  (hQ : ∀ (t' : List Value)  (w' : World),t'.length = 134 → t'[1]? = some (.pointer (some ⟨gz,0,none⟩)) → FQ W w' gz va vw vb q ps ∧ ¬ (q.size < 1 ∨ 1000 < q.size ∨ q.slide < 1 ∨ 1000 < q.slide ∨ q.delay < 0 ∨ 1000 < q.delay ∨ q.late < 0 ∨ 1000 < q.late) → Code.wp Tryz.prog X Q { tmps:=t'.toArray,defers:=[] } w') :
  Code.wp Tryz.prog (.seq (.seq C24 (.cond (.tmp 120) (.seq C25 .ret) .skip)) X) Q { tmps:=t.toArray,defers:=[] } w:=by
 have HQ:=hidE hQ
 have HRR:=hidE hR
 have H:=hidE h
 clear hQ hR h
 obtain ⟨ao,cap,rfl⟩:=rowG_shape H.out.qg.ag.row
 obtain ⟨a2,c2,rfl⟩:=rowG_shape H.out.qg.wh
 obtain ⟨a3,c3,rfl⟩:=rowG_shape H.out.qg.by_
 have z0:=H.out.bz.c 0 (by simp)
 have z1:=H.out.bz.c 1 (by simp)
 have z2:=H.out.bz.c 2 (by simp)
 have z3:=H.out.bz.c 3 (by simp)
 have z4:=H.out.bz.c 4 (by simp)
 have z5:=H.out.bz.c 5 (by simp)
 have z6:=H.out.bz.c 6 (by simp)
 simp only [List.getElem?_cons_zero,List.getElem?_cons_succ] at z0 z1 z2 z3 z4 z5 z6
 obtain ⟨f,hf,hi⟩:=listedF t ht
 have e1:=some_at (hi 1 (by decide)) k1
 rw [e1] at hf
 clear hi ht k1 e1
 subst hf
 unfold Tryz.f7 at h24
 simp [rgn] at h24
 subst h24
 unfold Tryz.f7 at h25
 simp [rgn] at h25
 subst h25
 by_cases b0 : q.size < 1
 ·have q0:=lt_t9 b0
  have E:=hidE (hp (by omega))
  clear hp b0
  go_wp2_with fail
  exact HRR.out _ _ (by rw [E.out];rfl) H.out.kp
 have q0:=lt_f9 b0
 by_cases b1 : 1000 < q.size
 ·have q1:=lt_t9 b1
  have E:=hidE (hp (by omega))
  clear hp b0 b1
  go_wp2_with fail
  exact HRR.out _ _ (by rw [E.out];rfl) H.out.kp
 have q1:=lt_f9 b1
 by_cases b2 : q.slide < 1
 ·have q2:=lt_t9 b2
  have E:=hidE (hp (by omega))
  clear hp b0 b1 b2
  go_wp2_with fail
  exact HRR.out _ _ (by rw [E.out];rfl) H.out.kp
 have q2:=lt_f9 b2
 by_cases b3 : 1000 < q.slide
 ·have q3:=lt_t9 b3
  have E:=hidE (hp (by omega))
  clear hp b0 b1 b2 b3
  go_wp2_with fail
  exact HRR.out _ _ (by rw [E.out];rfl) H.out.kp
 have q3:=lt_f9 b3
 by_cases b4 : q.delay < 0
 ·have q4:=lt_t9 b4
  have E:=hidE (hp (by omega))
  clear hp b0 b1 b2 b3 b4
  go_wp2_with fail
  exact HRR.out _ _ (by rw [E.out];rfl) H.out.kp
 have q4:=lt_f9 b4
 by_cases b5 : 1000 < q.delay
 ·have q5:=lt_t9 b5
  have E:=hidE (hp (by omega))
  clear hp b0 b1 b2 b3 b4 b5
  go_wp2_with fail
  exact HRR.out _ _ (by rw [E.out];rfl) H.out.kp
 have q5:=lt_f9 b5
 by_cases b6 : q.late < 0
 ·have q6:=lt_t9 b6
  have E:=hidE (hp (by omega))
  clear hp b0 b1 b2 b3 b4 b5 b6
  go_wp2_with fail
  exact HRR.out _ _ (by rw [E.out];rfl) H.out.kp
 have q6:=lt_f9 b6
 by_cases b7 : 1000 < q.late
 ·have q7:=lt_t9 b7
  have E:=hidE (hp (by omega))
  clear hp b0 b1 b2 b3 b4 b5 b6 b7
  go_wp2_with fail
  exact HRR.out _ _ (by rw [E.out];rfl) H.out.kp
 have q7:=lt_f9 b7
 have E:=hidE (show ¬ (q.size < 1 ∨ 1000 < q.size ∨ q.slide < 1 ∨ 1000 < q.slide ∨ q.delay < 0 ∨ 1000 < q.delay ∨ q.late < 0 ∨ 1000 < q.late) by omega)
 clear hp b0 b1 b2 b3 b4 b5 b6 b7
 go_wp2_with fail
 exact HQ.out _ _ rfl rfl ⟨H.out,E.out⟩
theorem gSize (Q : Exit → Act → World → Prop) (C26 : Code) (h26 : rgn 26 (Tryz.f7.body.getD .skip) = some C26) (C27 : Code) (h27 : rgn 27 (Tryz.f7.body.getD .skip) = some C27) (C28 : Code) (h28 : rgn 28 (Tryz.f7.body.getD .skip) = some C28) (t : List Value) (gz : Nat) (va vw vb : Value) (q : Qy) (ps : List (AgQ × Value)) (W w : World) (hn : ¬ (q.size < 1 ∨ 1000 < q.size ∨ q.slide < 1 ∨ 1000 < q.slide ∨ q.delay < 0 ∨ 1000 < q.delay ∨ q.late < 0 ∨ 1000 < q.late)) (hp : chkQ q = if q.size < q.slide ∨ 4 * q.slide < q.size then 3 else 0) (ht : t.length = 134) (k1 : t[1]? = some (.pointer (some ⟨gz,0,none⟩)))
  (h : FQ W w gz va vw vb q ps)
  (hR : ∀ (t' : List Value) (w' : World),t'[2]? = some (.int .i64 (chkQ q)) → Below W.heap.size W w' → Q .ret { tmps:=t'.toArray,defers:=[] } w')
  (hQ : ∀ (t' : List Value)  (w' : World),t'.length = 134 → t'[1]? = some (.pointer (some ⟨gz,0,none⟩)) → False → Q .normal { tmps:=t'.toArray,defers:=[] } w') :
  Code.wp Tryz.prog (.seq (.seq C26 (.cond (.tmp 133) (.seq C27 .ret) .skip)) (.seq C28 .ret)) Q { tmps:=t.toArray,defers:=[] } w:=by
 clear hQ
 have HRR:=hidE hR
 have H:=hidE h
 clear hR h
 obtain ⟨ao,cap,rfl⟩:=rowG_shape H.out.qg.ag.row
 obtain ⟨a2,c2,rfl⟩:=rowG_shape H.out.qg.wh
 obtain ⟨a3,c3,rfl⟩:=rowG_shape H.out.qg.by_
 have z0:=H.out.bz.c 0 (by simp)
 have z1:=H.out.bz.c 1 (by simp)
 have z2:=H.out.bz.c 2 (by simp)
 have z3:=H.out.bz.c 3 (by simp)
 have z4:=H.out.bz.c 4 (by simp)
 have z5:=H.out.bz.c 5 (by simp)
 have z6:=H.out.bz.c 6 (by simp)
 simp only [List.getElem?_cons_zero,List.getElem?_cons_succ] at z0 z1 z2 z3 z4 z5 z6
 have hb : 1 ≤ q.slide ∧ q.slide ≤ 1000:=by omega
 obtain ⟨hb1,hb2⟩:=hb
 clear hn
 obtain ⟨f,hf,hi⟩:=listedF t ht
 have e1:=some_at (hi 1 (by decide)) k1
 rw [e1] at hf
 clear hi ht k1 e1
 subst hf
 unfold Tryz.f7 at h26
 simp [rgn] at h26
 subst h26
 unfold Tryz.f7 at h27
 simp [rgn] at h27
 subst h27
 unfold Tryz.f7 at h28
 simp [rgn] at h28
 subst h28
 by_cases b0 : q.size < q.slide
 ·have q1:=lt_t9 b0
  have E:=hidE (show chkQ q = 3 by rw [hp,if_pos (.inl b0)])
  clear hp
  go_wp2_with fail
  exact HRR.out _ _ (by rw [E.out];rfl) H.out.kp
 ·have q1:=lt_f9 b0
  by_cases b1 : 4 * q.slide < q.size
  ·have q2:=lt_t9 b1
   have E:=hidE (show chkQ q = 3 by rw [hp,if_pos (.inr b1)])
   clear hp
   go_wp2_with fail
   exact HRR.out _ _ (by rw [E.out];rfl) H.out.kp
  ·have q2:=lt_f9 b1
   have E:=hidE (show chkQ q = 0 by rw [hp,if_neg (by omega)])
   clear hp
   go_wp2_with fail
   exact HRR.out _ _ (by rw [E.out];rfl) H.out.kp
theorem gElem (Q : Exit → Act → World → Prop) (C6 : Code) (h6 : stm 6 (Tryz.f7.body.getD .skip) = some C6) (C5 : Code) (h5 : rgn 5 (Tryz.f7.body.getD .skip) = some C5) (t : List Value) (j : Nat) (gz : Nat) (va vw vb : Value) (q : Qy) (ps : List (AgQ × Value)) (W w : World) (hlt : j < ps.length) (hj4 : ps.length ≤ 4) (hp : ∀ a,q.aggs[j]? = some a → chkA a ≠ 0 → chkQ q = chkA a) (ht : t.length = 134) (k1 : t[1]? = some (.pointer (some ⟨gz,0,none⟩))) (k3 : t[3]? = some (.int .i64 (j : Int)))
  (h : FQ W w gz va vw vb q ps)
  (hR : ∀ (t' : List Value) (w' : World),t'[2]? = some (.int .i64 (chkQ q)) → Below W.heap.size W w' → Q .ret { tmps:=t'.toArray,defers:=[] } w')
  (hQ : ∀ (t' : List Value)  (w' : World),t'.length = 134 → t'[1]? = some (.pointer (some ⟨gz,0,none⟩)) → t'[3]? = some (.int .i64 ((j : Int) + 1)) → FQ W w' gz va vw vb q ps ∧ (∀ b,q.aggs[j]? = some b → chkA b = 0) → Q .normal { tmps:=t'.toArray,defers:=[] } w') :
  Code.wp Tryz.prog (.seq C6 C5) Q { tmps:=t.toArray,defers:=[] } w:=by
 have HQ:=hidE hQ
 have HRR:=hidE hR
 have H:=hidE h
 clear hQ hR h
 obtain ⟨ao,cap,rfl⟩:=rowG_shape H.out.qg.ag.row
 obtain ⟨a2,c2,rfl⟩:=rowG_shape H.out.qg.wh
 obtain ⟨a3,c3,rfl⟩:=rowG_shape H.out.qg.by_
 have z0:=H.out.bz.c 0 (by simp)
 have z1:=H.out.bz.c 1 (by simp)
 have z2:=H.out.bz.c 2 (by simp)
 have z3:=H.out.bz.c 3 (by simp)
 have z4:=H.out.bz.c 4 (by simp)
 have z5:=H.out.bz.c 5 (by simp)
 have z6:=H.out.bz.c 6 (by simp)
 simp only [List.getElem?_cons_zero,List.getElem?_cons_succ] at z0 z1 z2 z3 z4 z5 z6
 have hrow:=rowOf_val cellsAg_len H.out.qg.ag.row j hlt
 obtain ⟨g,off,hao,hcell,q1',q2',lg⟩:=hrow
 have hnd:=H.out.qg.ag.nds ps[j] (List.getElem_mem hlt)
 have hqa : q.aggs[j]? = some ps[j].1:=by rw [← H.out.qg.qa];simp [hlt]
 have HP : Hid (chkA ps[j].1 ≠ 0 → chkQ q = chkA ps[j].1):=fun hc => hp ps[j].1 hqa hc
 have HQ2 : Hid (chkA ps[j].1 = 0 → ∀ b,q.aggs[j]? = some b → chkA b = 0):=fun h9 b hb => by
  rw [hqa] at hb
  cases hb
  exact h9
 subst hao
 clear hp hqa
 generalize ps[j] = p at *
 obtain ⟨⟨k,l⟩,v⟩:=p
 have HP : Hid (chkA ⟨k,l⟩ ≠ 0 → chkQ q = chkA ⟨k,l⟩):=HP
 have HQ2 : Hid (chkA ⟨k,l⟩ = 0 → ∀ b,q.aggs[j]? = some b → chkA b = 0):=HQ2
 have y0 : w.cell? ⟨g,off + j * 2,none⟩ = some (.int .i64 k):=hcell 0 (by omega)
 have y1 : w.cell? ⟨g,off + j * 2 + 1,none⟩ = some v:=hcell 1 (by omega)
 have hsh : ∃ a9 n9 c9,v = .slice a9 n9 c9:=by obtain ⟨a9,c9,e9⟩:=rowG_shape hnd.1;exact ⟨_,_,_,e9⟩
 obtain ⟨ax,cx,hvx⟩:=rowG_shape hnd.1
 have hvx : v = .slice ax l.length cx:=hvx
 subst hvx
 clear hsh
 have ba:=below_alloc w (.cells #[.int .i64 k,.slice ax l.length cx] 46)
 have H2:=hidE (fq_below H.out ba)
 have hn2 : NodG (w.alloc (.cells #[.int .i64 k,.slice ax l.length cx] 46)) (.slice ax l.length cx) l:=nodG_below hnd.1 ba
 have hl9:=hnd.2
 unfold maxLen at q2'
 clear hcell hnd
 obtain ⟨f,hf,hi⟩:=listedF t ht
 have e1:=some_at (hi 1 (by decide)) k1
 have e3:=some_at (hi 3 (by decide)) k3
 rw [e1,e3] at hf
 clear hi ht k1 e1 k3 e3
 subst hf
 unfold Tryz.f7 at h6
 simp [stm,lead] at h6
 subst h6
 unfold Tryz.f7 at h5
 simp [rgn] at h5
 subst h5
 by_cases k1 : k < 1
 ·have q1:=lt_t9 k1
  have ea : chkA ⟨k,l⟩ = 3:=by unfold chkA;rw [if_pos (.inl k1)]
  have E:=hidE ((HP.out (by rw [ea];decide)).trans ea)
  clear ea hn2 ba HP HQ2
  go_wp2_with fail
  exact HRR.out _ _ (by rw [E.out];rfl) H2.out.kp
 have q1:=lt_f9 k1
 by_cases k5 : 5 < k
 ·have q2:=lt_t9 k5
  have ea : chkA ⟨k,l⟩ = 3:=by unfold chkA;rw [if_pos (.inr k5)]
  have E:=hidE ((HP.out (by rw [ea];decide)).trans ea)
  clear ea hn2 ba HP HQ2
  go_wp2_with fail
  exact HRR.out _ _ (by rw [E.out];rfl) H2.out.kp
 have q2:=lt_f9 k5
 by_cases ke : k = 1
 ·subst ke
  by_cases hl0 : l.length = 0
  ·have ea : chkA ⟨1,l⟩ = 0:=by unfold chkA;simp [hl0]
   have q3:=lt_f9 (a:=0) (b:=(l.length : Int)) (by omega)
   have q4 : ¬ 0 < l.length:=by omega
   clear hn2 ba HP
   have E:=hidE ea
   go_wp2_with fail
   have h9:=H2.out
   rw [hl0] at h9
   exact HQ.out _ _ rfl rfl rfl ⟨h9,HQ2.out E.out⟩
  ·have hlp : 0 < l.length:=by omega
   have q3:=lt_t9 (a:=0) (b:=(l.length : Int)) (by omega)
   have ea : chkA ⟨1,l⟩ = 3:=by unfold chkA;simp [hlp]
   have E:=hidE ((HP.out (by rw [ea];decide)).trans ea)
   clear ea hn2 ba HP HQ2
   go_wp2_with fail
   exact HRR.out _ _ (by rw [E.out];rfl) H2.out.kp
 have q3 : (k == 1) = false:=by simpa using ke
 by_cases k2 : k = 2
 ·subst k2
  have TY:=typed_any l _ 0 _ hl9 hn2
  have hpos:=typQ_pos l 0
  have ea : chkA ⟨2,l⟩ = typQ l 0:=by have:=typQ_a ⟨2,l⟩ (by show ¬ ((2 : Int) < 1 ∨ 5 < (2 : Int));omega) (by show (2 : Int) ≠ 1;omega);rw [this];show typQ l (if (2 : Int) = 2 then 0 else 1) = _;rw [if_pos rfl]
  rw [← ea] at TY hpos
  clear ea
  generalize chkA ⟨2,l⟩ = c at *
  have TYH:=hidE TY
  clear TY hn2 ba
  by_cases hc : c = 0
  ·subst hc
   clear hpos
   go_wp2_with fail
   refine TYH.out.mono ?_
   rintro r w1 ⟨rfl,hb⟩
   have H3:=hidE (fq_below H2.out hb)
   clear hb TYH H H2
   go_wp2_with fail
   exact HQ.out _ _ rfl rfl rfl ⟨H3.out,HQ2.out (by first | rfl | trivial)⟩
  ·have E:=hidE (HP.out hc)
   have t1:=lt_t9 (a:=0) (b:=c) (by omega)
   have t2 : 0 < c:=by omega
   clear hpos hc HP HQ2
   go_wp2_with fail
   refine TYH.out.mono ?_
   rintro r w1 ⟨rfl,hb⟩
   have H3:=hidE (fq_below H2.out hb)
   clear hb TYH H H2
   go_wp2_with fail
   exact HRR.out _ _ (by rw [E.out];rfl) H3.out.kp
 have q4 : (k == 2) = false:=by simpa using k2
 have q5:=lt_t9 (a:=1) (b:=k) (by omega)
 have q6 : 1 < k:=by omega
 have TY:=typed_any l _ 1 _ hl9 hn2
 have hpos:=typQ_pos l 1
 have ea : chkA ⟨k,l⟩ = typQ l 1:=by have:=typQ_a ⟨k,l⟩ (by show ¬ (k < 1 ∨ 5 < k);omega) (by show k ≠ 1;omega);rw [this];show typQ l (if k = 2 then 0 else 1) = _;rw [if_neg k2]
 rw [← ea] at TY hpos
 clear ea
 generalize chkA ⟨k,l⟩ = c at *
 have TYH:=hidE TY
 clear TY hn2 ba
 by_cases hc : c = 0
 ·subst hc
  clear hpos
  go_wp2_with fail
  refine TYH.out.mono ?_
  rintro r w1 ⟨rfl,hb⟩
  have H3:=hidE (fq_below H2.out hb)
  clear hb TYH H H2
  go_wp2_with fail
  exact HQ.out _ _ rfl rfl rfl ⟨H3.out,HQ2.out (by first | rfl | trivial)⟩
 ·have E:=hidE (HP.out hc)
  have t1:=lt_t9 (a:=0) (b:=c) (by omega)
  have t2 : 0 < c:=by omega
  clear hpos hc HP HQ2
  go_wp2_with fail
  refine TYH.out.mono ?_
  rintro r w1 ⟨rfl,hb⟩
  have H3:=hidE (fq_below H2.out hb)
  clear hb TYH H H2
  go_wp2_with fail
  exact HRR.out _ _ (by rw [E.out];rfl) H3.out.kp
end Go.Proofs.YteaanpdckkmjoaaGreatDoor
