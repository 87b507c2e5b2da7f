/- Several texts in one, each with its own head. What is proved: what the parts say. Conditions: theirs. -/
import Derived.Test.YteaanpdckkmjoaaGreatDoorQfGJ
import Derived.Test.YteaanpdckkmjoaaGreatDoorPrsHJ
import Derived.Carry
set_option linter.unusedVariables false
set_option linter.unusedSimpArgs false
set_option maxRecDepth 100000
set_option maxHeartbeats 8000000
namespace Go.Proofs.YteaanpdckkmjoaaGreatDoor
open Go.ChangeShapes Go.WideShapes Go.ChangeAt Go.RowKit
theorem tmp_atF {t : List Value} {i : Nat} {v : Value} (h : t[i]? = some v) : ((t.toArray : Array Value).getD i undef) = v:=by
 simp [Array.getD_eq_getD_getElem?,h]
theorem gInit (Q : Exit → Act → World → Prop) (L X : Code) (C3 : Code) (h3 : rgn 3 (Tryz.f7.body.getD .skip) = some C3) (t : List Value) (gz : Nat) (va vw vb : Value) (q : Qy) (ps : List (AgQ × Value)) (W w : World) (ht : t.length = 134) (k1 : t[1]? = some (.pointer (some ⟨gz,0,none⟩)))
  (h : FQ W w gz va vw vb q ps)
  (hQ : ∀ (t' : List Value)  (w' : World),t'.length = 134 → t'[1]? = some (.pointer (some ⟨gz,0,none⟩)) → t'[3]? = some (.int .i64 ((0 : Nat) : Int)) → FQ W w' gz va vw vb q ps → Code.wp Tryz.prog L (Exit.then (Code.wp Tryz.prog X Q) Q) { tmps:=t'.toArray,defers:=[] } w') :
  Code.wp Tryz.prog (.seq (.seq C3 L) X) Q { tmps:=t.toArray,defers:=[] } w:=by
 have HQ:=hidE hQ
 have H:=hidE h
 clear hQ h
 obtain ⟨f,hf,hi⟩:=listedF t ht
 have e1:=some_at (hi 1 (by decide)) k1
 rw [e1] at hf
 clear hi ht k1 e1
 subst hf
 unfold Tryz.f7 at h3
 simp [rgn] at h3
 subst h3
 go_wp2_with fail
 rename_i K9 hK9
 exact wp_then (HQ.out _ _ rfl rfl rfl H.out) hK9
theorem gHead (Q : Exit → Act → World → Prop) (C4 : Code) (h4 : rgn 4 (Tryz.f7.body.getD .skip) = some C4) (t : List Value) (j : Nat) (gz : Nat) (va vw vb : Value) (q : Qy) (ps : List (AgQ × Value)) (W w : World) (ht : t.length = 134) (k1 : t[1]? = some (.pointer (some ⟨gz,0,none⟩))) (k3 : t[3]? = some (.int .i64 (j : Int))) (h : FQ W w gz va vw vb q ps) (hj4 : ps.length ≤ 4) (hj : j ≤ 4)
  (hF : ¬ j < ps.length → ∀ (t' : List Value),t'.length = 134 → t'[1]? = some (.pointer (some ⟨gz,0,none⟩)) → t'[3]? = some (.int .i64 (j : Int)) → Q (.exit 0) { tmps:=t'.toArray,defers:=[] } w)
  (hT : j < ps.length → ∀ (t' : List Value),t'.length = 134 → t'[1]? = some (.pointer (some ⟨gz,0,none⟩)) → t'[3]? = some (.int .i64 (j : Int)) → Q .normal { tmps:=t'.toArray,defers:=[] } w) :
  Code.wp Tryz.prog (.seq C4 (.cond (.tmp 23) .skip (.exit 0))) Q { tmps:=t.toArray,defers:=[] } w:=by
 have H:=hidE h
 clear h
 obtain ⟨ao,cap,rfl⟩:=rowG_shape H.out.qg.ag.row
 obtain ⟨a2,c2,rfl⟩:=rowG_shape H.out.qg.wh
 obtain ⟨a3,c3,rfl⟩:=rowG_shape H.out.qg.by_
 have z0:=H.out.bz.c 0 (by simp)
 have z1:=H.out.bz.c 1 (by simp)
 have z2:=H.out.bz.c 2 (by simp)
 have z3:=H.out.bz.c 3 (by simp)
 have z4:=H.out.bz.c 4 (by simp)
 have z5:=H.out.bz.c 5 (by simp)
 have z6:=H.out.bz.c 6 (by simp)
 simp only [List.getElem?_cons_zero,List.getElem?_cons_succ] at z0 z1 z2 z3 z4 z5 z6
 obtain ⟨f,hf,hi⟩:=listedF t ht
 have e1:=some_at (hi 1 (by decide)) k1
 have e3:=some_at (hi 3 (by decide)) k3
 rw [e1,e3] at hf
 clear hi ht k1 e1 k3 e3
 subst hf
 unfold Tryz.f7 at h4
 simp [rgn] at h4
 subst h4
 by_cases hlt : j < ps.length
 ·have HT:=hidE (hT hlt)
  have q1:=lt_t9 (a:=(j : Int)) (b:=(ps.length : Int)) (by omega)
  clear hF hT
  go_wp2_with fail
  exact HT.out _ rfl rfl rfl
 ·have HF:=hidE (hF hlt)
  have q1:=lt_f9 (a:=(j : Int)) (b:=(ps.length : Int)) (by omega)
  clear hF hT
  go_wp2_with fail
  exact HF.out _ rfl rfl rfl
theorem gLoop (Q : Exit → Act → World → Prop) (C4 : Code) (h4 : stm 4 (Tryz.f7.body.getD .skip) = some C4) (t : List Value) (gz : Nat) (va vw vb : Value) (q : Qy) (ps : List (AgQ × Value)) (W w : World) (hj4 : ps.length ≤ 4) (hp : ∀ (j : Nat) (a : AgQ),q.aggs[j]? = some a → chkA a ≠ 0 → (∀ (m : Nat) (b : AgQ),m < j → q.aggs[m]? = some b → chkA b = 0) → chkQ q = chkA a) (ht : t.length = 134) (k1 : t[1]? = some (.pointer (some ⟨gz,0,none⟩))) (k3 : t[3]? = some (.int .i64 ((0 : Nat) : Int)))
  (h : FQ W w gz va vw vb q ps)
  (hR : ∀ (t' : List Value) (w' : World),t'[2]? = some (.int .i64 (chkQ q)) → Below W.heap.size W w' → Q .ret { tmps:=t'.toArray,defers:=[] } w')
  (hQ : ∀ (t' : List Value)  (w' : World),t'.length = 134 → t'[1]? = some (.pointer (some ⟨gz,0,none⟩)) → FQ W w' gz va vw vb q ps ∧ (∀ (m : Nat) (b : AgQ),q.aggs[m]? = some b → chkA b = 0) → Q .normal { tmps:=t'.toArray,defers:=[] } w') :
  Code.wp Tryz.prog C4 Q { tmps:=t.toArray,defers:=[] } w:=by
 have HQ:=hidE hQ
 have HRR:=hidE hR
 clear hQ hR
 unfold Tryz.f7 at h4
 simp [stm,lead] at h4
 subst h4
 refine wp_block (wp_loop (fun a wr => ∃ (t : List Value) (j : Nat),a = { tmps:=t.toArray,defers:=[] } ∧ t.length = 134 ∧ t[1]? = some (.pointer (some ⟨gz,0,none⟩)) ∧ t[3]? = some (.int .i64 (j : Int)) ∧ j ≤ ps.length ∧ FQ W wr gz va vw vb q ps ∧ (∀ (m : Nat) (b : AgQ),m < j → q.aggs[m]? = some b → chkA b = 0)) (fun a wr => 9 - (intOf (a.tmps.getD 3 undef)).toNat) ?_ ?_)
 ·exact ⟨t,0,rfl,ht,k1,k3,Nat.zero_le _,h,fun m b hm => absurd hm (by omega)⟩
 ·rintro a wr ⟨t,j,rfl,ht,k1,k3,hj,hq,hall⟩
  refine wp_seq (gHead _ _ (by kernel_rfl) t j gz va vw vb q ps W wr ht k1 k3 hq hj4 (by omega) ?_ ?_)
  ·intro hge t' ht' a1 a3
   refine then_exit (then_exit (in_exit (HQ.out t' wr ht' a1 ⟨hq,fun m b hb => hall m b ?_ hb⟩)))
   have hlen:=fq_len hq
   have:=(List.getElem?_eq_some_iff.1 hb).1
   omega
  ·intro hlt t1 ht1 a1 a3
   refine then_normal ?_
   refine gElem _ _ (by kernel_rfl) _ (by kernel_rfl) t1 j gz va vw vb q ps W wr hlt hj4 (fun a ha hc => hp j a ha hc hall) ht1 a1 a3 hq (fun t' w' e hb => HRR.out t' w' e hb) ?_
   intro t2 w2 ht2 b1 b3 ⟨h2,hz⟩
   refine ⟨⟨t2,j + 1,rfl,ht2,b1,by simpa using b3,by omega,h2,fun m b hm hb => ?_⟩,?_⟩
   ·by_cases e9 : m < j
    ·exact hall m b e9 hb
    ·have : m = j:=by omega
     subst this
     exact hz b hb
   ·show 9 - (intOf ((t2.toArray : Array Value).getD 3 undef)).toNat < 9 - (intOf ((t.toArray : Array Value).getD 3 undef)).toNat
    rw [tmp_atF k3,tmp_atF b3]
    simp only [intOf]
    omega
theorem gStart (Q : Exit → Act → World → Prop) (X : Code) (C0 : Code) (h0 : rgn 0 (Tryz.f7.body.getD .skip) = some C0) (t : List Value) (a1 a2 a3 : Option Addr) (n1 n2 n3 c1 c2 c3 : Nat) (q : Qy) (ps : List (AgQ × Value)) (W : World) (ht : t.length = 134) (k0 : t[0]? = some (.agg #[.slice a1 n1 c1,.slice a2 n2 c2,.slice a3 n3 c3,.int .i64 q.size,.int .i64 q.slide,.int .i64 q.delay,.int .i64 q.late]))
  (h : QyG W (.slice a1 n1 c1) (.slice a2 n2 c2) (.slice a3 n3 c3) q ps)
  (hQ : ∀ (t' : List Value)  (w' : World),t'.length = 134 → t'[1]? = some (.pointer (some ⟨W.heap.size,0,none⟩)) → FQ W w' W.heap.size (.slice a1 n1 c1) (.slice a2 n2 c2) (.slice a3 n3 c3) q ps → Code.wp Tryz.prog X Q { tmps:=t'.toArray,defers:=[] } w') :
  Code.wp Tryz.prog (.seq C0 X) Q { tmps:=t.toArray,defers:=[] } W:=by
 have HQ:=hidE hQ
 have ba:=below_alloc W (.cells #[.slice a1 n1 c1,.slice a2 n2 c2,.slice a3 n3 c3,.int .i64 q.size,.int .i64 q.slide,.int .i64 q.delay,.int .i64 q.late] 25)
 have FS : Hid (FQ W _ W.heap.size (.slice a1 n1 c1) (.slice a2 n2 c2) (.slice a3 n3 c3) q ps):=⟨ba,blk_alloc W [.slice a1 n1 c1,.slice a2 n2 c2,.slice a3 n3 c3,.int .i64 q.size,.int .i64 q.slide,.int .i64 q.delay,.int .i64 q.late] 25,qyG_below h ba⟩
 clear hQ h ba
 obtain ⟨f,hf,hi⟩:=listedF t ht
 have e0:=some_at (hi 0 (by decide)) k0
 rw [e0] at hf
 clear hi ht k0 e0
 subst hf
 unfold Tryz.f7 at h0
 simp [rgn] at h0
 subst h0
 go_wp2_with fail
 exact HQ.out _ _ rfl rfl FS.out
theorem qfault_any (va vw vb : Value) (q : Qy) (ps : List (AgQ × Value)) (W : World) (h : QyG W va vw vb q ps) :
  Calls Tryz.prog 7 #[qyV va vw vb q] W fun e w' => e = .returned (.int .i64 (chkQ q)) ∧ Below W.heap.size W w':=by
 have hsa : ∃ a n c,va = .slice a n c:=by obtain ⟨a,c,e⟩:=rowG_shape h.ag.row;exact ⟨_,_,_,e⟩
 have hsw : ∃ a n c,vw = .slice a n c:=by obtain ⟨a,c,e⟩:=rowG_shape h.wh;exact ⟨_,_,_,e⟩
 have hsb : ∃ a n c,vb = .slice a n c:=by obtain ⟨a,c,e⟩:=rowG_shape h.by_;exact ⟨_,_,_,e⟩
 obtain ⟨a1,n1,c1,rfl⟩:=hsa
 obtain ⟨a2,n2,c2,rfl⟩:=hsw
 obtain ⟨a3,n3,c3,rfl⟩:=hsb
 unfold qyV
 go_enter Tryz.func7,Tryz.ntmps7
 have HR : ∀ (t : List Value) w',t[2]? = some (.int .i64 (chkQ q)) → Below W.heap.size W w' → bodyPost Tryz.prog Tryz.f7 (fun e w' => e = .returned (.int .i64 (chkQ q)) ∧ Below W.heap.size W w') .ret { tmps:=t.toArray,defers:=[] } w':=fun t w' h4 hb => by
  refine bodyPost_ret (results_tmp rfl _ _ _) rfl ?_
  refine ⟨?_,hb⟩
  have h9 : t.toArray.getD 2 undef = .int .i64 (chkQ q):=by simp [h4]
  rw [h9]
 refine gStart _ _ _ (by kernel_rfl) _ a1 a2 a3 n1 n2 n3 c1 c2 c3 q ps W rfl rfl h ?_
 intro t1 w1 ht1 k1 h1
 refine gMany _ _ _ (by kernel_rfl) _ (by kernel_rfl) t1 _ _ _ _ q ps W w1 ht1 k1 h1 HR ?_
 intro t2 w2 ht2 k2 ⟨h2,hn2⟩
 have hl:=fq_len h2
 refine gInit _ _ _ _ (by kernel_rfl) t2 _ _ _ _ q ps W w2 ht2 k2 h2 ?_
 intro t3 w3 ht3 k3 k33 h3
 refine gLoop _ _ (by kernel_rfl) t3 _ _ _ _ q ps W w3 (by omega) ?_ ht3 k3 k33 h3 (fun t w e hb => HR t w e hb) ?_
 ·intro j a ha hc hp
  have e9:=chkAs_at q.aggs j a ha hc hp
  unfold chkQ
  rw [if_neg hn2,if_pos (by rw [e9];exact hc),e9]
 intro t4 w4 ht4 k4 ⟨h4,hall⟩
 have e9:=chkAs_all q.aggs hall
 have hA : chkQ q = if chkW q.wh ≠ 0 then chkW q.wh else if chkB q.bys ≠ 0 then chkB q.bys else chkS q:=by
  unfold chkQ
  rw [if_neg hn2,if_neg (by simp [e9])]
 refine then_normal ?_
 refine gWhere _ _ _ (by kernel_rfl) _ (by kernel_rfl) _ (by kernel_rfl) _ (by kernel_rfl) t4 _ _ _ _ q ps W w4 (fun hc => by rw [hA,if_pos hc]) ht4 k4 h4 HR ?_
 intro t5 w5 ht5 k5 ⟨h5,hw⟩
 have hB : chkQ q = if chkB q.bys ≠ 0 then chkB q.bys else chkS q:=by
  have hn : ¬ chkW q.wh ≠ 0:=fun e => e hw
  rw [hA,if_neg hn]
 refine gBy _ _ _ (by kernel_rfl) _ (by kernel_rfl) _ (by kernel_rfl) _ (by kernel_rfl) t5 _ _ _ _ q ps W w5 (fun hc => by rw [hB,if_pos hc]) ht5 k5 h5 HR ?_
 intro t6 w6 ht6 k6 ⟨h6,hb⟩
 have hC : chkQ q = chkS q:=by
  have hn : ¬ chkB q.bys ≠ 0:=fun e => e hb
  rw [hB,if_neg hn]
 refine gBound _ _ _ (by kernel_rfl) _ (by kernel_rfl) t6 _ _ _ _ q ps W w6 (fun hc => by rw [hC];unfold chkS;rw [if_pos hc]) ht6 k6 h6 HR ?_
 intro t7 w7 ht7 k7 ⟨h7,hbd⟩
 exact gSize _ _ (by kernel_rfl) _ (by kernel_rfl) _ (by kernel_rfl) t7 _ _ _ _ q ps W w7 hbd (by rw [hC];unfold chkS;rw [if_neg hbd]) ht7 k7 h7 HR (fun t' w' _ _ hf => hf.elim)
theorem signs_any (w : World) : Calls Tryz.prog 30 #[] w fun r w' => r = .returned (.map (some w.heap.size)) ∧ Below w.heap.size w w' ∧ MapL w' w.heap.size sgL:=by
 have M0:=mapL_new w
 have B0:=below_alloc w (.map #[] 0)
 have mk : (Instr.makeMap 60 none).run Tryz.prog w = .ok (.map (some w.heap.size)) (w.alloc (.map #[] 0)):=rfl
 generalize w.heap.size = g at *
 generalize w.alloc (.map #[] 0) = w0 at *
 obtain ⟨w1,r0,M1,K0⟩:=insS M0 wOr ⟨0,10,false,false⟩ (by decide)
 have B1 : Below g w w1:=B0.trans (keptB_below K0 (Nat.le_of_lt (mapL_lt M0)) (fun k e => by omega))
 have i0 : (Instr.mapUpdate 60 (.map (some g)) (.string ⟨#[111,114]⟩) (.agg #[.int .i64 0,.int .i64 10,.bool false,.bool false])).run Tryz.prog w0 = .ok () w1:=r0
 obtain ⟨w2,r1,M2,K1⟩:=insS M1 wAnd ⟨1,9,false,false⟩ (by decide)
 have B2 : Below g w w2:=B1.trans (keptB_below K1 (Nat.le_of_lt (mapL_lt M1)) (fun k e => by omega))
 have i1 : (Instr.mapUpdate 60 (.map (some g)) (.string ⟨#[97,110,100]⟩) (.agg #[.int .i64 1,.int .i64 9,.bool false,.bool false])).run Tryz.prog w1 = .ok () w2:=r1
 obtain ⟨w3,r2,M3,K2⟩:=insS M2 wLt ⟨2,11,false,false⟩ (by decide)
 have B3 : Below g w w3:=B2.trans (keptB_below K2 (Nat.le_of_lt (mapL_lt M2)) (fun k e => by omega))
 have i2 : (Instr.mapUpdate 60 (.map (some g)) (.string ⟨#[60]⟩) (.agg #[.int .i64 2,.int .i64 11,.bool false,.bool false])).run Tryz.prog w2 = .ok () w3:=r2
 obtain ⟨w4,r3,M4,K3⟩:=insS M3 wGt ⟨2,11,true,false⟩ (by decide)
 have B4 : Below g w w4:=B3.trans (keptB_below K3 (Nat.le_of_lt (mapL_lt M3)) (fun k e => by omega))
 have i3 : (Instr.mapUpdate 60 (.map (some g)) (.string ⟨#[62]⟩) (.agg #[.int .i64 2,.int .i64 11,.bool true,.bool false])).run Tryz.prog w3 = .ok () w4:=r3
 obtain ⟨w5,r4,M5,K4⟩:=insS M4 wLe ⟨2,11,true,true⟩ (by decide)
 have B5 : Below g w w5:=B4.trans (keptB_below K4 (Nat.le_of_lt (mapL_lt M4)) (fun k e => by omega))
 have i4 : (Instr.mapUpdate 60 (.map (some g)) (.string ⟨#[60,61]⟩) (.agg #[.int .i64 2,.int .i64 11,.bool true,.bool true])).run Tryz.prog w4 = .ok () w5:=r4
 obtain ⟨w6,r5,M6,K5⟩:=insS M5 wGe ⟨2,11,false,true⟩ (by decide)
 have B6 : Below g w w6:=B5.trans (keptB_below K5 (Nat.le_of_lt (mapL_lt M5)) (fun k e => by omega))
 have i5 : (Instr.mapUpdate 60 (.map (some g)) (.string ⟨#[62,61]⟩) (.agg #[.int .i64 2,.int .i64 11,.bool false,.bool true])).run Tryz.prog w5 = .ok () w6:=r5
 obtain ⟨w7,r6,M7,K6⟩:=insS M6 wEq ⟨2,12,false,false⟩ (by decide)
 have B7 : Below g w w7:=B6.trans (keptB_below K6 (Nat.le_of_lt (mapL_lt M6)) (fun k e => by omega))
 have i6 : (Instr.mapUpdate 60 (.map (some g)) (.string ⟨#[61]⟩) (.agg #[.int .i64 2,.int .i64 12,.bool false,.bool false])).run Tryz.prog w6 = .ok () w7:=r6
 obtain ⟨w8,r7,M8,K7⟩:=insS M7 wNe ⟨2,12,false,true⟩ (by decide)
 have B8 : Below g w w8:=B7.trans (keptB_below K7 (Nat.le_of_lt (mapL_lt M7)) (fun k e => by omega))
 have i7 : (Instr.mapUpdate 60 (.map (some g)) (.string ⟨#[60,62]⟩) (.agg #[.int .i64 2,.int .i64 12,.bool false,.bool true])).run Tryz.prog w7 = .ok () w8:=r7
 obtain ⟨w9,r8,M9,K8⟩:=insS M8 wPlus ⟨3,6,false,false⟩ (by decide)
 have B9 : Below g w w9:=B8.trans (keptB_below K8 (Nat.le_of_lt (mapL_lt M8)) (fun k e => by omega))
 have i8 : (Instr.mapUpdate 60 (.map (some g)) (.string ⟨#[43]⟩) (.agg #[.int .i64 3,.int .i64 6,.bool false,.bool false])).run Tryz.prog w8 = .ok () w9:=r8
 obtain ⟨w10,r9,M10,K9⟩:=insS M9 wMinus ⟨3,7,false,false⟩ (by decide)
 have B10 : Below g w w10:=B9.trans (keptB_below K9 (Nat.le_of_lt (mapL_lt M9)) (fun k e => by omega))
 have i9 : (Instr.mapUpdate 60 (.map (some g)) (.string ⟨#[45]⟩) (.agg #[.int .i64 3,.int .i64 7,.bool false,.bool false])).run Tryz.prog w9 = .ok () w10:=r9
 obtain ⟨w11,r10,M11,K10⟩:=insS M10 wStar ⟨4,8,false,false⟩ (by decide)
 have B11 : Below g w w11:=B10.trans (keptB_below K10 (Nat.le_of_lt (mapL_lt M10)) (fun k e => by omega))
 have i10 : (Instr.mapUpdate 60 (.map (some g)) (.string ⟨#[42]⟩) (.agg #[.int .i64 4,.int .i64 8,.bool false,.bool false])).run Tryz.prog w10 = .ok () w11:=r10
 have MZ : MapL w11 g sgL:=M11
 have MM:=hidE MZ
 have BB:=hidE B11
 clear M0 B0 M1 B1 M2 B2 M3 B3 M4 B4 M5 B5 M6 B6 M7 B7 M8 B8 M9 B9 M10 B10 M11 B11 MZ K0 r0 K1 r1 K2 r2 K3 r3 K4 r4 K5 r5 K6 r6 K7 r7 K8 r8 K9 r9 K10 r10
 go_enter Tryz.func30,Tryz.ntmps30
 go_wp2_with fail
 go_ret
 exact ⟨rfl,BB.out,MM.out⟩
end Go.Proofs.YteaanpdckkmjoaaGreatDoor
