/- Several texts in one, each with its own head. What is proved: what the parts say. Conditions: theirs. -/
import Derived.Test.YtcgjflamgnjhcaaGreatDoorClock2J
import Derived.Test.YtcgjflamgnjhcaaGreatDoorEnAJ
set_option linter.unusedVariables false
set_option linter.unusedSimpArgs false
set_option maxRecDepth 100000
set_option maxHeartbeats 8000000
namespace Go.Proofs.YtcgjflamgnjhcaaGreatDoor
open Go.ChangeShapes Go.WideShapes Go.ChangeAt Go.RowKit
theorem estep_r3 (Q : Exit → Act → World → Prop) (C3 : Code) (h3 : rgn 3 (Tryz.f17.body.getD .skip) = some C3) (t : List Value) (eb xb p : Nat) (rdv tv rv : Value) (cka ao a2 a3 : Option Addr) (ckn ckc cap c2 c3 : Nat) (q : Qy) (ps : List (AgQ × Value)) (w : World) (late n : Nat) (u : Int) (k : Bool) (rb0 : Option Nat) (x : Ev) (P : World → Prop) (ht : t.length = 94) (k0 : t[0]? = some (.pointer (some ⟨eb,0,none⟩))) (k1 : t[1]? = some (.int .i64 (p : Int))) (k5 : t[5]? = some (.pointer (some ⟨xb,0,none⟩))) (k6 : t[6]? = some (.int .i64 u)) (k7 : t[7]? = some (.bool k))
  (BE : BlkAt w eb [rdv,Value.slice cka ckn ckc,tv,intN late,rv,Value.slice ao ps.length cap,Value.slice a2 q.wh.length c2,Value.slice a3 q.bys.length c3,Value.int .i64 q.size,Value.int .i64 q.slide,Value.int .i64 q.delay,Value.int .i64 q.late]) (BX : BlkAt w xb [Value.int .i64 x.t,Value.int .i64 x.k1,Value.int .i64 x.k2,Value.int .i64 x.a1,Value.int .i64 x.a2,Value.int .i64 x.b1,Value.int .i64 x.b2]) (hxe : ¬ (xb = eb ∨ rb0 = some xb)) (hn : n ≤ 1000) (hl9 : late ≤ 1000000) (TK : ∀ w',Below w.heap.size w w' → Calls Tryz.prog 46 #[.agg #[Value.slice ao ps.length cap,Value.slice a2 q.wh.length c2,Value.slice a3 q.bys.length c3,Value.int .i64 q.size,Value.int .i64 q.slide,Value.int .i64 q.delay,Value.int .i64 q.late],.agg #[Value.int .i64 x.t,Value.int .i64 x.k1,Value.int .i64 x.k2,Value.int .i64 x.a1,Value.int .i64 x.a2,Value.int .i64 x.b1,Value.int .i64 x.b2],.int .i64 u,.bool k,.func (.func 47) #[.pointer (some ⟨eb,0,none⟩)] #[]] w' fun e w'' => e = .returned (.int .i64 (n : Nat)) ∧ P w'') (HP : ∀ w',P w' → (KeptB w w' (fun k => k = eb ∨ rb0 = some k) ∧ ∃ tv9 rv9,BlkAt w' eb [rdv,Value.slice cka ckn ckc,tv9,intN late,rv9,Value.slice ao ps.length cap,Value.slice a2 q.wh.length c2,Value.slice a3 q.bys.length c3,Value.int .i64 q.size,Value.int .i64 q.slide,Value.int .i64 q.delay,Value.int .i64 q.late]))
  (hpan : ∀ c (a : Act) o v w,Q (.panic c) (a.put o v) w → Q (.panic c) a w)
  (hQ : ∀ (t' : List Value) (w1 : World) (w' : World),t'.length = 94 → t'[0]? = some (.pointer (some ⟨eb,0,none⟩)) → t'[1]? = some (.int .i64 (p : Int)) → t'[5]? = some (.pointer (some ⟨xb,0,none⟩)) → P w1 ∧ w' = w1.setCell ⟨eb,3,none⟩ (intN (late + n)) → Q .normal { tmps:=t'.toArray,defers:=[] } w') :
  Code.wp Tryz.prog C3 Q { tmps:=t.toArray,defers:=[] } w:=by
 have HQ:=hidE hQ
 have HPN:=hidE hpan
 have hS : Below w.heap.size w ({ w with drawn:=w.drawn + 1 } : World):=(Below.refl _ _).drew
 have hd:=hS
 have TK:=hidE TK
 have BX:=hidE BX
 have HP:=hidE HP
 have BXx:=hidE hxe
 have HW:=hidE (wrapIn2 ((late : Int) + (n : Int)) (by omega) (by omega))
 have HE9 : Hid (intN (late + n) = .int .i64 ((late : Int) + (n : Int))):=by show _ = _;unfold intN;rw [Int.natCast_add]
 have hS : (KeptB w ({ w with drawn:=w.drawn + 1 } : World) (fun k => k = eb ∨ rb0 = some k) ∧ ∃ tv9 rv9,BlkAt ({ w with drawn:=w.drawn + 1 } : World) eb [rdv,Value.slice cka ckn ckc,tv9,intN late,rv9,Value.slice ao ps.length cap,Value.slice a2 q.wh.length c2,Value.slice a3 q.bys.length c3,Value.int .i64 q.size,Value.int .i64 q.slide,Value.int .i64 q.delay,Value.int .i64 q.late]):=⟨keptB_of_below hS,tv,rv,blk_below BE hS BE.lt⟩
 clear hQ hpan
 have BE:=hidE BE
 obtain ⟨f,hf,hi⟩:=listed94 t ht
 have e0:=some_at (hi 0 (by decide)) k0
 have e1:=some_at (hi 1 (by decide)) k1
 have e5:=some_at (hi 5 (by decide)) k5
 have e6:=some_at (hi 6 (by decide)) k6
 have e7:=some_at (hi 7 (by decide)) k7
 rw [e0,e1,e5,e6,e7] at hf
 clear hi ht k0 e0 k1 e1 k5 e5 k6 e6 k7 e7
 subst hf
 unfold Tryz.f17 at h3
 simp [rgn] at h3
 subst h3
 refine wp_region_last (fun w' => (KeptB w w' (fun k => k = eb ∨ rb0 = some k) ∧ ∃ tv9 rv9,BlkAt w' eb [rdv,Value.slice cka ckn ckc,tv9,intN late,rv9,Value.slice ao ps.length cap,Value.slice a2 q.wh.length c2,Value.slice a3 q.bys.length c3,Value.int .i64 q.size,Value.int .i64 q.slide,Value.int .i64 q.delay,Value.int .i64 q.late])) 17 (by kernel_rfl) ?_
 generalize ({ w with drawn:=w.drawn + 1 } : World) = wd at *
 refine last_take (i:=0) (v:=.pointer (some ⟨eb,0,none⟩)) (L:=#[true,false,false,false,false,false,false,false,false,false,false,false,false,false,false,false,false,false]) [1,2,3,14,15,16,17] rfl (by kernel_rfl) (by kernel_rfl) (by kernel_rfl) (by kernel_rfl) (by kernel_rfl) (fun c a w h => HPN.out c a _ _ w h) (Or.inl ⟨by kernel_rfl,fun wq hq => by go_simp⟩) hS (by kernel_rfl) ?_
 refine last_take (i:=1) (v:=.pointer (some ⟨eb,0,none⟩)) (L:=#[true,true,false,false,false,false,false,false,false,false,false,false,false,false,false,false,false,false]) [2,3,14,17] rfl (by kernel_rfl) (by kernel_rfl) (by kernel_rfl) (by kernel_rfl) (by kernel_rfl) (fun c a w h => HPN.out c a _ _ w h) (Or.inl ⟨by kernel_rfl,fun wq hq => by go_simp⟩) hS (by kernel_rfl) ?_
 refine last_take (i:=2) (v:=.pointer (some ⟨eb,3,none⟩)) (L:=#[true,true,true,false,false,false,false,false,false,false,false,false,false,false,false,false,false,false]) [3,14,17] rfl (by kernel_rfl) (by kernel_rfl) (by kernel_rfl) (by kernel_rfl) (by kernel_rfl) (fun c a w h => HPN.out c a _ _ w h) (Or.inl ⟨by kernel_rfl,fun wq hq => by go_simp⟩) hS (by kernel_rfl) ?_
 refine last_take (i:=3) (v:=.int .i64 (late : Int)) (L:=#[true,true,true,true,false,false,false,false,false,false,false,false,false,false,false,false,false,false]) [14,17] rfl (by kernel_rfl) (by kernel_rfl) (by kernel_rfl) (by kernel_rfl) (by kernel_rfl) (fun c a w h => HPN.out c a _ _ w h) (Or.inl ⟨by kernel_rfl,fun wq hq => by obtain ⟨-,tv9,rv9,K⟩:=hq;have q3 : wq.cell? ⟨eb,3,none⟩ = some (intN late):=K.c 3 (by simp);clear K;unfold intN at *;go_simp⟩) hS (by kernel_rfl) ?_
 refine last_take (i:=4) (v:=.pointer (some ⟨eb,0,none⟩)) (L:=#[true,true,true,true,true,false,false,false,false,false,false,false,false,false,false,false,false,false]) [5,6,7,13,14,17] rfl (by kernel_rfl) (by kernel_rfl) (by kernel_rfl) (by kernel_rfl) (by kernel_rfl) (fun c a w h => HPN.out c a _ _ w h) (Or.inl ⟨by kernel_rfl,fun wq hq => by go_simp⟩) hS (by kernel_rfl) ?_
 refine last_take (i:=5) (v:=.pointer (some ⟨eb,0,none⟩)) (L:=#[true,true,true,true,true,true,false,false,false,false,false,false,false,false,false,false,false,false]) [6,7,13,14,17] rfl (by kernel_rfl) (by kernel_rfl) (by kernel_rfl) (by kernel_rfl) (by kernel_rfl) (fun c a w h => HPN.out c a _ _ w h) (Or.inl ⟨by kernel_rfl,fun wq hq => by go_simp⟩) hS (by kernel_rfl) ?_
 refine last_take (i:=6) (v:=.pointer (some ⟨eb,5,none⟩)) (L:=#[true,true,true,true,true,true,true,false,false,false,false,false,false,false,false,false,false,false]) [7,13,14,17] rfl (by kernel_rfl) (by kernel_rfl) (by kernel_rfl) (by kernel_rfl) (by kernel_rfl) (fun c a w h => HPN.out c a _ _ w h) (Or.inl ⟨by kernel_rfl,fun wq hq => by go_simp⟩) hS (by kernel_rfl) ?_
 refine last_take (i:=7) (v:=.agg #[Value.slice ao ps.length cap,Value.slice a2 q.wh.length c2,Value.slice a3 q.bys.length c3,Value.int .i64 q.size,Value.int .i64 q.slide,Value.int .i64 q.delay,Value.int .i64 q.late]) (L:=#[true,true,true,true,true,true,true,true,false,false,false,false,false,false,false,false,false,false]) [13,14,17] rfl (by kernel_rfl) (by kernel_rfl) (by kernel_rfl) (by kernel_rfl) (by kernel_rfl) (fun c a w h => HPN.out c a _ _ w h) (Or.inl ⟨by kernel_rfl,fun wq hq => by obtain ⟨-,tv9,rv9,K⟩:=hq;have q5 : wq.cell? ⟨eb,5,none⟩ = some (Value.slice ao ps.length cap):=K.c 5 (by simp);have q6 : wq.cell? ⟨eb,6,none⟩ = some (Value.slice a2 q.wh.length c2):=K.c 6 (by simp);have q7 : wq.cell? ⟨eb,7,none⟩ = some (Value.slice a3 q.bys.length c3):=K.c 7 (by simp);have q8 : wq.cell? ⟨eb,8,none⟩ = some (Value.int .i64 q.size):=K.c 8 (by simp);have q9 : wq.cell? ⟨eb,9,none⟩ = some (Value.int .i64 q.slide):=K.c 9 (by simp);have q10 : wq.cell? ⟨eb,10,none⟩ = some (Value.int .i64 q.delay):=K.c 10 (by simp);have q11 : wq.cell? ⟨eb,11,none⟩ = some (Value.int .i64 q.late):=K.c 11 (by simp);clear K;go_simp⟩) hS (by kernel_rfl) ?_
 refine last_take (i:=8) (v:=.agg #[Value.int .i64 x.t,Value.int .i64 x.k1,Value.int .i64 x.k2,Value.int .i64 x.a1,Value.int .i64 x.a2,Value.int .i64 x.b1,Value.int .i64 x.b2]) (L:=#[true,true,true,true,true,true,true,true,true,false,false,false,false,false,false,false,false,false]) [13,14,17] rfl (by kernel_rfl) (by kernel_rfl) (by kernel_rfl) (by kernel_rfl) (by kernel_rfl) (fun c a w h => HPN.out c a _ _ w h) (Or.inl ⟨by kernel_rfl,fun wq hq => by have K:=blk_kept BX.out hq.1 BXx.out;have q0 : wq.cell? ⟨xb,0,none⟩ = some (Value.int .i64 x.t):=K.c 0 (by simp);have q1 : wq.cell? ⟨xb,1,none⟩ = some (Value.int .i64 x.k1):=K.c 1 (by simp);have q2 : wq.cell? ⟨xb,2,none⟩ = some (Value.int .i64 x.k2):=K.c 2 (by simp);have q3 : wq.cell? ⟨xb,3,none⟩ = some (Value.int .i64 x.a1):=K.c 3 (by simp);have q4 : wq.cell? ⟨xb,4,none⟩ = some (Value.int .i64 x.a2):=K.c 4 (by simp);have q5 : wq.cell? ⟨xb,5,none⟩ = some (Value.int .i64 x.b1):=K.c 5 (by simp);have q6 : wq.cell? ⟨xb,6,none⟩ = some (Value.int .i64 x.b2):=K.c 6 (by simp);clear K;go_simp⟩) hS (by kernel_rfl) ?_
 refine last_take (i:=9) (v:=.int .i64 u) (L:=#[true,true,true,true,true,true,true,true,true,true,false,false,false,false,false,false,false,false]) [13,14,17] rfl (by kernel_rfl) (by kernel_rfl) (by kernel_rfl) (by kernel_rfl) (by kernel_rfl) (fun c a w h => HPN.out c a _ _ w h) (Or.inl ⟨by kernel_rfl,fun wq hq => by go_simp⟩) hS (by kernel_rfl) ?_
 refine last_take (i:=10) (v:=.bool k) (L:=#[true,true,true,true,true,true,true,true,true,true,true,false,false,false,false,false,false,false]) [13,14,17] rfl (by kernel_rfl) (by kernel_rfl) (by kernel_rfl) (by kernel_rfl) (by kernel_rfl) (fun c a w h => HPN.out c a _ _ w h) (Or.inl ⟨by kernel_rfl,fun wq hq => by go_simp⟩) hS (by kernel_rfl) ?_
 refine last_take (i:=11) (v:=.pointer (some ⟨eb,0,none⟩)) (L:=#[true,true,true,true,true,true,true,true,true,true,true,true,false,false,false,false,false,false]) [12,13,14,17] rfl (by kernel_rfl) (by kernel_rfl) (by kernel_rfl) (by kernel_rfl) (by kernel_rfl) (fun c a w h => HPN.out c a _ _ w h) (Or.inl ⟨by kernel_rfl,fun wq hq => by go_simp⟩) hS (by kernel_rfl) ?_
 refine last_take (i:=12) (v:=.func (.func 47) #[.pointer (some ⟨eb,0,none⟩)] #[]) (L:=#[true,true,true,true,true,true,true,true,true,true,true,true,true,false,false,false,false,false]) [13,14,17] rfl (by kernel_rfl) (by kernel_rfl) (by kernel_rfl) (by kernel_rfl) (by kernel_rfl) (fun c a w h => HPN.out c a _ _ w h) (Or.inl ⟨by kernel_rfl,fun wq hq => by go_simp⟩) hS (by kernel_rfl) ?_
 refine last_go (i:=13) (L:=#[true,true,true,true,true,true,true,true,true,true,true,true,true,true,false,false,false,false]) (by kernel_rfl) rfl (by kernel_rfl) (by kernel_rfl) ?_
 intro K' hK
 go_simp
 refine (TK.out _ hd).mono ?_
 rintro e w1 ⟨rfl,hp1⟩
 have hS1:=HP.out w1 hp1
 refine hK _ _ ⟨fun _ => hS1,?_⟩
 clear hK
 refine last_take (i:=14) (v:=.int .i64 ((late : Int) + (n : Int))) (L:=#[true,true,true,true,true,true,true,true,true,true,true,true,true,true,true,false,false,false]) [17] rfl (by kernel_rfl) (by kernel_rfl) (by kernel_rfl) (by kernel_rfl) (by kernel_rfl) (fun c a w h => HPN.out c a _ _ w h) (Or.inl ⟨by kernel_rfl,fun wq hq => by have hw:=HW.out;go_simp⟩) hS1 (by kernel_rfl) ?_
 refine last_take (i:=15) (v:=.pointer (some ⟨eb,0,none⟩)) (L:=#[true,true,true,true,true,true,true,true,true,true,true,true,true,true,true,true,false,false]) [16,17] rfl (by kernel_rfl) (by kernel_rfl) (by kernel_rfl) (by kernel_rfl) (by kernel_rfl) (fun c a w h => HPN.out c a _ _ w h) (Or.inl ⟨by kernel_rfl,fun wq hq => by go_simp⟩) hS1 (by kernel_rfl) ?_
 refine last_take (i:=16) (v:=.pointer (some ⟨eb,3,none⟩)) (L:=#[true,true,true,true,true,true,true,true,true,true,true,true,true,true,true,true,true,false]) [17] rfl (by kernel_rfl) (by kernel_rfl) (by kernel_rfl) (by kernel_rfl) (by kernel_rfl) (fun c a w h => HPN.out c a _ _ w h) (Or.inl ⟨by kernel_rfl,fun wq hq => by go_simp⟩) hS1 (by kernel_rfl) ?_
 refine last_go (i:=17) (L:=#[true,true,true,true,true,true,true,true,true,true,true,true,true,true,true,true,true,true]) (by kernel_rfl) rfl (by kernel_rfl) (by kernel_rfl) ?_
 intro K' hK
 obtain ⟨-,tv9,rv9,K9⟩:=id hS1
 have q3 : w1.cell? ⟨eb,3,none⟩ = some (intN late):=K9.c 3 (by simp)
 unfold intN at q3
 have f3:=K9.fz 3
 have l3:=K9.lt
 clear K9
 go_simp
 refine hK _ _ ⟨fun h => absurd rfl h,?_⟩
 clear hK
 refine last_done (by kernel_rfl) ?_ _
 exact HQ.out _ w1 _ rfl rfl rfl rfl ⟨hp1,by rw [HE9.out]⟩
theorem estep_r5 (Q : Exit → Act → World → Prop) (C5 : Code) (h5 : rgn 5 (Tryz.f17.body.getD .skip) = some C5) (t : List Value) (eb xb p : Nat) (rdv tv ltv rv : Value) (cka ao a2 a3 : Option Addr) (ckn ckc cap c2 c3 : Nat) (q : Qy) (ps : List (AgQ × Value)) (w : World) (G : List Int) (x : Ev) (ht : t.length = 94) (k0 : t[0]? = some (.pointer (some ⟨eb,0,none⟩))) (k1 : t[1]? = some (.int .i64 (p : Int))) (k5 : t[5]? = some (.pointer (some ⟨xb,0,none⟩)))
  (BE : BlkAt w eb [rdv,Value.slice cka ckn ckc,tv,ltv,rv,Value.slice ao ps.length cap,Value.slice a2 q.wh.length c2,Value.slice a3 q.bys.length c3,Value.int .i64 q.size,Value.int .i64 q.slide,Value.int .i64 q.delay,Value.int .i64 q.late]) (BX : BlkAt w xb [Value.int .i64 x.t,Value.int .i64 x.k1,Value.int .i64 x.k2,Value.int .i64 x.a1,Value.int .i64 x.a2,Value.int .i64 x.b1,Value.int .i64 x.b2]) (PT : ∀ w',Below w.heap.size w w' → Calls Tryz.prog 48 #[.agg #[.slice cka ckn ckc],.int .i64 (p : Int),.int .i64 x.t] w' fun e w'' => ∃ ua uc,e = .returned (.agg #[.slice ua (seeL G p x.t).length uc]) ∧ w''.ownsRow w'.heap.size 3 1 (.slice ua (seeL G p x.t).length uc) (seeL G p x.t).length ((seeL G p x.t).map (Value.int .i64)) ∧ Below w'.heap.size w' w'')
  (hpan : ∀ c (a : Act) o v w,Q (.panic c) (a.put o v) w → Q (.panic c) a w)
  (hQ : ∀ (t' : List Value) (ua : Option Addr) (uc : Nat) (w1 : World) (w' : World),t'.length = 94 → t'[0]? = some (.pointer (some ⟨eb,0,none⟩)) → t'[1]? = some (.int .i64 (p : Int)) → t'[5]? = some (.pointer (some ⟨xb,0,none⟩)) → w' = w1.setCell ⟨eb,1,none⟩ (.slice ua (seeL G p x.t).length uc) ∧ Below w.heap.size w w1 ∧ w1.ownsRow w.heap.size 3 1 (.slice ua (seeL G p x.t).length uc) (seeL G p x.t).length ((seeL G p x.t).map (Value.int .i64)) → Q .normal { tmps:=t'.toArray,defers:=[] } w') :
  Code.wp Tryz.prog C5 Q { tmps:=t.toArray,defers:=[] } w:=by
 have HQ:=hidE hQ
 have HPN:=hidE hpan
 have hS : Below w.heap.size w ({ w with drawn:=w.drawn + 1 } : World):=(Below.refl _ _).drew
 have hd:=hS
 have PT:=hidE PT
 have BX:=hidE BX
 clear hQ hpan
 have BE:=hidE BE
 obtain ⟨f,hf,hi⟩:=listed94 t ht
 have e0:=some_at (hi 0 (by decide)) k0
 have e1:=some_at (hi 1 (by decide)) k1
 have e5:=some_at (hi 5 (by decide)) k5
 rw [e0,e1,e5] at hf
 clear hi ht k0 e0 k1 e1 k5 e5
 subst hf
 unfold Tryz.f17 at h5
 simp [rgn] at h5
 subst h5
 refine wp_region_last (fun w' => Below w.heap.size w w') 11 (by kernel_rfl) ?_
 generalize ({ w with drawn:=w.drawn + 1 } : World) = wd at *
 refine last_take (i:=0) (v:=.pointer (some ⟨eb,0,none⟩)) (L:=#[true,false,false,false,false,false,false,false,false,false,false,false]) [9,10,11] rfl (by kernel_rfl) (by kernel_rfl) (by kernel_rfl) (by kernel_rfl) (by kernel_rfl) (fun c a w h => HPN.out c a _ _ w h) (Or.inl ⟨by kernel_rfl,fun wq hq => by go_simp⟩) hS (by kernel_rfl) ?_
 refine last_take (i:=1) (v:=.pointer (some ⟨eb,0,none⟩)) (L:=#[true,true,false,false,false,false,false,false,false,false,false,false]) [2,3,4,8,11] rfl (by kernel_rfl) (by kernel_rfl) (by kernel_rfl) (by kernel_rfl) (by kernel_rfl) (fun c a w h => HPN.out c a _ _ w h) (Or.inl ⟨by kernel_rfl,fun wq hq => by go_simp⟩) hS (by kernel_rfl) ?_
 refine last_take (i:=2) (v:=.pointer (some ⟨eb,0,none⟩)) (L:=#[true,true,true,false,false,false,false,false,false,false,false,false]) [3,4,8,11] rfl (by kernel_rfl) (by kernel_rfl) (by kernel_rfl) (by kernel_rfl) (by kernel_rfl) (fun c a w h => HPN.out c a _ _ w h) (Or.inl ⟨by kernel_rfl,fun wq hq => by go_simp⟩) hS (by kernel_rfl) ?_
 refine last_take (i:=3) (v:=.pointer (some ⟨eb,1,none⟩)) (L:=#[true,true,true,true,false,false,false,false,false,false,false,false]) [4,8,11] rfl (by kernel_rfl) (by kernel_rfl) (by kernel_rfl) (by kernel_rfl) (by kernel_rfl) (fun c a w h => HPN.out c a _ _ w h) (Or.inl ⟨by kernel_rfl,fun wq hq => by go_simp⟩) hS (by kernel_rfl) ?_
 refine last_take (i:=4) (v:=.agg #[.slice cka ckn ckc]) (L:=#[true,true,true,true,true,false,false,false,false,false,false,false]) [8,11] rfl (by kernel_rfl) (by kernel_rfl) (by kernel_rfl) (by kernel_rfl) (by kernel_rfl) (fun c a w h => HPN.out c a _ _ w h) (Or.inl ⟨by kernel_rfl,fun wq hq => by have K:=blk_below BE.out hq BE.out.lt;have q1 : wq.cell? ⟨eb,1,none⟩ = some (Value.slice cka ckn ckc):=K.c 1 (by simp);clear K;go_simp⟩) hS (by kernel_rfl) ?_
 refine last_take (i:=5) (v:=.int .i64 (p : Int)) (L:=#[true,true,true,true,true,true,false,false,false,false,false,false]) [8,11] rfl (by kernel_rfl) (by kernel_rfl) (by kernel_rfl) (by kernel_rfl) (by kernel_rfl) (fun c a w h => HPN.out c a _ _ w h) (Or.inl ⟨by kernel_rfl,fun wq hq => by go_simp⟩) hS (by kernel_rfl) ?_
 refine last_take (i:=6) (v:=.pointer (some ⟨xb,0,none⟩)) (L:=#[true,true,true,true,true,true,true,false,false,false,false,false]) [7,8,11] rfl (by kernel_rfl) (by kernel_rfl) (by kernel_rfl) (by kernel_rfl) (by kernel_rfl) (fun c a w h => HPN.out c a _ _ w h) (Or.inl ⟨by kernel_rfl,fun wq hq => by go_simp⟩) hS (by kernel_rfl) ?_
 refine last_take (i:=7) (v:=.int .i64 x.t) (L:=#[true,true,true,true,true,true,true,true,false,false,false,false]) [8,11] rfl (by kernel_rfl) (by kernel_rfl) (by kernel_rfl) (by kernel_rfl) (by kernel_rfl) (fun c a w h => HPN.out c a _ _ w h) (Or.inl ⟨by kernel_rfl,fun wq hq => by have K:=blk_below BX.out hq BX.out.lt;have q0 : wq.cell? ⟨xb,0,none⟩ = some (Value.int .i64 x.t):=K.c 0 (by simp);clear K;go_simp⟩) hS (by kernel_rfl) ?_
 refine last_go (i:=8) (L:=#[true,true,true,true,true,true,true,true,true,false,false,false]) (by kernel_rfl) rfl (by kernel_rfl) (by kernel_rfl) ?_
 intro K' hK
 go_simp
 refine (PT.out _ hS).mono ?_
 rintro e w1 ⟨ua,uc,rfl,ho,hb⟩
 have hS1:=hS.trans (hb.mono hS.size)
 have HO:=hidE ho
 refine hK _ _ ⟨fun _ => hS1,?_⟩
 clear hK ho hb
 refine last_take (i:=9) (v:=.pointer (some ⟨eb,0,none⟩)) (L:=#[true,true,true,true,true,true,true,true,true,true,false,false]) [10,11] rfl (by kernel_rfl) (by kernel_rfl) (by kernel_rfl) (by kernel_rfl) (by kernel_rfl) (fun c a w h => HPN.out c a _ _ w h) (Or.inl ⟨by kernel_rfl,fun wq hq => by go_simp⟩) hS1 (by kernel_rfl) ?_
 refine last_take (i:=10) (v:=.pointer (some ⟨eb,1,none⟩)) (L:=#[true,true,true,true,true,true,true,true,true,true,true,false]) [11] rfl (by kernel_rfl) (by kernel_rfl) (by kernel_rfl) (by kernel_rfl) (by kernel_rfl) (fun c a w h => HPN.out c a _ _ w h) (Or.inl ⟨by kernel_rfl,fun wq hq => by go_simp⟩) hS1 (by kernel_rfl) ?_
 refine last_go (i:=11) (L:=#[true,true,true,true,true,true,true,true,true,true,true,true]) (by kernel_rfl) rfl (by kernel_rfl) (by kernel_rfl) ?_
 intro K' hK
 have BE1:=hidE (blk_below BE.out hS1 BE.out.lt)
 have q1 : w1.cell? ⟨eb,1,none⟩ = some (.slice cka ckn ckc):=BE1.out.c 1 (by simp)
 have f1:=BE1.out.fz 1
 have l1:=BE1.out.lt
 go_simp
 refine hK _ _ ⟨fun h => absurd rfl h,?_⟩
 clear hK
 refine last_done (by kernel_rfl) ?_ _
 exact HQ.out _ ua uc w1 _ rfl rfl rfl rfl ⟨rfl,hS1,owns_baseG HO.out hd.size⟩
theorem estep_r6 (Q : Exit → Act → World → Prop) (C6 : Code) (h6 : rgn 6 (Tryz.f17.body.getD .skip) = some C6) (t : List Value) (eb xb p : Nat) (rdv tv ltv rv : Value) (cka ao a2 a3 : Option Addr) (ckn ckc cap c2 c3 : Nat) (q : Qy) (ps : List (AgQ × Value)) (w : World) (G : List Int) (ht : t.length = 94) (k0 : t[0]? = some (.pointer (some ⟨eb,0,none⟩)))
  (BE : BlkAt w eb [rdv,Value.slice cka ckn ckc,tv,ltv,rv,Value.slice ao ps.length cap,Value.slice a2 q.wh.length c2,Value.slice a3 q.bys.length c3,Value.int .i64 q.size,Value.int .i64 q.slide,Value.int .i64 q.delay,Value.int .i64 q.late]) (PT : ∀ w',Below w.heap.size w w' → Calls Tryz.prog 32 #[.agg #[.slice cka ckn ckc],.int .i64 q.delay] w' fun e w'' => e = .returned (.tuple #[.int .i64 (uptoG q (minOf G)),.bool (decide (0 ≤ minOf G))]) ∧ Below w'.heap.size w' w'')
  (hpan : ∀ c (a : Act) o v w,Q (.panic c) (a.put o v) w → Q (.panic c) a w)
  (hQ : ∀ (t' : List Value)  (w' : World),t'.length = 94 → t'[0]? = some (.pointer (some ⟨eb,0,none⟩)) → t'[8]? = some (.int .i64 (uptoG q (minOf G))) → t'[9]? = some (.bool (decide (0 ≤ minOf G))) → Below w.heap.size w w' → Q .normal { tmps:=t'.toArray,defers:=[] } w') :
  Code.wp Tryz.prog C6 Q { tmps:=t.toArray,defers:=[] } w:=by
 have HQ:=hidE hQ
 have HPN:=hidE hpan
 have hS : Below w.heap.size w ({ w with drawn:=w.drawn + 1 } : World):=(Below.refl _ _).drew
 have PT:=hidE PT
 clear hQ hpan
 have BE:=hidE BE
 obtain ⟨f,hf,hi⟩:=listed94 t ht
 have e0:=some_at (hi 0 (by decide)) k0
 rw [e0] at hf
 clear hi ht k0 e0
 subst hf
 unfold Tryz.f17 at h6
 simp [rgn] at h6
 subst h6
 refine wp_region_held (S:=fun w' => Below w.heap.size w w') (by kernel_rfl) ?_
 generalize ({ w with drawn:=w.drawn + 1 } : World) = wd at *
 refine held_take (i:=0) (v:=.pointer (some ⟨eb,0,none⟩)) (L:=#[true,false,false,false,false,false,false,false,false,false,false,false,false,false,false]) rfl (by kernel_rfl) (by kernel_rfl) (by kernel_rfl) (fun c a w h => HPN.out c a _ _ w h) (Or.inl ⟨by kernel_rfl,fun wq hq => by go_simp⟩) hS (by kernel_rfl) ?_
 refine held_take (i:=1) (v:=.pointer (some ⟨eb,0,none⟩)) (L:=#[true,true,false,false,false,false,false,false,false,false,false,false,false,false,false]) rfl (by kernel_rfl) (by kernel_rfl) (by kernel_rfl) (fun c a w h => HPN.out c a _ _ w h) (Or.inl ⟨by kernel_rfl,fun wq hq => by go_simp⟩) hS (by kernel_rfl) ?_
 refine held_take (i:=2) (v:=.pointer (some ⟨eb,1,none⟩)) (L:=#[true,true,true,false,false,false,false,false,false,false,false,false,false,false,false]) rfl (by kernel_rfl) (by kernel_rfl) (by kernel_rfl) (fun c a w h => HPN.out c a _ _ w h) (Or.inl ⟨by kernel_rfl,fun wq hq => by go_simp⟩) hS (by kernel_rfl) ?_
 refine held_take (i:=3) (v:=.agg #[.slice cka ckn ckc]) (L:=#[true,true,true,true,false,false,false,false,false,false,false,false,false,false,false]) rfl (by kernel_rfl) (by kernel_rfl) (by kernel_rfl) (fun c a w h => HPN.out c a _ _ w h) (Or.inl ⟨by kernel_rfl,fun wq hq => by have K:=blk_below BE.out hq BE.out.lt;have q1 : wq.cell? ⟨eb,1,none⟩ = some (Value.slice cka ckn ckc):=K.c 1 (by simp);clear K;go_simp⟩) hS (by kernel_rfl) ?_
 refine held_take (i:=4) (v:=.pointer (some ⟨eb,0,none⟩)) (L:=#[true,true,true,true,true,false,false,false,false,false,false,false,false,false,false]) rfl (by kernel_rfl) (by kernel_rfl) (by kernel_rfl) (fun c a w h => HPN.out c a _ _ w h) (Or.inl ⟨by kernel_rfl,fun wq hq => by go_simp⟩) hS (by kernel_rfl) ?_
 refine held_take (i:=5) (v:=.pointer (some ⟨eb,0,none⟩)) (L:=#[true,true,true,true,true,true,false,false,false,false,false,false,false,false,false]) rfl (by kernel_rfl) (by kernel_rfl) (by kernel_rfl) (fun c a w h => HPN.out c a _ _ w h) (Or.inl ⟨by kernel_rfl,fun wq hq => by go_simp⟩) hS (by kernel_rfl) ?_
 refine held_take (i:=6) (v:=.pointer (some ⟨eb,5,none⟩)) (L:=#[true,true,true,true,true,true,true,false,false,false,false,false,false,false,false]) rfl (by kernel_rfl) (by kernel_rfl) (by kernel_rfl) (fun c a w h => HPN.out c a _ _ w h) (Or.inl ⟨by kernel_rfl,fun wq hq => by go_simp⟩) hS (by kernel_rfl) ?_
 refine held_take (i:=7) (v:=.pointer (some ⟨eb,10,none⟩)) (L:=#[true,true,true,true,true,true,true,true,false,false,false,false,false,false,false]) rfl (by kernel_rfl) (by kernel_rfl) (by kernel_rfl) (fun c a w h => HPN.out c a _ _ w h) (Or.inl ⟨by kernel_rfl,fun wq hq => by go_simp⟩) hS (by kernel_rfl) ?_
 refine held_take (i:=8) (v:=.int .i64 q.delay) (L:=#[true,true,true,true,true,true,true,true,true,false,false,false,false,false,false]) rfl (by kernel_rfl) (by kernel_rfl) (by kernel_rfl) (fun c a w h => HPN.out c a _ _ w h) (Or.inl ⟨by kernel_rfl,fun wq hq => by have K:=blk_below BE.out hq BE.out.lt;have q10 : wq.cell? ⟨eb,10,none⟩ = some (Value.int .i64 q.delay):=K.c 10 (by simp);clear K;go_simp⟩) hS (by kernel_rfl) ?_
 refine held_go (i:=9) (L:=#[true,true,true,true,true,true,true,true,true,true,false,false,false,false,false]) (by kernel_rfl) rfl (by kernel_rfl) (by kernel_rfl) ?_
 intro K' hK
 go_simp
 refine (PT.out _ hS).mono ?_
 rintro e w1 ⟨rfl,hb⟩
 have hS1:=hS.trans (hb.mono hS.size)
 refine hK _ _ ⟨hS1,?_⟩
 clear hK
 refine held_take (i:=10) (v:=.tuple #[.int .i64 (uptoG q (minOf G)),.bool (decide (0 ≤ minOf G))]) (L:=#[true,true,true,true,true,true,true,true,true,true,true,false,false,false,false]) rfl (by kernel_rfl) (by kernel_rfl) (by kernel_rfl) (fun c a w h => HPN.out c a _ _ w h) (Or.inl ⟨by kernel_rfl,fun wq hq => by go_simp⟩) hS1 (by kernel_rfl) ?_
 refine held_take (i:=11) (v:=.int .i64 (uptoG q (minOf G))) (L:=#[true,true,true,true,true,true,true,true,true,true,true,true,false,false,false]) rfl (by kernel_rfl) (by kernel_rfl) (by kernel_rfl) (fun c a w h => HPN.out c a _ _ w h) (Or.inl ⟨by kernel_rfl,fun wq hq => by go_simp⟩) hS1 (by kernel_rfl) ?_
 refine held_take (i:=12) (v:=.bool (decide (0 ≤ minOf G))) (L:=#[true,true,true,true,true,true,true,true,true,true,true,true,true,false,false]) rfl (by kernel_rfl) (by kernel_rfl) (by kernel_rfl) (fun c a w h => HPN.out c a _ _ w h) (Or.inl ⟨by kernel_rfl,fun wq hq => by go_simp⟩) hS1 (by kernel_rfl) ?_
 refine held_take (i:=13) (v:=.int .i64 (uptoG q (minOf G))) (L:=#[true,true,true,true,true,true,true,true,true,true,true,true,true,true,false]) rfl (by kernel_rfl) (by kernel_rfl) (by kernel_rfl) (fun c a w h => HPN.out c a _ _ w h) (Or.inl ⟨by kernel_rfl,fun wq hq => by go_simp⟩) hS1 (by kernel_rfl) ?_
 refine held_take (i:=14) (v:=.bool (decide (0 ≤ minOf G))) (L:=#[true,true,true,true,true,true,true,true,true,true,true,true,true,true,true]) rfl (by kernel_rfl) (by kernel_rfl) (by kernel_rfl) (fun c a w h => HPN.out c a _ _ w h) (Or.inl ⟨by kernel_rfl,fun wq hq => by go_simp⟩) hS1 (by kernel_rfl) ?_
 refine wpAnyH_done (by kernel_rfl) ?_ _
 exact HQ.out _  _ rfl rfl rfl rfl hS1
end Go.Proofs.YtcgjflamgnjhcaaGreatDoor
