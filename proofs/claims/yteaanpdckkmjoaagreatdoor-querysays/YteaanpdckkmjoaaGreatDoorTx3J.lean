/- Several texts in one, each with its own head. What is proved: what the parts say. Conditions: theirs. -/
import Derived.Test.YteaanpdckkmjoaaGreatDoorTx1J
import Derived.Test.YteaanpdckkmjoaaGreatDoorShelfJ
set_option linter.unusedVariables false
set_option linter.unusedSimpArgs false
set_option maxRecDepth 100000
set_option maxHeartbeats 8000000
namespace Go.Proofs.YteaanpdckkmjoaaGreatDoor
open Go.ChangeShapes Go.WideShapes Go.ChangeAt Go.RowKit
theorem lens_le : ∀ (r : List ByteArray) (B : Nat),(∀ x ∈ r,x.size ≤ B) → Lib.lens (r.map (·.data.toList)) ≤ r.length * B
 | [],B,_ => by simp [Lib.lens]
 | x :: r,B,h => by
  have ih:=lens_le r B (fun y hy => h y (List.mem_cons_of_mem _ hy))
  have hx:=h x (List.mem_cons_self ..)
  have e : Lib.lens ((x :: r).map (·.data.toList)) = x.data.toList.length + Lib.lens (r.map (·.data.toList)):=by simp [Lib.lens]
  rw [e,Lib.size_eq] at *
  have e2 : (x :: r).length * B = B + r.length * B:=by rw [List.length_cons,Nat.succ_mul];omega
  omega
theorem join_len (xs : List ByteArray) (h4 : xs.length ≤ 4) (hs : ∀ x ∈ xs,x.size ≤ 20500000000000) : (Lib.join (xs.map (·.data.toList)) [44,32]).length ≤ 140737488355328:=by
 cases xs with
 | nil => simp [Lib.join_nil]
 | cons x r =>
  rw [List.map_cons,Lib.join_cons,List.length_append,Lib.joinTail_length]
  have h1:=lens_le r _ (fun y hy => hs y (List.mem_cons_of_mem _ hy))
  have h2:=hs x (List.mem_cons_self ..)
  rw [Lib.size_eq] at h2
  simp only [List.length_cons] at h4
  have h3 : r.length * 20500000000000 ≤ 3 * 20500000000000:=Nat.mul_le_mul_right _ (by omega)
  simp only [List.length_map,List.length_cons,List.length_nil]
  omega
theorem join_any (xs : List ByteArray) (ao : Option Addr) (cap : Nat) (w : World) (h : RowG w (.slice ao xs.length cap) 1 xs.length (xs.map Value.string)) (h0 : 0 < xs.length) (h4 : xs.length ≤ 4) (hs : ∀ x ∈ xs,x.size ≤ 20500000000000) :
  Calls Tryz.prog 24 #[.slice ao xs.length cap,.string ⟨#[44,32]⟩] w fun e w' => e = .returned (.string ⟨(Lib.join (xs.map (·.data.toList)) [44,32]).toArray⟩) ∧ Below w.heap.size w w':=by
 obtain ⟨-,h⟩:=h
 rcases h with ⟨-,h⟩ | ⟨g,off,cap',e,h1,h2,h3,h5⟩
 ·omega
 ·simp only [Value.slice.injEq] at e
  obtain ⟨rfl,-,rfl⟩:=e
  exact Any.strings_Join Tryz.lays156 Tryz.Builder_Extra_156 g off cap xs ⟨#[44,32]⟩ w (fun j x hx => by
   have hj:=(List.getElem?_eq_some_iff.1 hx).1
   rw [h5 j (by omega)]
   simp [hx]) h3 (by omega) h1 (join_len xs h4 hs)
theorem name_any (k : Int) (h1 : 2 ≤ k) (h2 : k ≤ 5) (w : World) : Calls Tryz.prog 42 #[.int .i64 k] w fun r w' => r = .returned (.string (nmB k)) ∧ Below w.heap.size w w':=by
 have : k = 2 ∨ k = 3 ∨ k = 4 ∨ k = 5:=by omega
 rcases this with rfl | rfl | rfl | rfl
 ·exact name_2 w
 ·exact name_3 w
 ·exact name_4 w
 ·exact name_5 w
theorem nmB_size (k : Int) : (nmB k).size ≤ 5:=by
 unfold nmB
 repeat' split
 all_goals decide
theorem atext_one (l : List Nd) (a : Option Addr) (n c : Nat) (w : World) :
  Calls Tryz.prog 23 #[.agg #[.int .i64 1,.slice a n c]] w fun e w' => e = .returned (.string (agB ⟨1,l⟩)) ∧ Below w.heap.size w w' ∧ (agB ⟨1,l⟩).size ≤ 20500000000000:=by
 have ba:=below_alloc w (.cells #[.int .i64 1,.slice a n c] 46)
 have BA:=hidE ba
 clear ba
 go_enter Tryz.func23,Tryz.ntmps23
 go_wp2_with fail
 go_ret
 exact ⟨rfl,BA.out,by show 8 ≤ _;decide⟩
theorem atext_more (k : Int) (h2 : 2 ≤ k) (h5 : k ≤ 5) (l : List Nd) (cap : Nat) (ao : Option Addr) (hc : chkE l = 0) (w : World) (hr : NodG w (.slice ao l.length cap) l) (ht : TabQ w) :
  Calls Tryz.prog 23 #[.agg #[.int .i64 k,.slice ao l.length cap]] w fun e w' => e = .returned (.string (agB ⟨k,l⟩)) ∧ Below w.heap.size w w' ∧ (agB ⟨k,l⟩).size ≤ 20500000000000:=by
 have ba:=below_alloc w (.cells #[.int .i64 k,.slice ao l.length cap] 46)
 have BA:=hidE ba
 have BN:=blk_alloc w [.int .i64 k,.slice ao l.length cap] 46
 have n0:=BN.c 0 (by simp)
 have n1:=BN.c 1 (by simp)
 simp only [List.getElem?_cons_zero,List.getElem?_cons_succ] at n0 n1
 have lgn:=BN.lt
 have k1 : (k == 1) = false:=by simp;omega
 have hsn:=nmB_size k
 have ea : Hid (agB ⟨k,l⟩ = nmB k ++ ⟨#[40]⟩ ++ txL l ++ ⟨#[41]⟩):=by show _ = _;unfold agB;rw [if_neg (by simp;omega)]
 have ET : Hid (∀ w',Below (w.alloc (.cells #[.int .i64 k,.slice ao l.length cap] 46)).heap.size (w.alloc (.cells #[.int .i64 k,.slice ao l.length cap] 46)) w' → Calls Tryz.prog 25 #[.slice ao l.length cap] w' fun e w'' => e = .returned (.string (txL l)) ∧ Below w'.heap.size w' w'' ∧ (txL l).size ≤ 20400000000000):=fun w' hb =>
  etext_any l _ w' hc (nodG_below (nodG_below hr ba) hb) ((ht.below ba).below hb)
 rw [ea.out]
 clear ba hr ht BN hc ea
 generalize txL l = tx at *
 go_enter Tryz.func23,Tryz.ntmps23
 go_wp2_with fail
 generalize w.alloc (.cells #[.int .i64 k,.slice ao l.length cap] 46) = w0 at *
 have hS : Below w0.heap.size w0 ({ w0 with drawn:=w0.drawn + 1 } : World):=(Below.refl _ _).drew
 refine wp_region_held (S:=fun w' => Below w0.heap.size w0 w') (by kernel_rfl) ?_
 generalize ({ w0 with drawn:=w0.drawn + 1 } : World) = wd at *
 refine held_take (i:=0) (v:=.pointer (some ⟨w.heap.size,0,none⟩)) (L:=#[true,false,false,false,false,false,false,false,false,false]) rfl (by kernel_rfl) (by kernel_rfl) (by kernel_rfl) (fun c a w h => h) (Or.inl ⟨by kernel_rfl,fun wq hq => by go_simp⟩) hS (by kernel_rfl) ?_
 refine held_take (i:=1) (v:=.int .i64 k) (L:=#[true,true,false,false,false,false,false,false,false,false]) rfl (by kernel_rfl) (by kernel_rfl) (by kernel_rfl) (fun c a w h => h) (Or.inl ⟨by kernel_rfl,fun wq hq => by have q9:=hq.cell (p:=⟨w.heap.size,0,none⟩) lgn;rw [n0] at q9;go_simp⟩) hS (by kernel_rfl) ?_
 refine held_take (i:=4) (v:=.pointer (some ⟨w.heap.size,1,none⟩)) (L:=#[true,true,false,false,true,false,false,false,false,false]) rfl (by kernel_rfl) (by kernel_rfl) (by kernel_rfl) (fun c a w h => h) (Or.inl ⟨by kernel_rfl,fun wq hq => by go_simp⟩) hS (by kernel_rfl) ?_
 refine held_take (i:=5) (v:=.slice ao l.length cap) (L:=#[true,true,false,false,true,true,false,false,false,false]) rfl (by kernel_rfl) (by kernel_rfl) (by kernel_rfl) (fun c a w h => h) (Or.inl ⟨by kernel_rfl,fun wq hq => by have q9:=hq.cell (p:=⟨w.heap.size,1,none⟩) lgn;rw [n1] at q9;go_simp⟩) hS (by kernel_rfl) ?_
 refine held_go (i:=2) (L:=#[true,true,true,false,true,true,false,false,false,false]) (by kernel_rfl) rfl (by kernel_rfl) (by kernel_rfl) ?_
 intro K' hK
 go_simp
 refine (name_any k h2 h5 _).mono ?_
 rintro e w1 ⟨rfl,hb1⟩
 have hS1:=hS.trans (hb1.mono hS.size)
 have EX:=hidE (ET.out w1 hS1)
 clear ET
 refine hK _ _ ⟨hS1,?_⟩
 clear hK hb1
 refine held_take (i:=3) (v:=.string (nmB k ++ ⟨#[40]⟩)) (L:=#[true,true,true,true,true,true,false,false,false,false]) rfl (by kernel_rfl) (by kernel_rfl) (by kernel_rfl) (fun c a w h => h) (Or.inl ⟨by kernel_rfl,fun wq hq => by first | (go_simp;done) | (go_simp;omega) | (go_simp;simp only [ByteArray.size_append];omega)⟩) hS1 (by kernel_rfl) ?_
 refine held_go (i:=6) (L:=#[true,true,true,true,true,true,true,false,false,false]) (by kernel_rfl) rfl (by kernel_rfl) (by kernel_rfl) ?_
 intro K' hK
 go_simp
 refine EX.out.mono ?_
 rintro e w2 ⟨rfl,hb2,hsz⟩
 have hS2:=hS1.trans (hb2.mono hS1.size)
 have HSZ:=hidE hsz
 refine hK _ _ ⟨hS2,?_⟩
 clear hK hb2 EX
 refine held_take (i:=7) (v:=.string (nmB k ++ ⟨#[40]⟩ ++ tx)) (L:=#[true,true,true,true,true,true,true,true,false,false]) rfl (by kernel_rfl) (by kernel_rfl) (by kernel_rfl) (fun c a w h => h) (Or.inl ⟨by kernel_rfl,fun wq hq => by first | (go_simp;done) | (go_simp;omega) | (go_simp;simp only [ByteArray.size_append];omega)⟩) hS2 (by kernel_rfl) ?_
 refine held_take (i:=8) (v:=.string (nmB k ++ ⟨#[40]⟩ ++ tx ++ ⟨#[41]⟩)) (L:=#[true,true,true,true,true,true,true,true,true,false]) rfl (by kernel_rfl) (by kernel_rfl) (by kernel_rfl) (fun c a w h => h) (Or.inl ⟨by kernel_rfl,fun wq hq => by first | (go_simp;done) | (go_simp;omega) | (go_simp;simp only [ByteArray.size_append];omega)⟩) hS2 (by kernel_rfl) ?_
 refine held_go (i:=9) (L:=#[true,true,true,true,true,true,true,true,true,true]) (by kernel_rfl) rfl (by kernel_rfl) (by kernel_rfl) ?_
 intro K' hK
 go_simp
 refine hK _ _ ⟨hS2,?_⟩
 clear hK
 refine wpAnyH_done (by kernel_rfl) ?_ _
 have BZ:=hidE (BA.out.trans (hS2.mono BA.out.size))
 have hz : (nmB k ++ ⟨#[40]⟩ ++ tx ++ ⟨#[41]⟩).size ≤ 20500000000000:=by
  have h9:=HSZ.out
  have e1 : (⟨#[40]⟩ : ByteArray).size = 1:=rfl
  have e2 : (⟨#[41]⟩ : ByteArray).size = 1:=rfl
  simp only [ByteArray.size_append,e1,e2]
  omega
 have HZ:=hidE hz
 clear hS hS1 hS2 hz
 go_wp2_with fail
 go_ret
 exact ⟨rfl,BZ.out,HZ.out⟩
theorem atext_any (a : AgQ) (v : Value) (w : World) (hc : chkA a = 0) (hr : NodG w v a.of) (ht : TabQ w) :
  Calls Tryz.prog 23 #[.agg #[.int .i64 a.kind,v]] w fun e w' => e = .returned (.string (agB a)) ∧ Below w.heap.size w w' ∧ (agB a).size ≤ 20500000000000:=by
 obtain ⟨k,l⟩:=a
 obtain ⟨ao,cap,rfl⟩:=rowG_shape hr
 by_cases h1 : k = 1
 ·subst h1
  exact atext_one l _ _ _ w
 ·unfold chkA at hc
  by_cases h0 : k < 1 ∨ 5 < k
  ·rw [if_pos h0] at hc;exact absurd hc (by decide)
  ·rw [if_neg h0,if_neg h1] at hc
   have hk : chkE l = 0:=by
    by_cases h9 : chkE l = 0
    ·exact h9
    ·exfalso
     have e : (kindQ l).2 = chkE l:=by unfold kindQ;rw [if_pos h9]
     simp only [e] at hc
     rw [if_pos h9] at hc
     exact h9 hc
   exact atext_more k (by omega) (by omega) l cap ao hk w hr ht
theorem itoa_dec (n : Int) (w : World) (h0 : -9223372036854775808 ≤ n) (h1 : n ≤ 9223372036854775807) (ht : Tabs w) :
  Calls Tryz.prog 26 #[.int .i64 n] w fun e w' => e = .returned (.string (decB n)) ∧ Below w.heap.size w w':=itoa_any n w h0 h1 ht
theorem decB_size (n : Int) (h0 : -1000000000 ≤ n) (h1 : n ≤ 1000000000) : (decB n).size ≤ 21:=by
 unfold decB
 rw [mk_size]
 exact Lib.itoa_length_le n (by omega) (by omega)
theorem chkAs_zero : ∀ {l : List AgQ},chkAs l = 0 → ∀ a ∈ l,chkA a = 0
 | [],_,a,h => by simp at h
 | b :: l,h,a,ha => by
  unfold chkAs at h
  by_cases hb : chkA b = 0
  ·rw [if_neg (by simp [hb])] at h
   rcases List.mem_cons.1 ha with rfl | ha
   ·exact hb
   ·exact chkAs_zero h a ha
  ·rw [if_pos hb] at h
   exact absurd h hb
theorem kindQ_zero {l : List Nd} (h : (kindQ l).2 = 0) : chkE l = 0:=by
 by_cases h9 : chkE l = 0
 ·exact h9
 ·exfalso
  have e : (kindQ l).2 = chkE l:=by unfold kindQ;rw [if_pos h9]
  rw [e] at h
  exact h9 h
structure OkQ (q : Qy) : Prop where
 n0 : 0 < q.aggs.length
 n4 : q.aggs.length ≤ 4
 ag : ∀ a ∈ q.aggs,chkA a = 0
 wh : 0 < q.wh.length → chkE q.wh = 0
 by_ : 0 < q.bys.length → chkE q.bys = 0
 s1 : 1 ≤ q.size ∧ q.size ≤ 1000
 s2 : 1 ≤ q.slide ∧ q.slide ≤ 1000
 s3 : 0 ≤ q.delay ∧ q.delay ≤ 1000
 s4 : 0 ≤ q.late ∧ q.late ≤ 1000
theorem okQ_of {q : Qy} (h : chkQ q = 0) : OkQ q:=by
 unfold chkQ at h
 by_cases h1 : q.aggs.length = 0 ∨ 4 < q.aggs.length
 ·rw [if_pos h1] at h;exact absurd h (by decide)
 rw [if_neg h1] at h
 have h2 : chkAs q.aggs = 0:=Classical.byContradiction fun h2 => by rw [if_pos h2] at h;exact h2 h
 rw [if_neg (by simp [h2])] at h
 have h3 : chkW q.wh = 0:=Classical.byContradiction fun h3 => by rw [if_pos h3] at h;exact h3 h
 rw [if_neg (by simp [h3])] at h
 have h4 : chkB q.bys = 0:=Classical.byContradiction fun h4 => by rw [if_pos h4] at h;exact h4 h
 rw [if_neg (by simp [h4])] at h
 unfold chkS at h
 by_cases h5 : q.size < 1 ∨ 1000 < q.size ∨ q.slide < 1 ∨ 1000 < q.slide ∨ q.delay < 0 ∨ 1000 < q.delay ∨ q.late < 0 ∨ 1000 < q.late
 ·rw [if_pos h5] at h;exact absurd h (by decide)
 refine ⟨by omega,by omega,chkAs_zero h2,fun hp => ?_,fun hp => ?_,by omega,by omega,by omega,by omega⟩
 ·unfold chkW at h3
  rw [if_neg (by omega)] at h3
  by_cases h6 : (kindQ q.wh).2 = 0
  ·exact kindQ_zero h6
  ·rw [if_pos h6] at h3;exact absurd h3 h6
 ·unfold chkB at h4
  rw [if_neg (by omega)] at h4
  exact kindQ_zero h4
theorem listed72 (t : List Value) (h : t.length = 72) : ∃ f : Nat → Value,t = f 0 :: f 1 :: f 2 :: f 3 :: f 4 :: f 5 :: f 6 :: f 7 :: f 8 :: f 9 :: f 10 :: f 11 :: f 12 :: f 13 :: f 14 :: f 15 :: f 16 :: f 17 :: f 18 :: f 19 :: f 20 :: f 21 :: f 22 :: f 23 :: f 24 :: f 25 :: f 26 :: f 27 :: f 28 :: f 29 :: f 30 :: f 31 :: f 32 :: f 33 :: f 34 :: f 35 :: f 36 :: f 37 :: f 38 :: f 39 :: f 40 :: f 41 :: f 42 :: f 43 :: f 44 :: f 45 :: f 46 :: f 47 :: f 48 :: f 49 :: f 50 :: f 51 :: f 52 :: f 53 :: f 54 :: f 55 :: f 56 :: f 57 :: f 58 :: f 59 :: f 60 :: f 61 :: f 62 :: f 63 :: f 64 :: f 65 :: f 66 :: f 67 :: f 68 :: f 69 :: f 70 :: f 71 :: [] ∧ ∀ i,i < 72 → t[i]? = some (f i):=by
 have e1 : t = (List.range 72).map (fun i => t.getD i undef):=by
  apply List.ext_getElem
  ·simp [h]
  ·intro i h1 h2
   simp [List.getD,h1]
 refine ⟨fun i => t.getD i undef,?_,fun i hi => ?_⟩
 ·have e2 : ∀ g : Nat → Value,(List.range 72).map g = g 0 :: g 1 :: g 2 :: g 3 :: g 4 :: g 5 :: g 6 :: g 7 :: g 8 :: g 9 :: g 10 :: g 11 :: g 12 :: g 13 :: g 14 :: g 15 :: g 16 :: g 17 :: g 18 :: g 19 :: g 20 :: g 21 :: g 22 :: g 23 :: g 24 :: g 25 :: g 26 :: g 27 :: g 28 :: g 29 :: g 30 :: g 31 :: g 32 :: g 33 :: g 34 :: g 35 :: g 36 :: g 37 :: g 38 :: g 39 :: g 40 :: g 41 :: g 42 :: g 43 :: g 44 :: g 45 :: g 46 :: g 47 :: g 48 :: g 49 :: g 50 :: g 51 :: g 52 :: g 53 :: g 54 :: g 55 :: g 56 :: g 57 :: g 58 :: g 59 :: g 60 :: g 61 :: g 62 :: g 63 :: g 64 :: g 65 :: g 66 :: g 67 :: g 68 :: g 69 :: g 70 :: g 71 :: []:=fun _ => rfl
  exact e1.trans (e2 _)
 ·simp [List.getD,h,hi]
theorem txTail (Q : Exit → Act → World → Prop) (C14 : Code) (h14 : rgn 14 (Tryz.f10.body.getD .skip) = some C14) (t : List Value) (gq : Nat) (s : ByteArray) (v0 v1 v2 : Value) (z1 z2 z3 z4 : Int) (w : World) (ht : t.length = 72) (k1 : t[1]? = some (.pointer (some ⟨gq,0,none⟩))) (k6 : t[6]? = some (.string s))
  (hb : BlkAt w gq [v0,v1,v2,.int .i64 z1,.int .i64 z2,.int .i64 z3,.int .i64 z4]) (ht : Tabs w) (hs : s.size ≤ 1000000000000000) (h1 : -1000000000 ≤ z1 ∧ z1 ≤ 1000000000) (h2 : -1000000000 ≤ z2 ∧ z2 ≤ 1000000000) (h3 : -1000000000 ≤ z3 ∧ z3 ≤ 1000000000) (h4 : -1000000000 ≤ z4 ∧ z4 ≤ 1000000000)
  (hpan : ∀ c (a : Act) o v w,Q (.panic c) (a.put o v) w → Q (.panic c) a w)
  (hQ : ∀ (t' : List Value)  (w' : World),t'.length = 72 → t'[2]? = some (.string (s ++ ⟨#[32,119,105,110,100,111,119,32]⟩ ++ decB z1 ++ ⟨#[32,115,108,105,100,101,32]⟩ ++ decB z2 ++ ⟨#[32,100,101,108,97,121,32]⟩ ++ decB z3 ++ ⟨#[32,108,97,116,101,32]⟩ ++ decB z4)) → Below w.heap.size w w' → Q .normal { tmps:=t'.toArray,defers:=[] } w') :
  Code.wp Tryz.prog C14 Q { tmps:=t.toArray,defers:=[] } w:=by
 have HQ:=hidE hQ
 have HPN:=hidE hpan
 have n3:=hb.c 3 (by simp)
 have n4:=hb.c 4 (by simp)
 have n5:=hb.c 5 (by simp)
 have n6:=hb.c 6 (by simp)
 simp only [List.getElem?_cons_zero,List.getElem?_cons_succ] at n3 n4 n5 n6
 have lgq:=hb.lt
 have HT:=hidE ht
 have m1 : (decB z1).size ≤ 21:=decB_size z1 h1.1 h1.2
 have m2 : (decB z2).size ≤ 21:=decB_size z2 h2.1 h2.2
 have m3 : (decB z3).size ≤ 21:=decB_size z3 h3.1 h3.2
 have m4 : (decB z4).size ≤ 21:=decB_size z4 h4.1 h4.2
 have hS : Below w.heap.size w ({ w with drawn:=w.drawn + 1 } : World):=(Below.refl _ _).drew
 clear hQ hpan hb ht
 obtain ⟨f,hf,hi⟩:=listed72 t ht
 have e1:=some_at (hi 1 (by decide)) k1
 have e6:=some_at (hi 6 (by decide)) k6
 rw [e1,e6] at hf
 clear hi ht k1 e1 k6 e6
 subst hf
 unfold Tryz.f10 at h14
 simp [rgn] at h14
 subst h14
 refine wp_region_held (S:=fun w' => Below w.heap.size w w') (by kernel_rfl) ?_
 generalize ({ w with drawn:=w.drawn + 1 } : World) = wd at *
 refine held_take (i:=0) (v:=.string s) (L:=#[true,false,false,false,false,false,false,false,false,false,false,false,false,false,false,false,false,false,false,false,false,false]) rfl (by kernel_rfl) (by kernel_rfl) (by kernel_rfl) (fun c a w h => HPN.out c _ _ _ _ h) (Or.inl ⟨by kernel_rfl,fun wq hq => by go_simp⟩) hS (by kernel_rfl) ?_
 refine held_take (i:=1) (v:=.string (s ++ ⟨#[32,119,105,110,100,111,119,32]⟩)) (L:=#[true,true,false,false,false,false,false,false,false,false,false,false,false,false,false,false,false,false,false,false,false,false]) rfl (by kernel_rfl) (by kernel_rfl) (by kernel_rfl) (fun c a w h => HPN.out c _ _ _ _ h) (Or.inl ⟨by kernel_rfl,fun wq hq => by first | (go_simp;done) | (go_simp;omega) | (go_simp;simp only [ByteArray.size_append];omega)⟩) hS (by kernel_rfl) ?_
 refine held_take (i:=2) (v:=.pointer (some ⟨gq,3,none⟩)) (L:=#[true,true,true,false,false,false,false,false,false,false,false,false,false,false,false,false,false,false,false,false,false,false]) rfl (by kernel_rfl) (by kernel_rfl) (by kernel_rfl) (fun c a w h => HPN.out c _ _ _ _ h) (Or.inl ⟨by kernel_rfl,fun wq hq => by go_simp⟩) hS (by kernel_rfl) ?_
 refine held_take (i:=3) (v:=.int .i64 z1) (L:=#[true,true,true,true,false,false,false,false,false,false,false,false,false,false,false,false,false,false,false,false,false,false]) rfl (by kernel_rfl) (by kernel_rfl) (by kernel_rfl) (fun c a w h => HPN.out c _ _ _ _ h) (Or.inl ⟨by kernel_rfl,fun wq hq => by have q9:=hq.cell (p:=⟨gq,3,none⟩) lgq;rw [n3] at q9;go_simp⟩) hS (by kernel_rfl) ?_
 refine held_take (i:=7) (v:=.pointer (some ⟨gq,4,none⟩)) (L:=#[true,true,true,true,false,false,false,true,false,false,false,false,false,false,false,false,false,false,false,false,false,false]) rfl (by kernel_rfl) (by kernel_rfl) (by kernel_rfl) (fun c a w h => HPN.out c _ _ _ _ h) (Or.inl ⟨by kernel_rfl,fun wq hq => by go_simp⟩) hS (by kernel_rfl) ?_
 refine held_take (i:=8) (v:=.int .i64 z2) (L:=#[true,true,true,true,false,false,false,true,true,false,false,false,false,false,false,false,false,false,false,false,false,false]) rfl (by kernel_rfl) (by kernel_rfl) (by kernel_rfl) (fun c a w h => HPN.out c _ _ _ _ h) (Or.inl ⟨by kernel_rfl,fun wq hq => by have q9:=hq.cell (p:=⟨gq,4,none⟩) lgq;rw [n4] at q9;go_simp⟩) hS (by kernel_rfl) ?_
 refine held_take (i:=12) (v:=.pointer (some ⟨gq,5,none⟩)) (L:=#[true,true,true,true,false,false,false,true,true,false,false,false,true,false,false,false,false,false,false,false,false,false]) rfl (by kernel_rfl) (by kernel_rfl) (by kernel_rfl) (fun c a w h => HPN.out c _ _ _ _ h) (Or.inl ⟨by kernel_rfl,fun wq hq => by go_simp⟩) hS (by kernel_rfl) ?_
 refine held_take (i:=13) (v:=.int .i64 z3) (L:=#[true,true,true,true,false,false,false,true,true,false,false,false,true,true,false,false,false,false,false,false,false,false]) rfl (by kernel_rfl) (by kernel_rfl) (by kernel_rfl) (fun c a w h => HPN.out c _ _ _ _ h) (Or.inl ⟨by kernel_rfl,fun wq hq => by have q9:=hq.cell (p:=⟨gq,5,none⟩) lgq;rw [n5] at q9;go_simp⟩) hS (by kernel_rfl) ?_
 refine held_take (i:=17) (v:=.pointer (some ⟨gq,6,none⟩)) (L:=#[true,true,true,true,false,false,false,true,true,false,false,false,true,true,false,false,false,true,false,false,false,false]) rfl (by kernel_rfl) (by kernel_rfl) (by kernel_rfl) (fun c a w h => HPN.out c _ _ _ _ h) (Or.inl ⟨by kernel_rfl,fun wq hq => by go_simp⟩) hS (by kernel_rfl) ?_
 refine held_take (i:=18) (v:=.int .i64 z4) (L:=#[true,true,true,true,false,false,false,true,true,false,false,false,true,true,false,false,false,true,true,false,false,false]) rfl (by kernel_rfl) (by kernel_rfl) (by kernel_rfl) (fun c a w h => HPN.out c _ _ _ _ h) (Or.inl ⟨by kernel_rfl,fun wq hq => by have q9:=hq.cell (p:=⟨gq,6,none⟩) lgq;rw [n6] at q9;go_simp⟩) hS (by kernel_rfl) ?_
 refine held_go (i:=4) (L:=#[true,true,true,true,true,false,false,true,true,false,false,false,true,true,false,false,false,true,true,false,false,false]) (by kernel_rfl) rfl (by kernel_rfl) (by kernel_rfl) ?_
 intro K' hK
 go_simp
 refine (itoa_dec z1 _ (by omega) (by omega) (HT.out.below hS)).mono ?_
 rintro e w1 ⟨rfl,hb1⟩
 have hS1:=hS.trans (hb1.mono hS.size)
 refine hK _ _ ⟨hS1,?_⟩
 clear hK hb1
 refine held_take (i:=5) (v:=.string (s ++ ⟨#[32,119,105,110,100,111,119,32]⟩ ++ decB z1)) (L:=#[true,true,true,true,true,true,false,true,true,false,false,false,true,true,false,false,false,true,true,false,false,false]) rfl (by kernel_rfl) (by kernel_rfl) (by kernel_rfl) (fun c a w h => HPN.out c _ _ _ _ h) (Or.inl ⟨by kernel_rfl,fun wq hq => by first | (go_simp;done) | (go_simp;omega) | (go_simp;simp only [ByteArray.size_append];omega)⟩) hS1 (by kernel_rfl) ?_
 refine held_take (i:=6) (v:=.string (s ++ ⟨#[32,119,105,110,100,111,119,32]⟩ ++ decB z1 ++ ⟨#[32,115,108,105,100,101,32]⟩)) (L:=#[true,true,true,true,true,true,true,true,true,false,false,false,true,true,false,false,false,true,true,false,false,false]) rfl (by kernel_rfl) (by kernel_rfl) (by kernel_rfl) (fun c a w h => HPN.out c _ _ _ _ h) (Or.inl ⟨by kernel_rfl,fun wq hq => by first | (go_simp;done) | (go_simp;omega) | (go_simp;simp only [ByteArray.size_append];omega)⟩) hS1 (by kernel_rfl) ?_
 refine held_go (i:=9) (L:=#[true,true,true,true,true,true,true,true,true,true,false,false,true,true,false,false,false,true,true,false,false,false]) (by kernel_rfl) rfl (by kernel_rfl) (by kernel_rfl) ?_
 intro K' hK
 go_simp
 refine (itoa_dec z2 _ (by omega) (by omega) (HT.out.below hS1)).mono ?_
 rintro e w2 ⟨rfl,hb2⟩
 have hS2:=hS1.trans (hb2.mono hS1.size)
 refine hK _ _ ⟨hS2,?_⟩
 clear hK hb2
 refine held_take (i:=10) (v:=.string (s ++ ⟨#[32,119,105,110,100,111,119,32]⟩ ++ decB z1 ++ ⟨#[32,115,108,105,100,101,32]⟩ ++ decB z2)) (L:=#[true,true,true,true,true,true,true,true,true,true,true,false,true,true,false,false,false,true,true,false,false,false]) rfl (by kernel_rfl) (by kernel_rfl) (by kernel_rfl) (fun c a w h => HPN.out c _ _ _ _ h) (Or.inl ⟨by kernel_rfl,fun wq hq => by first | (go_simp;done) | (go_simp;omega) | (go_simp;simp only [ByteArray.size_append];omega)⟩) hS2 (by kernel_rfl) ?_
 refine held_take (i:=11) (v:=.string (s ++ ⟨#[32,119,105,110,100,111,119,32]⟩ ++ decB z1 ++ ⟨#[32,115,108,105,100,101,32]⟩ ++ decB z2 ++ ⟨#[32,100,101,108,97,121,32]⟩)) (L:=#[true,true,true,true,true,true,true,true,true,true,true,true,true,true,false,false,false,true,true,false,false,false]) rfl (by kernel_rfl) (by kernel_rfl) (by kernel_rfl) (fun c a w h => HPN.out c _ _ _ _ h) (Or.inl ⟨by kernel_rfl,fun wq hq => by first | (go_simp;done) | (go_simp;omega) | (go_simp;simp only [ByteArray.size_append];omega)⟩) hS2 (by kernel_rfl) ?_
 refine held_go (i:=14) (L:=#[true,true,true,true,true,true,true,true,true,true,true,true,true,true,true,false,false,true,true,false,false,false]) (by kernel_rfl) rfl (by kernel_rfl) (by kernel_rfl) ?_
 intro K' hK
 go_simp
 refine (itoa_dec z3 _ (by omega) (by omega) (HT.out.below hS2)).mono ?_
 rintro e w3 ⟨rfl,hb3⟩
 have hS3:=hS2.trans (hb3.mono hS2.size)
 refine hK _ _ ⟨hS3,?_⟩
 clear hK hb3
 refine held_take (i:=15) (v:=.string (s ++ ⟨#[32,119,105,110,100,111,119,32]⟩ ++ decB z1 ++ ⟨#[32,115,108,105,100,101,32]⟩ ++ decB z2 ++ ⟨#[32,100,101,108,97,121,32]⟩ ++ decB z3)) (L:=#[true,true,true,true,true,true,true,true,true,true,true,true,true,true,true,true,false,true,true,false,false,false]) rfl (by kernel_rfl) (by kernel_rfl) (by kernel_rfl) (fun c a w h => HPN.out c _ _ _ _ h) (Or.inl ⟨by kernel_rfl,fun wq hq => by first | (go_simp;done) | (go_simp;omega) | (go_simp;simp only [ByteArray.size_append];omega)⟩) hS3 (by kernel_rfl) ?_
 refine held_take (i:=16) (v:=.string (s ++ ⟨#[32,119,105,110,100,111,119,32]⟩ ++ decB z1 ++ ⟨#[32,115,108,105,100,101,32]⟩ ++ decB z2 ++ ⟨#[32,100,101,108,97,121,32]⟩ ++ decB z3 ++ ⟨#[32,108,97,116,101,32]⟩)) (L:=#[true,true,true,true,true,true,true,true,true,true,true,true,true,true,true,true,true,true,true,false,false,false]) rfl (by kernel_rfl) (by kernel_rfl) (by kernel_rfl) (fun c a w h => HPN.out c _ _ _ _ h) (Or.inl ⟨by kernel_rfl,fun wq hq => by first | (go_simp;done) | (go_simp;omega) | (go_simp;simp only [ByteArray.size_append];omega)⟩) hS3 (by kernel_rfl) ?_
 refine held_go (i:=19) (L:=#[true,true,true,true,true,true,true,true,true,true,true,true,true,true,true,true,true,true,true,true,false,false]) (by kernel_rfl) rfl (by kernel_rfl) (by kernel_rfl) ?_
 intro K' hK
 go_simp
 refine (itoa_dec z4 _ (by omega) (by omega) (HT.out.below hS3)).mono ?_
 rintro e w4 ⟨rfl,hb4⟩
 have hS4:=hS3.trans (hb4.mono hS3.size)
 refine hK _ _ ⟨hS4,?_⟩
 clear hK hb4
 refine held_take (i:=20) (v:=.string (s ++ ⟨#[32,119,105,110,100,111,119,32]⟩ ++ decB z1 ++ ⟨#[32,115,108,105,100,101,32]⟩ ++ decB z2 ++ ⟨#[32,100,101,108,97,121,32]⟩ ++ decB z3 ++ ⟨#[32,108,97,116,101,32]⟩ ++ decB z4)) (L:=#[true,true,true,true,true,true,true,true,true,true,true,true,true,true,true,true,true,true,true,true,true,false]) rfl (by kernel_rfl) (by kernel_rfl) (by kernel_rfl) (fun c a w h => HPN.out c _ _ _ _ h) (Or.inl ⟨by kernel_rfl,fun wq hq => by first | (go_simp;done) | (go_simp;omega) | (go_simp;simp only [ByteArray.size_append];omega)⟩) hS4 (by kernel_rfl) ?_
 refine held_go (i:=21) (L:=#[true,true,true,true,true,true,true,true,true,true,true,true,true,true,true,true,true,true,true,true,true,true]) (by kernel_rfl) rfl (by kernel_rfl) (by kernel_rfl) ?_
 intro K' hK
 go_simp
 refine hK _ _ ⟨hS4,?_⟩
 clear hK
 refine wpAnyH_done (by kernel_rfl) ?_ _
 exact HQ.out _ _ rfl rfl hS4
end Go.Proofs.YteaanpdckkmjoaaGreatDoor
