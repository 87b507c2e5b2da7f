/- Several texts in one, each with its own head. What is proved: what the parts say. Conditions: theirs. -/
import Derived.Test.YteaanpdckkmjoaaGreatDoorQtCJ
set_option linter.unusedVariables false
set_option linter.unusedSimpArgs false
set_option maxRecDepth 100000
set_option maxHeartbeats 8000000
namespace Go.Proofs.YteaanpdckkmjoaaGreatDoor
open Go.ChangeShapes Go.WideShapes Go.ChangeAt Go.RowKit
theorem uAdd (Q : Exit → Act → World → Prop) (C11 : Code) (h11 : rgn 11 (Tryz.f11.body.getD .skip) = some C11) (t : List Value) (j : Nat) (gz gn : Nat) (s : ByteArray) (va vw vb : Value) (q : Qy) (ps : List (AgQ × Value)) (W w : World) (hlt : j < ps.length) (k : Int) (l : List Nd) (v : Value) (hp : ps[j] = (⟨k,l⟩,v)) (hps : ps.length ≤ 4) (so : ByteArray) (hk : 1 ≤ k ∧ k ≤ 5) (hs : s.size ≤ 1000000000000000) (hso : so.size ≤ 20400000000000) (ht : t.length = 107) (k1 : t[1]? = some (.pointer (some ⟨gz,0,none⟩))) (k3 : t[3]? = some (.slice (some ⟨gn,0,none⟩) 6 6)) (k4 : t[4]? = some (.string s)) (k5 : t[5]? = some (.int .i64 (j : Int))) (k6 : t[6]? = some (.string so))
  (h : FT W w gz gn va vw vb q ps)
  (hQ : ∀ (t' : List Value)  (w' : World),t'.length = 107 → t'[1]? = some (.pointer (some ⟨gz,0,none⟩)) → t'[3]? = some (.slice (some ⟨gn,0,none⟩) 6 6) → t'[4]? = some (.string (s ++ nmB k ++ ⟨#[40]⟩ ++ so ++ ⟨#[41]⟩)) → t'[5]? = some (.int .i64 (j : Int)) → FT W w' gz gn va vw vb q ps → Q .normal { tmps:=t'.toArray,defers:=[] } w') :
  Code.wp Tryz.prog C11 Q { tmps:=t.toArray,defers:=[] } w:=by
 have HQ:=hidE hQ
 have H:=hidE h
 clear hQ h
 obtain ⟨ao,cap,rfl⟩:=rowG_shape H.out.qg.ag.row
 obtain ⟨a2,c2,rfl⟩:=rowG_shape H.out.qg.wh
 obtain ⟨a3,c3,rfl⟩:=rowG_shape H.out.qg.by_
 have z0:=H.out.bz.c 0 (by simp)
 have z1:=H.out.bz.c 1 (by simp)
 have z2:=H.out.bz.c 2 (by simp)
 have z3:=H.out.bz.c 3 (by simp)
 have z4:=H.out.bz.c 4 (by simp)
 have z5:=H.out.bz.c 5 (by simp)
 have z6:=H.out.bz.c 6 (by simp)
 simp only [List.getElem?_cons_zero,List.getElem?_cons_succ] at z0 z1 z2 z3 z4 z5 z6
 obtain ⟨g,off,hao,hcell,q1',q2',lg⟩:=rowOf_val cellsAg_len H.out.qg.ag.row j hlt
 have hnd:=H.out.qg.ag.nds ps[j] (List.getElem_mem hlt)
 subst hao
 rw [hp] at hcell hnd
 have y0 : w.cell? ⟨g,off + j * 2,none⟩ = some (.int .i64 k):=hcell 0 (by omega)
 have y1 : w.cell? ⟨g,off + j * 2 + 1,none⟩ = some v:=hcell 1 (by omega)
 obtain ⟨ax,cx,hvx⟩:=rowG_shape hnd.1
 have hvx : v = .slice ax l.length cx:=hvx
 subst hvx
 unfold maxLen at q2'
 clear hcell
 obtain ⟨kn,rfl⟩ : ∃ kn : Nat,k = (kn : Int):=⟨k.toNat,by omega⟩
 have nk:=H.out.bn.c kn (by simp;omega)
 rw [nm_at kn (by omega) (by omega)] at nk
 have hnm:=nmB_size (kn : Int)
 have hk6 : kn < 6:=by omega
 generalize nmB (kn : Int) = nb at *
 clear hp hnd hk
 obtain ⟨f,hf,hi⟩:=listedT t ht
 have e1:=some_at (hi 1 (by decide)) k1
 have e3:=some_at (hi 3 (by decide)) k3
 have e4:=some_at (hi 4 (by decide)) k4
 have e5:=some_at (hi 5 (by decide)) k5
 have e6:=some_at (hi 6 (by decide)) k6
 rw [e1,e3,e4,e5,e6] at hf
 clear hi ht k1 e1 k3 e3 k4 e4 k5 e5 k6 e6
 subst hf
 unfold Tryz.f11 at h11
 simp [rgn] at h11
 subst h11
 go_wp2_with fail
 exact HQ.out _ _ rfl rfl rfl rfl rfl H.out
theorem uFrom (Q : Exit → Act → World → Prop) (C12 : Code) (h12 : rgn 12 (Tryz.f11.body.getD .skip) = some C12) (t : List Value) (gz gn : Nat) (s : ByteArray) (va vw vb : Value) (q : Qy) (ps : List (AgQ × Value)) (W w : World) (hs : s.size ≤ 1000000000000000) (ht : t.length = 107) (k1 : t[1]? = some (.pointer (some ⟨gz,0,none⟩))) (k3 : t[3]? = some (.slice (some ⟨gn,0,none⟩) 6 6)) (k4 : t[4]? = some (.string s))
  (h : FT W w gz gn va vw vb q ps)
  (hQ : ∀ (t' : List Value)  (w' : World),t'.length = 107 → t'[1]? = some (.pointer (some ⟨gz,0,none⟩)) → t'[3]? = some (.slice (some ⟨gn,0,none⟩) 6 6) → t'[4]? = some (.string (s ++ ⟨#[32,102,114,111,109,32,101,118,101,110,116,115]⟩)) → FT W w' gz gn va vw vb q ps → Q .normal { tmps:=t'.toArray,defers:=[] } w') :
  Code.wp Tryz.prog C12 Q { tmps:=t.toArray,defers:=[] } w:=by
 have HQ:=hidE hQ
 have H:=hidE h
 clear hQ h
 obtain ⟨f,hf,hi⟩:=listedT t ht
 have e1:=some_at (hi 1 (by decide)) k1
 have e3:=some_at (hi 3 (by decide)) k3
 have e4:=some_at (hi 4 (by decide)) k4
 rw [e1,e3,e4] at hf
 clear hi ht k1 e1 k3 e3 k4 e4
 subst hf
 unfold Tryz.f11 at h12
 simp [rgn] at h12
 subst h12
 go_wp2_with fail
 exact HQ.out _ _ rfl rfl rfl rfl H.out
theorem uWhere (Q : Exit → Act → World → Prop) (X : Code) (C13 : Code) (h13 : rgn 13 (Tryz.f11.body.getD .skip) = some C13) (C14 : Code) (h14 : rgn 14 (Tryz.f11.body.getD .skip) = some C14) (t : List Value) (gz gn : Nat) (s : ByteArray) (va vw vb : Value) (q : Qy) (ps : List (AgQ × Value)) (W w : World) (hs : s.size ≤ 1000000000000000) (hc : 0 < q.wh.length → chkE q.wh = 0) (ht : t.length = 107) (k1 : t[1]? = some (.pointer (some ⟨gz,0,none⟩))) (k3 : t[3]? = some (.slice (some ⟨gn,0,none⟩) 6 6)) (k4 : t[4]? = some (.string s))
  (h : FT W w gz gn va vw vb q ps)
  (hQ : ∀ (t' : List Value)  (w' : World),t'.length = 107 → t'[1]? = some (.pointer (some ⟨gz,0,none⟩)) → t'[3]? = some (.slice (some ⟨gn,0,none⟩) 6 6) → t'[4]? = some (.string (partB ⟨#[32,119,104,101,114,101,32]⟩ s q.wh)) → FT W w' gz gn va vw vb q ps → Code.wp Tryz.prog X Q { tmps:=t'.toArray,defers:=[] } w') :
  Code.wp Tryz.prog (.seq (.seq C13 (.cond (.tmp 61) C14 .skip)) X) Q { tmps:=t.toArray,defers:=[] } w:=by
 have HQ:=hidE hQ
 have H:=hidE h
 clear hQ h
 obtain ⟨ao,cap,rfl⟩:=rowG_shape H.out.qg.ag.row
 obtain ⟨a2,c2,rfl⟩:=rowG_shape H.out.qg.wh
 obtain ⟨a3,c3,rfl⟩:=rowG_shape H.out.qg.by_
 have z0:=H.out.bz.c 0 (by simp)
 have z1:=H.out.bz.c 1 (by simp)
 have z2:=H.out.bz.c 2 (by simp)
 have z3:=H.out.bz.c 3 (by simp)
 have z4:=H.out.bz.c 4 (by simp)
 have z5:=H.out.bz.c 5 (by simp)
 have z6:=H.out.bz.c 6 (by simp)
 simp only [List.getElem?_cons_zero,List.getElem?_cons_succ] at z0 z1 z2 z3 z4 z5 z6
 have HND:=hidE H.out.qg.wh
 obtain ⟨f,hf,hi⟩:=listedT t ht
 have e1:=some_at (hi 1 (by decide)) k1
 have e3:=some_at (hi 3 (by decide)) k3
 have e4:=some_at (hi 4 (by decide)) k4
 rw [e1,e3,e4] at hf
 clear hi ht k1 e1 k3 e3 k4 e4
 subst hf
 unfold Tryz.f11 at h13
 simp [rgn] at h13
 subst h13
 unfold Tryz.f11 at h14
 simp [rgn] at h14
 subst h14
 by_cases h0 : q.wh.length = 0
 ·have E:=hidE (show partB ⟨#[32,119,104,101,114,101,32]⟩ s q.wh = s by unfold partB;rw [if_pos h0])
  rw [E.out] at HQ
  rw [h0] at z1
  clear hc
  go_wp2_with fail
  exact HQ.out _ _ rfl rfl rfl rfl H.out
 ·have hp : 0 < q.wh.length:=by omega
  have q1:=lt_tT (a:=0) (b:=(q.wh.length : Int)) (by omega)
  have wm : IntKind.i64.wrap ((q.wh.length : Int) - 1) = (q.wh.length : Int) - 1:=wrapIn2 _ (by have:=H.out.qg.lw;omega) (by have:=H.out.qg.lw;omega)
  have E:=hidE (show partB ⟨#[32,119,104,101,114,101,32]⟩ s q.wh = s ++ (⟨#[32,119,104,101,114,101,32]⟩ ++ txL q.wh) by unfold partB;rw [if_neg h0])
  rw [E.out] at HQ
  have NT:=hidE (extext_any q.wh a2 c2 w (hc hp) HND.out)
  have hsz:=txL_max (hc hp)
  have lw:=H.out.qg.lw
  generalize txL q.wh = sx at *
  clear hc HND h0 E
  go_wp2_with fail
  refine NT.out.mono ?_
  rintro e w4 ⟨rfl,hb⟩
  have H4:=hidE (ft_below H.out hb)
  clear hb NT H
  go_wp2_with fail
  have ea : s ++ ⟨#[32,119,104,101,114,101,32]⟩ ++ sx = s ++ (⟨#[32,119,104,101,114,101,32]⟩ ++ sx):=ByteArray.append_assoc
  rw [← ea] at HQ
  exact HQ.out _ _ rfl rfl rfl rfl H4.out
theorem uBy (Q : Exit → Act → World → Prop) (X : Code) (C15 : Code) (h15 : rgn 15 (Tryz.f11.body.getD .skip) = some C15) (C16 : Code) (h16 : rgn 16 (Tryz.f11.body.getD .skip) = some C16) (t : List Value) (gz gn : Nat) (s : ByteArray) (va vw vb : Value) (q : Qy) (ps : List (AgQ × Value)) (W w : World) (hs : s.size ≤ 1000000000000000) (hc : 0 < q.bys.length → chkE q.bys = 0) (ht : t.length = 107) (k1 : t[1]? = some (.pointer (some ⟨gz,0,none⟩))) (k3 : t[3]? = some (.slice (some ⟨gn,0,none⟩) 6 6)) (k4 : t[4]? = some (.string s))
  (h : FT W w gz gn va vw vb q ps)
  (hQ : ∀ (t' : List Value)  (w' : World),t'.length = 107 → t'[1]? = some (.pointer (some ⟨gz,0,none⟩)) → t'[3]? = some (.slice (some ⟨gn,0,none⟩) 6 6) → t'[4]? = some (.string (partB ⟨#[32,103,114,111,117,112,32,98,121,32]⟩ s q.bys)) → FT W w' gz gn va vw vb q ps → Code.wp Tryz.prog X Q { tmps:=t'.toArray,defers:=[] } w') :
  Code.wp Tryz.prog (.seq (.seq C15 (.cond (.tmp 75) C16 .skip)) X) Q { tmps:=t.toArray,defers:=[] } w:=by
 have HQ:=hidE hQ
 have H:=hidE h
 clear hQ h
 obtain ⟨ao,cap,rfl⟩:=rowG_shape H.out.qg.ag.row
 obtain ⟨a2,c2,rfl⟩:=rowG_shape H.out.qg.wh
 obtain ⟨a3,c3,rfl⟩:=rowG_shape H.out.qg.by_
 have z0:=H.out.bz.c 0 (by simp)
 have z1:=H.out.bz.c 1 (by simp)
 have z2:=H.out.bz.c 2 (by simp)
 have z3:=H.out.bz.c 3 (by simp)
 have z4:=H.out.bz.c 4 (by simp)
 have z5:=H.out.bz.c 5 (by simp)
 have z6:=H.out.bz.c 6 (by simp)
 simp only [List.getElem?_cons_zero,List.getElem?_cons_succ] at z0 z1 z2 z3 z4 z5 z6
 have HND:=hidE H.out.qg.by_
 obtain ⟨f,hf,hi⟩:=listedT t ht
 have e1:=some_at (hi 1 (by decide)) k1
 have e3:=some_at (hi 3 (by decide)) k3
 have e4:=some_at (hi 4 (by decide)) k4
 rw [e1,e3,e4] at hf
 clear hi ht k1 e1 k3 e3 k4 e4
 subst hf
 unfold Tryz.f11 at h15
 simp [rgn] at h15
 subst h15
 unfold Tryz.f11 at h16
 simp [rgn] at h16
 subst h16
 by_cases h0 : q.bys.length = 0
 ·have E:=hidE (show partB ⟨#[32,103,114,111,117,112,32,98,121,32]⟩ s q.bys = s by unfold partB;rw [if_pos h0])
  rw [E.out] at HQ
  rw [h0] at z2
  clear hc
  go_wp2_with fail
  exact HQ.out _ _ rfl rfl rfl rfl H.out
 ·have hp : 0 < q.bys.length:=by omega
  have q1:=lt_tT (a:=0) (b:=(q.bys.length : Int)) (by omega)
  have wm : IntKind.i64.wrap ((q.bys.length : Int) - 1) = (q.bys.length : Int) - 1:=wrapIn2 _ (by have:=H.out.qg.lb;omega) (by have:=H.out.qg.lb;omega)
  have E:=hidE (show partB ⟨#[32,103,114,111,117,112,32,98,121,32]⟩ s q.bys = s ++ (⟨#[32,103,114,111,117,112,32,98,121,32]⟩ ++ txL q.bys) by unfold partB;rw [if_neg h0])
  rw [E.out] at HQ
  have NT:=hidE (extext_any q.bys a3 c3 w (hc hp) HND.out)
  have hsz:=txL_max (hc hp)
  have lw:=H.out.qg.lb
  generalize txL q.bys = sx at *
  clear hc HND h0 E
  go_wp2_with fail
  refine NT.out.mono ?_
  rintro e w4 ⟨rfl,hb⟩
  have H4:=hidE (ft_below H.out hb)
  clear hb NT H
  go_wp2_with fail
  have ea : s ++ ⟨#[32,103,114,111,117,112,32,98,121,32]⟩ ++ sx = s ++ (⟨#[32,103,114,111,117,112,32,98,121,32]⟩ ++ sx):=ByteArray.append_assoc
  rw [← ea] at HQ
  exact HQ.out _ _ rfl rfl rfl rfl H4.out
theorem uTail (R : Ending → World → Prop) (C17 : Code) (h17 : rgn 17 (Tryz.f11.body.getD .skip) = some C17) (t : List Value) (gz gn : Nat) (s : ByteArray) (va vw vb : Value) (q : Qy) (ps : List (AgQ × Value)) (W w : World) (ok : OkQ q) (hs : s.size ≤ 1000000000000000) (ht : t.length = 107) (k1 : t[1]? = some (.pointer (some ⟨gz,0,none⟩))) (k3 : t[3]? = some (.slice (some ⟨gn,0,none⟩) 6 6)) (k4 : t[4]? = some (.string s)) (h : FT W w gz gn va vw vb q ps)
  (hR : ∀ w',Below W.heap.size W w' → R (.returned (.string (s ++ ⟨#[32,119,105,110,100,111,119,32]⟩ ++ decB q.size ++ ⟨#[32,115,108,105,100,101,32]⟩ ++ decB q.slide ++ ⟨#[32,100,101,108,97,121,32]⟩ ++ decB q.delay ++ ⟨#[32,108,97,116,101,32]⟩ ++ decB q.late))) w') :
  Code.wp Tryz.prog (.seq C17 .ret) (bodyPost Tryz.prog Tryz.f11 R) { tmps:=t.toArray,defers:=[] } w:=by
 have HR:=hidE hR
 have H:=hidE h
 clear h hR
 obtain ⟨ao,cap,rfl⟩:=rowG_shape H.out.qg.ag.row
 obtain ⟨a2,c2,rfl⟩:=rowG_shape H.out.qg.wh
 obtain ⟨a3,c3,rfl⟩:=rowG_shape H.out.qg.by_
 have z0:=H.out.bz.c 0 (by simp)
 have z1:=H.out.bz.c 1 (by simp)
 have z2:=H.out.bz.c 2 (by simp)
 have z3:=H.out.bz.c 3 (by simp)
 have z4:=H.out.bz.c 4 (by simp)
 have z5:=H.out.bz.c 5 (by simp)
 have z6:=H.out.bz.c 6 (by simp)
 simp only [List.getElem?_cons_zero,List.getElem?_cons_succ] at z0 z1 z2 z3 z4 z5 z6
 have lgz:=H.out.bz.lt
 have HB:=hidE H.out.kp
 obtain ⟨-,-,-,-,-,s1,s2,s3,s4⟩:=ok
 have m1 : (decB q.size).size ≤ 21:=decB_size q.size (by omega) (by omega)
 have m2 : (decB q.slide).size ≤ 21:=decB_size q.slide (by omega) (by omega)
 have m3 : (decB q.delay).size ≤ 21:=decB_size q.delay (by omega) (by omega)
 have m4 : (decB q.late).size ≤ 21:=decB_size q.late (by omega) (by omega)
 have HPN : Hid (∀ c (a : Act) o v w,bodyPost Tryz.prog Tryz.f11 R (.panic c) (a.put o v) w → bodyPost Tryz.prog Tryz.f11 R (.panic c) a w):=pan_body
 obtain ⟨f,hf,hi⟩:=listedT t ht
 have e1:=some_at (hi 1 (by decide)) k1
 have e3:=some_at (hi 3 (by decide)) k3
 have e4:=some_at (hi 4 (by decide)) k4
 rw [e1,e3,e4] at hf
 clear hi ht k1 e1 k3 e3 k4 e4
 subst hf
 unfold Tryz.f11 at h17
 simp [rgn] at h17
 subst h17
 have hS : Below w.heap.size w ({ w with drawn:=w.drawn + 1 } : World):=(Below.refl _ _).drew
 go_wp2_with fail
 rename_i K2 hK2
 refine wp_region_held (S:=fun w' => Below w.heap.size w w') (by kernel_rfl) ?_
 generalize ({ w with drawn:=w.drawn + 1 } : World) = wd at *
 refine held_take (i:=0) (v:=.string s) (L:=#[true,false,false,false,false,false,false,false,false,false,false,false,false,false,false,false,false,false,false,false,false,false]) rfl (by kernel_rfl) (by kernel_rfl) (by kernel_rfl) (fun c a w h => HPN.out c _ _ _ _ h) (Or.inl ⟨by kernel_rfl,fun wq hq => by go_simp⟩) hS (by kernel_rfl) ?_
 refine held_take (i:=1) (v:=.string (s ++ ⟨#[32,119,105,110,100,111,119,32]⟩)) (L:=#[true,true,false,false,false,false,false,false,false,false,false,false,false,false,false,false,false,false,false,false,false,false]) rfl (by kernel_rfl) (by kernel_rfl) (by kernel_rfl) (fun c a w h => HPN.out c _ _ _ _ h) (Or.inl ⟨by kernel_rfl,fun wq hq => by first | (go_simp;done) | (go_simp;omega)⟩) hS (by kernel_rfl) ?_
 refine held_take (i:=2) (v:=.pointer (some ⟨gz,3,none⟩)) (L:=#[true,true,true,false,false,false,false,false,false,false,false,false,false,false,false,false,false,false,false,false,false,false]) rfl (by kernel_rfl) (by kernel_rfl) (by kernel_rfl) (fun c a w h => HPN.out c _ _ _ _ h) (Or.inl ⟨by kernel_rfl,fun wq hq => by go_simp⟩) hS (by kernel_rfl) ?_
 refine held_take (i:=3) (v:=.int .i64 q.size) (L:=#[true,true,true,true,false,false,false,false,false,false,false,false,false,false,false,false,false,false,false,false,false,false]) rfl (by kernel_rfl) (by kernel_rfl) (by kernel_rfl) (fun c a w h => HPN.out c _ _ _ _ h) (Or.inl ⟨by kernel_rfl,fun wq hq => by have q9:=(hq.cell (p:=⟨gz,3,none⟩) (by show gz < w.heap.size;omega)).trans z3;go_simp⟩) hS (by kernel_rfl) ?_
 refine held_take (i:=7) (v:=.pointer (some ⟨gz,4,none⟩)) (L:=#[true,true,true,true,false,false,false,true,false,false,false,false,false,false,false,false,false,false,false,false,false,false]) rfl (by kernel_rfl) (by kernel_rfl) (by kernel_rfl) (fun c a w h => HPN.out c _ _ _ _ h) (Or.inl ⟨by kernel_rfl,fun wq hq => by go_simp⟩) hS (by kernel_rfl) ?_
 refine held_take (i:=8) (v:=.int .i64 q.slide) (L:=#[true,true,true,true,false,false,false,true,true,false,false,false,false,false,false,false,false,false,false,false,false,false]) rfl (by kernel_rfl) (by kernel_rfl) (by kernel_rfl) (fun c a w h => HPN.out c _ _ _ _ h) (Or.inl ⟨by kernel_rfl,fun wq hq => by have q9:=(hq.cell (p:=⟨gz,4,none⟩) (by show gz < w.heap.size;omega)).trans z4;go_simp⟩) hS (by kernel_rfl) ?_
 refine held_take (i:=12) (v:=.pointer (some ⟨gz,5,none⟩)) (L:=#[true,true,true,true,false,false,false,true,true,false,false,false,true,false,false,false,false,false,false,false,false,false]) rfl (by kernel_rfl) (by kernel_rfl) (by kernel_rfl) (fun c a w h => HPN.out c _ _ _ _ h) (Or.inl ⟨by kernel_rfl,fun wq hq => by go_simp⟩) hS (by kernel_rfl) ?_
 refine held_take (i:=13) (v:=.int .i64 q.delay) (L:=#[true,true,true,true,false,false,false,true,true,false,false,false,true,true,false,false,false,false,false,false,false,false]) rfl (by kernel_rfl) (by kernel_rfl) (by kernel_rfl) (fun c a w h => HPN.out c _ _ _ _ h) (Or.inl ⟨by kernel_rfl,fun wq hq => by have q9:=(hq.cell (p:=⟨gz,5,none⟩) (by show gz < w.heap.size;omega)).trans z5;go_simp⟩) hS (by kernel_rfl) ?_
 refine held_take (i:=17) (v:=.pointer (some ⟨gz,6,none⟩)) (L:=#[true,true,true,true,false,false,false,true,true,false,false,false,true,true,false,false,false,true,false,false,false,false]) rfl (by kernel_rfl) (by kernel_rfl) (by kernel_rfl) (fun c a w h => HPN.out c _ _ _ _ h) (Or.inl ⟨by kernel_rfl,fun wq hq => by go_simp⟩) hS (by kernel_rfl) ?_
 refine held_take (i:=18) (v:=.int .i64 q.late) (L:=#[true,true,true,true,false,false,false,true,true,false,false,false,true,true,false,false,false,true,true,false,false,false]) rfl (by kernel_rfl) (by kernel_rfl) (by kernel_rfl) (fun c a w h => HPN.out c _ _ _ _ h) (Or.inl ⟨by kernel_rfl,fun wq hq => by have q9:=(hq.cell (p:=⟨gz,6,none⟩) (by show gz < w.heap.size;omega)).trans z6;go_simp⟩) hS (by kernel_rfl) ?_
 refine held_go (i:=4) (L:=#[true,true,true,true,true,false,false,true,true,false,false,false,true,true,false,false,false,true,true,false,false,false]) (by kernel_rfl) rfl (by kernel_rfl) (by kernel_rfl) ?_
 intro K' hK
 go_simp
 refine (dec2_any q.size _ (by omega) (by omega)).mono ?_
 rintro e w1 ⟨rfl,hb1⟩
 have hS1:=hS.trans (hb1.mono hS.size)
 refine hK _ _ ⟨hS1,?_⟩
 clear hK hb1
 refine held_take (i:=5) (v:=.string (s ++ ⟨#[32,119,105,110,100,111,119,32]⟩ ++ decB q.size)) (L:=#[true,true,true,true,true,true,false,true,true,false,false,false,true,true,false,false,false,true,true,false,false,false]) rfl (by kernel_rfl) (by kernel_rfl) (by kernel_rfl) (fun c a w h => HPN.out c _ _ _ _ h) (Or.inl ⟨by kernel_rfl,fun wq hq => by first | (go_simp;done) | (go_simp;omega)⟩) hS1 (by kernel_rfl) ?_
 refine held_take (i:=6) (v:=.string (s ++ ⟨#[32,119,105,110,100,111,119,32]⟩ ++ decB q.size ++ ⟨#[32,115,108,105,100,101,32]⟩)) (L:=#[true,true,true,true,true,true,true,true,true,false,false,false,true,true,false,false,false,true,true,false,false,false]) rfl (by kernel_rfl) (by kernel_rfl) (by kernel_rfl) (fun c a w h => HPN.out c _ _ _ _ h) (Or.inl ⟨by kernel_rfl,fun wq hq => by first | (go_simp;done) | (go_simp;omega)⟩) hS1 (by kernel_rfl) ?_
 refine held_go (i:=9) (L:=#[true,true,true,true,true,true,true,true,true,true,false,false,true,true,false,false,false,true,true,false,false,false]) (by kernel_rfl) rfl (by kernel_rfl) (by kernel_rfl) ?_
 intro K' hK
 go_simp
 refine (dec2_any q.slide _ (by omega) (by omega)).mono ?_
 rintro e w2 ⟨rfl,hb2⟩
 have hS2:=hS1.trans (hb2.mono hS1.size)
 refine hK _ _ ⟨hS2,?_⟩
 clear hK hb2
 refine held_take (i:=10) (v:=.string (s ++ ⟨#[32,119,105,110,100,111,119,32]⟩ ++ decB q.size ++ ⟨#[32,115,108,105,100,101,32]⟩ ++ decB q.slide)) (L:=#[true,true,true,true,true,true,true,true,true,true,true,false,true,true,false,false,false,true,true,false,false,false]) rfl (by kernel_rfl) (by kernel_rfl) (by kernel_rfl) (fun c a w h => HPN.out c _ _ _ _ h) (Or.inl ⟨by kernel_rfl,fun wq hq => by first | (go_simp;done) | (go_simp;omega)⟩) hS2 (by kernel_rfl) ?_
 refine held_take (i:=11) (v:=.string (s ++ ⟨#[32,119,105,110,100,111,119,32]⟩ ++ decB q.size ++ ⟨#[32,115,108,105,100,101,32]⟩ ++ decB q.slide ++ ⟨#[32,100,101,108,97,121,32]⟩)) (L:=#[true,true,true,true,true,true,true,true,true,true,true,true,true,true,false,false,false,true,true,false,false,false]) rfl (by kernel_rfl) (by kernel_rfl) (by kernel_rfl) (fun c a w h => HPN.out c _ _ _ _ h) (Or.inl ⟨by kernel_rfl,fun wq hq => by first | (go_simp;done) | (go_simp;omega)⟩) hS2 (by kernel_rfl) ?_
 refine held_go (i:=14) (L:=#[true,true,true,true,true,true,true,true,true,true,true,true,true,true,true,false,false,true,true,false,false,false]) (by kernel_rfl) rfl (by kernel_rfl) (by kernel_rfl) ?_
 intro K' hK
 go_simp
 refine (dec2_any q.delay _ (by omega) (by omega)).mono ?_
 rintro e w3 ⟨rfl,hb3⟩
 have hS3:=hS2.trans (hb3.mono hS2.size)
 refine hK _ _ ⟨hS3,?_⟩
 clear hK hb3
 refine held_take (i:=15) (v:=.string (s ++ ⟨#[32,119,105,110,100,111,119,32]⟩ ++ decB q.size ++ ⟨#[32,115,108,105,100,101,32]⟩ ++ decB q.slide ++ ⟨#[32,100,101,108,97,121,32]⟩ ++ decB q.delay)) (L:=#[true,true,true,true,true,true,true,true,true,true,true,true,true,true,true,true,false,true,true,false,false,false]) rfl (by kernel_rfl) (by kernel_rfl) (by kernel_rfl) (fun c a w h => HPN.out c _ _ _ _ h) (Or.inl ⟨by kernel_rfl,fun wq hq => by first | (go_simp;done) | (go_simp;omega)⟩) hS3 (by kernel_rfl) ?_
 refine held_take (i:=16) (v:=.string (s ++ ⟨#[32,119,105,110,100,111,119,32]⟩ ++ decB q.size ++ ⟨#[32,115,108,105,100,101,32]⟩ ++ decB q.slide ++ ⟨#[32,100,101,108,97,121,32]⟩ ++ decB q.delay ++ ⟨#[32,108,97,116,101,32]⟩)) (L:=#[true,true,true,true,true,true,true,true,true,true,true,true,true,true,true,true,true,true,true,false,false,false]) rfl (by kernel_rfl) (by kernel_rfl) (by kernel_rfl) (fun c a w h => HPN.out c _ _ _ _ h) (Or.inl ⟨by kernel_rfl,fun wq hq => by first | (go_simp;done) | (go_simp;omega)⟩) hS3 (by kernel_rfl) ?_
 refine held_go (i:=19) (L:=#[true,true,true,true,true,true,true,true,true,true,true,true,true,true,true,true,true,true,true,true,false,false]) (by kernel_rfl) rfl (by kernel_rfl) (by kernel_rfl) ?_
 intro K' hK
 go_simp
 refine (dec2_any q.late _ (by omega) (by omega)).mono ?_
 rintro e w4 ⟨rfl,hb4⟩
 have hS4:=hS3.trans (hb4.mono hS3.size)
 refine hK _ _ ⟨hS4,?_⟩
 clear hK hb4
 refine held_take (i:=20) (v:=.string (s ++ ⟨#[32,119,105,110,100,111,119,32]⟩ ++ decB q.size ++ ⟨#[32,115,108,105,100,101,32]⟩ ++ decB q.slide ++ ⟨#[32,100,101,108,97,121,32]⟩ ++ decB q.delay ++ ⟨#[32,108,97,116,101,32]⟩ ++ decB q.late)) (L:=#[true,true,true,true,true,true,true,true,true,true,true,true,true,true,true,true,true,true,true,true,true,false]) rfl (by kernel_rfl) (by kernel_rfl) (by kernel_rfl) (fun c a w h => HPN.out c _ _ _ _ h) (Or.inl ⟨by kernel_rfl,fun wq hq => by first | (go_simp;done) | (go_simp;omega)⟩) hS4 (by kernel_rfl) ?_
 refine held_go (i:=21) (L:=#[true,true,true,true,true,true,true,true,true,true,true,true,true,true,true,true,true,true,true,true,true,true]) (by kernel_rfl) rfl (by kernel_rfl) (by kernel_rfl) ?_
 intro K' hK
 go_simp
 refine hK _ _ ⟨hS4,?_⟩
 clear hK
 refine wpAnyH_done (by kernel_rfl) ?_ _
 refine then_normal (hK2 _ _ ?_)
 go_wp2_with fail
 exact HR.out _ (HB.out.trans (hS4.mono HB.out.size))
theorem uStart (Q : Exit → Act → World → Prop) (L X : Code) (C0 : Code) (h0 : rgn 0 (Tryz.f11.body.getD .skip) = some C0) (C1 : Code) (h1 : rgn 1 (Tryz.f11.body.getD .skip) = some C1) (C2 : Code) (h2 : rgn 2 (Tryz.f11.body.getD .skip) = some C2) (C3 : Code) (h3 : rgn 3 (Tryz.f11.body.getD .skip) = some C3) (t : List Value) (a1 a2 a3 : Option Addr) (n1 n2 n3 c1 c2 c3 : Nat) (q : Qy) (ps : List (AgQ × Value)) (W : World) (ht : t.length = 107) (k0 : t[0]? = some (.agg #[.slice a1 n1 c1,.slice a2 n2 c2,.slice a3 n3 c3,.int .i64 q.size,.int .i64 q.slide,.int .i64 q.delay,.int .i64 q.late]))
  (h : QyG W (.slice a1 n1 c1) (.slice a2 n2 c2) (.slice a3 n3 c3) q ps)
  (hQ : ∀ (t' : List Value)  (w' : World),t'.length = 107 → t'[1]? = some (.pointer (some ⟨W.heap.size,0,none⟩)) → t'[3]? = some (.slice (some ⟨W.heap.size + 1,0,none⟩) 6 6) → t'[4]? = some (.string ⟨#[115,101,108,101,99,116,32]⟩) → t'[5]? = some (.int .i64 0) → FT W w' W.heap.size (W.heap.size + 1) (.slice a1 n1 c1) (.slice a2 n2 c2) (.slice a3 n3 c3) q ps → Code.wp Tryz.prog L (Exit.then (Code.wp Tryz.prog X Q) Q) { tmps:=t'.toArray,defers:=[] } w') :
  Code.wp Tryz.prog (.seq C0 (.seq C1 (.seq C2 (.seq (.seq C3 L) X)))) Q { tmps:=t.toArray,defers:=[] } W:=by
 have HQ:=hidE hQ
 have b1:=below_alloc W (.cells [.slice a1 n1 c1,.slice a2 n2 c2,.slice a3 n3 c3,.int .i64 q.size,.int .i64 q.slide,.int .i64 q.delay,.int .i64 q.late].toArray 25)
 have z1 : (W.alloc (.cells [.slice a1 n1 c1,.slice a2 n2 c2,.slice a3 n3 c3,.int .i64 q.size,.int .i64 q.slide,.int .i64 q.delay,.int .i64 q.late].toArray 25)).heap.size = W.heap.size + 1:=by simp
 have b2:=below_alloc (W.alloc (.cells [.slice a1 n1 c1,.slice a2 n2 c2,.slice a3 n3 c3,.int .i64 q.size,.int .i64 q.slide,.int .i64 q.delay,.int .i64 q.late].toArray 25)) (.cells [.string ⟨#[]⟩,.string ⟨#[99,111,117,110,116]⟩,.string ⟨#[99,111,117,110,116]⟩,.string ⟨#[115,117,109]⟩,.string ⟨#[109,105,110]⟩,.string ⟨#[109,97,120]⟩].toArray 9)
 have BB:=b1.trans (b2.mono b1.size)
 have BN:=blk_alloc (W.alloc (.cells [.slice a1 n1 c1,.slice a2 n2 c2,.slice a3 n3 c3,.int .i64 q.size,.int .i64 q.slide,.int .i64 q.delay,.int .i64 q.late].toArray 25)) [.string ⟨#[]⟩,.string ⟨#[99,111,117,110,116]⟩,.string ⟨#[99,111,117,110,116]⟩,.string ⟨#[115,117,109]⟩,.string ⟨#[109,105,110]⟩,.string ⟨#[109,97,120]⟩] 9
 rw [z1] at BN
 have FS : Hid (FT W _ W.heap.size (W.heap.size + 1) (.slice a1 n1 c1) (.slice a2 n2 c2) (.slice a3 n3 c3) q ps):=⟨BB,blk_below (blk_alloc W [.slice a1 n1 c1,.slice a2 n2 c2,.slice a3 n3 c3,.int .i64 q.size,.int .i64 q.slide,.int .i64 q.delay,.int .i64 q.late] 25) b2 (by omega),BN,qyG_below h BB⟩
 clear hQ h b1 b2 z1 BB BN
 obtain ⟨f,hf,hi⟩:=listedT t ht
 have e0:=some_at (hi 0 (by decide)) k0
 rw [e0] at hf
 clear hi ht k0 e0
 subst hf
 unfold Tryz.f11 at h0
 simp [rgn] at h0
 subst h0
 unfold Tryz.f11 at h1
 simp [rgn] at h1
 subst h1
 unfold Tryz.f11 at h2
 simp [rgn] at h2
 subst h2
 unfold Tryz.f11 at h3
 simp [rgn] at h3
 subst h3
 go_wp2_with fail
 rename_i K2 hK2
 exact wp_then (HQ.out _ _ rfl rfl rfl rfl rfl FS.out) hK2
theorem uInc (Q : Exit → Act → World → Prop) (C5 : Code) (h5 : rgn 5 (Tryz.f11.body.getD .skip) = some C5) (t : List Value) (j : Nat) (gz gn : Nat) (s : ByteArray) (va vw vb : Value) (q : Qy) (ps : List (AgQ × Value)) (W w : World) (hj : j ≤ 4) (ht : t.length = 107) (k1 : t[1]? = some (.pointer (some ⟨gz,0,none⟩))) (k3 : t[3]? = some (.slice (some ⟨gn,0,none⟩) 6 6)) (k4 : t[4]? = some (.string s)) (k5 : t[5]? = some (.int .i64 (j : Int)))
  (h : FT W w gz gn va vw vb q ps)
  (hQ : ∀ (t' : List Value)  (w' : World),t'.length = 107 → t'[1]? = some (.pointer (some ⟨gz,0,none⟩)) → t'[3]? = some (.slice (some ⟨gn,0,none⟩) 6 6) → t'[4]? = some (.string s) → t'[5]? = some (.int .i64 ((j : Int) + 1)) → FT W w' gz gn va vw vb q ps → Q .normal { tmps:=t'.toArray,defers:=[] } w') :
  Code.wp Tryz.prog C5 Q { tmps:=t.toArray,defers:=[] } w:=by
 have HQ:=hidE hQ
 have H:=hidE h
 clear hQ h
 obtain ⟨f,hf,hi⟩:=listedT t ht
 have e1:=some_at (hi 1 (by decide)) k1
 have e3:=some_at (hi 3 (by decide)) k3
 have e4:=some_at (hi 4 (by decide)) k4
 have e5:=some_at (hi 5 (by decide)) k5
 rw [e1,e3,e4,e5] at hf
 clear hi ht k1 e1 k3 e3 k4 e4 k5 e5
 subst hf
 unfold Tryz.f11 at h5
 simp [rgn] at h5
 subst h5
 go_wp2_with fail
 exact HQ.out _ _ rfl rfl rfl rfl rfl H.out
theorem uHead (Q : Exit → Act → World → Prop) (C4 : Code) (h4 : rgn 4 (Tryz.f11.body.getD .skip) = some C4) (t : List Value) (j : Nat) (gz gn : Nat) (s : ByteArray) (va vw vb : Value) (q : Qy) (ps : List (AgQ × Value)) (W w : World) (ht : t.length = 107) (k1 : t[1]? = some (.pointer (some ⟨gz,0,none⟩))) (k3 : t[3]? = some (.slice (some ⟨gn,0,none⟩) 6 6)) (k4 : t[4]? = some (.string s)) (k5 : t[5]? = some (.int .i64 (j : Int))) (h : FT W w gz gn va vw vb q ps) (hj4 : ps.length ≤ 4) (hj : j ≤ 4)
  (hF : ¬ j < ps.length → ∀ (t' : List Value),t'.length = 107 → t'[1]? = some (.pointer (some ⟨gz,0,none⟩)) → t'[3]? = some (.slice (some ⟨gn,0,none⟩) 6 6) → t'[4]? = some (.string s) → t'[5]? = some (.int .i64 (j : Int)) → Q (.exit 0) { tmps:=t'.toArray,defers:=[] } w)
  (hT : j < ps.length → ∀ (t' : List Value),t'.length = 107 → t'[1]? = some (.pointer (some ⟨gz,0,none⟩)) → t'[3]? = some (.slice (some ⟨gn,0,none⟩) 6 6) → t'[4]? = some (.string s) → t'[5]? = some (.int .i64 (j : Int)) → Q .normal { tmps:=t'.toArray,defers:=[] } w) :
  Code.wp Tryz.prog (.seq C4 (.cond (.tmp 12) .skip (.exit 0))) Q { tmps:=t.toArray,defers:=[] } w:=by
 have H:=hidE h
 clear h
 obtain ⟨ao,cap,rfl⟩:=rowG_shape H.out.qg.ag.row
 obtain ⟨a2,c2,rfl⟩:=rowG_shape H.out.qg.wh
 obtain ⟨a3,c3,rfl⟩:=rowG_shape H.out.qg.by_
 have z0:=H.out.bz.c 0 (by simp)
 have z1:=H.out.bz.c 1 (by simp)
 have z2:=H.out.bz.c 2 (by simp)
 have z3:=H.out.bz.c 3 (by simp)
 have z4:=H.out.bz.c 4 (by simp)
 have z5:=H.out.bz.c 5 (by simp)
 have z6:=H.out.bz.c 6 (by simp)
 simp only [List.getElem?_cons_zero,List.getElem?_cons_succ] at z0 z1 z2 z3 z4 z5 z6
 obtain ⟨f,hf,hi⟩:=listedT t ht
 have e1:=some_at (hi 1 (by decide)) k1
 have e3:=some_at (hi 3 (by decide)) k3
 have e4:=some_at (hi 4 (by decide)) k4
 have e5:=some_at (hi 5 (by decide)) k5
 rw [e1,e3,e4,e5] at hf
 clear hi ht k1 e1 k3 e3 k4 e4 k5 e5
 subst hf
 unfold Tryz.f11 at h4
 simp [rgn] at h4
 subst h4
 by_cases hlt : j < ps.length
 ·have HT:=hidE (hT hlt)
  have q1:=lt_tT (a:=(j : Int)) (b:=(ps.length : Int)) (by omega)
  clear hF hT
  go_wp2_with fail
  exact HT.out _ rfl rfl rfl rfl rfl
 ·have HF:=hidE (hF hlt)
  have q1:=lt_fT (a:=(j : Int)) (b:=(ps.length : Int)) (by omega)
  clear hF hT
  go_wp2_with fail
  exact HF.out _ rfl rfl rfl rfl rfl
theorem tmp_atT {t : List Value} {i : Nat} {v : Value} (h : t[i]? = some v) : ((t.toArray : Array Value).getD i undef) = v:=by
 simp [Array.getD_eq_getD_getElem?,h]
theorem uLoop (Q : Exit → Act → World → Prop) (C4 : Code) (h4 : stm 4 (Tryz.f11.body.getD .skip) = some C4) (t : List Value) (gz gn : Nat) (va vw vb : Value) (q : Qy) (ps : List (AgQ × Value)) (W w : World) (ok : OkQ q) (ht : t.length = 107) (k1 : t[1]? = some (.pointer (some ⟨gz,0,none⟩))) (k3 : t[3]? = some (.slice (some ⟨gn,0,none⟩) 6 6)) (k4 : t[4]? = some (.string ⟨#[115,101,108,101,99,116,32]⟩)) (k5 : t[5]? = some (.int .i64 0))
  (h : FT W w gz gn va vw vb q ps)
  (hpan : ∀ c (a : Act) o v w,Q (.panic c) (a.put o v) w → Q (.panic c) a w)
  (hQ : ∀ (t' : List Value)  (w' : World),t'.length = 107 → t'[1]? = some (.pointer (some ⟨gz,0,none⟩)) → t'[3]? = some (.slice (some ⟨gn,0,none⟩) 6 6) → t'[4]? = some (.string (accT q.aggs q.aggs.length)) → FT W w' gz gn va vw vb q ps ∧ (accT q.aggs q.aggs.length).size ≤ 100000000000000 → Q .normal { tmps:=t'.toArray,defers:=[] } w') :
  Code.wp Tryz.prog C4 Q { tmps:=t.toArray,defers:=[] } w:=by
 have HQ:=hidE hQ
 have HPN:=hidE hpan
 clear hQ hpan
 unfold Tryz.f11 at h4
 simp [stm,lead] at h4
 subst h4
 have hlen : q.aggs.length = ps.length:=by rw [← h.qg.qa];simp
 have h4:=ok.n4
 refine wp_block (wp_loop (fun a wr => ∃ (t : List Value) (j : Nat),a = { tmps:=t.toArray,defers:=[] } ∧ t.length = 107 ∧ t[1]? = some (.pointer (some ⟨gz,0,none⟩)) ∧ t[3]? = some (.slice (some ⟨gn,0,none⟩) 6 6) ∧ t[4]? = some (.string (accT q.aggs j)) ∧ t[5]? = some (.int .i64 (j : Int)) ∧ j ≤ ps.length ∧ FT W wr gz gn va vw vb q ps ∧ (accT q.aggs j).size ≤ 7 + j * 20400000000040) (fun a wr => 9 - (intOf (a.tmps.getD 5 undef)).toNat) ?_ ?_)
 ·exact ⟨t,0,rfl,ht,k1,k3,by rw [accT_0];exact k4,by simpa using k5,Nat.zero_le _,h,by rw [accT_0];decide⟩
 ·rintro a wr ⟨t,j,rfl,ht,k1,k3,k4,k5,hj,hq,hsz⟩
  have hs9 : (accT q.aggs j).size ≤ 1000000000000000:=by
   have : j * 20400000000040 ≤ 4 * 20400000000040:=Nat.mul_le_mul_right _ (by omega)
   omega
  refine wp_seq (uHead _ _ (by kernel_rfl) t j gz gn _ va vw vb q ps W wr ht k1 k3 k4 k5 hq (by omega) (by omega) ?_ ?_)
  ·intro hge t' ht' a1 a3 a4 a5
   have e : j = q.aggs.length:=by omega
   subst e
   refine then_exit (then_exit (in_exit (HQ.out t' wr ht' a1 a3 a4 ⟨hq,?_⟩)))
   have : q.aggs.length * 20400000000040 ≤ 4 * 20400000000040:=Nat.mul_le_mul_right _ (by omega)
   omega
  ·intro hlt t1 ht1 a1 a3 a4 a5
   have hqa : q.aggs[j]? = some ps[j].1:=by rw [← hq.qg.qa];simp [hlt]
   have hck:=ok.ag ps[j].1 (List.mem_of_getElem? hqa)
   obtain ⟨⟨⟨k,l⟩,v⟩,hp⟩ : ∃ p,ps[j] = p:=⟨_,rfl⟩
   rw [hp] at hqa hck
   have hck : chkA ⟨k,l⟩ = 0:=hck
   have hqa : q.aggs[j]? = some ⟨k,l⟩:=hqa
   have hos:=ofB_size hck
   have hkk:=chkA_kind hck
   have hnm:=nmB_size k
   refine then_normal (wp_seq (wp_block ?_))
   refine uSep _ _ _ (by kernel_rfl) _ (by kernel_rfl) t1 j gz gn _ va vw vb q ps W wr hs9 (by omega) ht1 a1 a3 a4 a5 hq ?_
   intro t2 w2 ht2 b1 b3 b4 b5 h2
   obtain ⟨s2,hs2⟩ : ∃ s2,(if 0 < j then accT q.aggs j ++ ⟨#[44,32]⟩ else accT q.aggs j) = s2:=⟨_,rfl⟩
   rw [hs2] at b4
   have hz2 : s2.size ≤ (accT q.aggs j).size + 2:=by
    rw [← hs2]
    by_cases h0 : 0 < j
    ·rw [if_pos h0,ByteArray.size_append];exact Nat.le_refl _
    ·rw [if_neg h0];omega
   refine uOf _ _ _ (by kernel_rfl) _ (by kernel_rfl) _ (by kernel_rfl) t2 j gz gn _ va vw vb q ps W w2 hlt k l v hp (by omega) hck ht2 b1 b3 b4 b5 h2 (pan_block (pan_then (fun c a o v w h => HPN.out c a o v w h))) ?_
   intro t3 w3 ht3 c1 c3 c4 c5 c6 h3
   refine uAdd _ _ (by kernel_rfl) t3 j gz gn _ va vw vb q ps W w3 hlt k l v hp (by omega) _ ⟨hkk.1,hkk.2.1⟩ (by omega) hos ht3 c1 c3 c4 c5 c6 h3 ?_
   intro t4 w4 ht4 d1 d3 d4 d5 h4'
   refine in_normal (then_normal ?_)
   refine uInc _ _ (by kernel_rfl) t4 j gz gn _ va vw vb q ps W w4 (by omega) ht4 d1 d3 d4 d5 h4' ?_
   intro t5 w5 ht5 e1 e3 e4 e5 h5
   have hag : agB ⟨k,l⟩ = nmB k ++ ⟨#[40]⟩ ++ ofB ⟨k,l⟩ ++ ⟨#[41]⟩:=ag_of ⟨k,l⟩
   have hst : s2 ++ nmB k ++ ⟨#[40]⟩ ++ ofB ⟨k,l⟩ ++ ⟨#[41]⟩ = accT q.aggs (j + 1):=by
    by_cases h0 : 0 < j
    ·rw [accT_n q.aggs j ⟨k,l⟩ h0 hqa,hag,← hs2,if_pos h0]
     simp only [ByteArray.append_assoc]
    ·have e0 : j = 0:=by omega
     subst e0
     rw [accT_1 q.aggs ⟨k,l⟩ hqa,hag,← hs2,if_neg h0]
     simp only [ByteArray.append_assoc]
   have hz3 : (accT q.aggs (j + 1)).size ≤ 7 + (j + 1) * 20400000000040:=by
    rw [← hst]
    simp only [ByteArray.size_append]
    have z1 : (⟨#[40]⟩ : ByteArray).size = 1:=rfl
    have z2 : (⟨#[41]⟩ : ByteArray).size = 1:=rfl
    rw [Nat.add_mul]
    omega
   rw [hst] at e4
   refine ⟨⟨t5,j + 1,rfl,ht5,e1,e3,e4,by simpa using e5,by omega,h5,hz3⟩,?_⟩
   show 9 - (intOf ((t5.toArray : Array Value).getD 5 undef)).toNat < 9 - (intOf ((t.toArray : Array Value).getD 5 undef)).toNat
   rw [tmp_atT k5,tmp_atT e5]
   simp only [intOf]
   omega
theorem dqtext_any (va vw vb : Value) (q : Qy) (ps : List (AgQ × Value)) (W : World) (h : QyG W va vw vb q ps) (hc : chkQ q = 0) :
  Calls Tryz.prog 11 #[qyV va vw vb q] W fun e w' => e = .returned (.string (qyB q)) ∧ Below W.heap.size W w':=by
 have hsa : ∃ a n c,va = .slice a n c:=by obtain ⟨a,c,e⟩:=rowG_shape h.ag.row;exact ⟨_,_,_,e⟩
 have hsw : ∃ a n c,vw = .slice a n c:=by obtain ⟨a,c,e⟩:=rowG_shape h.wh;exact ⟨_,_,_,e⟩
 have hsb : ∃ a n c,vb = .slice a n c:=by obtain ⟨a,c,e⟩:=rowG_shape h.by_;exact ⟨_,_,_,e⟩
 obtain ⟨a1,n1,c1,rfl⟩:=hsa
 obtain ⟨a2,n2,c2,rfl⟩:=hsw
 obtain ⟨a3,n3,c3,rfl⟩:=hsb
 have ok:=okQ_of hc
 unfold qyV
 go_enter Tryz.func11,Tryz.ntmps11
 refine uStart _ _ _ _ (by kernel_rfl) _ (by kernel_rfl) _ (by kernel_rfl) _ (by kernel_rfl) _ a1 a2 a3 n1 n2 n3 c1 c2 c3 q ps W rfl rfl h ?_
 intro t1 w1 ht1 k1 k3 k4 k5 h1
 refine uLoop _ _ (by kernel_rfl) t1 _ _ _ _ _ q ps W w1 ok ht1 k1 k3 k4 k5 h1 (pan_then pan_body) ?_
 intro t2 w2 ht2 a1' a3' a4' ⟨h2,hz2⟩
 refine then_normal ?_
 refine wp_seq (uFrom _ _ (by kernel_rfl) t2 _ _ _ _ _ _ q ps W w2 (by omega) ht2 a1' a3' a4' h2 ?_)
 intro t3 w3 ht3 b1 b3 b4 h3
 refine then_normal ?_
 have e1 : (⟨#[32,102,114,111,109,32,101,118,101,110,116,115]⟩ : ByteArray).size = 12:=rfl
 refine uWhere _ _ _ (by kernel_rfl) _ (by kernel_rfl) t3 _ _ _ _ _ _ q ps W w3 (by rw [ByteArray.size_append];omega) ok.wh ht3 b1 b3 b4 h3 ?_
 intro t4 w4 ht4 d1 d3 d4 h4
 have z4 : (partB ⟨#[32,119,104,101,114,101,32]⟩ (accT q.aggs q.aggs.length ++ ⟨#[32,102,114,111,109,32,101,118,101,110,116,115]⟩) q.wh).size ≤ 200000000000000:=by
  unfold partB
  by_cases h0 : q.wh.length = 0
  ·rw [if_pos h0,ByteArray.size_append];omega
  ·rw [if_neg h0]
   have e2 : (⟨#[32,119,104,101,114,101,32]⟩ : ByteArray).size = 7:=rfl
   have:=txL_max (ok.wh (by omega))
   simp only [ByteArray.size_append]
   omega
 refine uBy _ _ _ (by kernel_rfl) _ (by kernel_rfl) t4 _ _ _ _ _ _ q ps W w4 (by omega) ok.by_ ht4 d1 d3 d4 h4 ?_
 intro t5 w5 ht5 f1 f3 f4 h5
 refine uTail _ _ (by kernel_rfl) t5 _ _ _ _ _ _ q ps W w5 ok ?_ ht5 f1 f3 f4 h5 ?_
 ·unfold partB
  by_cases h0 : q.bys.length = 0
  ·rw [if_pos h0]
   unfold partB at z4
   omega
  ·rw [if_neg h0]
   have e2 : (⟨#[32,103,114,111,117,112,32,98,121,32]⟩ : ByteArray).size = 10:=rfl
   have:=txL_max (ok.by_ (by omega))
   unfold partB at z4
   simp only [ByteArray.size_append]
   omega
 ·intro w' hb
  refine ⟨?_,hb⟩
  unfold qyB accT
  rw [List.take_length]
end Go.Proofs.YteaanpdckkmjoaaGreatDoor
