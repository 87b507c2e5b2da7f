/- The contract of penstockref.ExprFault, over this seat's translation. Conditions: the slice holds the nodes. -/
import Derived.Test.YteaanpdckkmjoaaGreatDoorChkRJ
import Derived.Test.YteaanpdckkmjoaaGreatDoorNumPureJ
import Derived.Test.YteaanpdckkmjoaaGreatDoorRqCJ
import Derived.Deep.DeepCutAuto
set_option linter.unusedVariables false
set_option linter.unusedSimpArgs false
set_option maxRecDepth 100000
set_option maxHeartbeats 8000000
namespace Go.Proofs.YteaanpdckkmjoaaGreatDoor
open Go.ChangeShapes Go.WideShapes Go.ChangeAt Go.RowKit
theorem open_pre {w : World} {base : Nat} {e : TypeId} {g n cap : Nat} {st rs ts : List Nat} (h : w.ownsRow base e 1 (.slice (some ⟨g,0,none⟩) n cap) n (st.reverse.map natV)) (hg : (Value.slice (some ⟨g,0,none⟩) n cap).ownBlock = some g) (hs : st = ts ++ rs) :
  ∀ j u,(rs.reverse.map natV)[j]? = some u → w.cell? ((⟨g,0,none⟩ : Addr).add j) = some u:=by
 intro j u hu
 refine h.cells hg j u ?_
 subst hs
 have hj:=(List.getElem?_eq_some_iff.1 hu).1
 rw [List.reverse_append,List.map_append,List.getElem?_append_left hj]
 exact hu
theorem own_form {w : World} {base : Nat} {e : TypeId} {ao : Option Addr} {n cap : Nat} {xs : List Value} (h : w.ownsRow base e 1 (.slice ao n cap) n xs) (hn : 0 < n) : ∃ g,ao = some ⟨g,0,none⟩ ∧ n ≤ cap ∧ cap ≤ 2 ^ 63 - 1:=by
 rcases h.2 with ⟨-,h0⟩ | ⟨g,c,cur,e1,-,-,h3,h4,-⟩
 ·omega
 ·simp only [Value.slice.injEq] at e1
  obtain ⟨e1,-,rfl⟩:=e1
  exact ⟨g,e1,h3,h4⟩
theorem vokB_is2 (k n : Int) : vokB k n = vok k n:=rfl
theorem nxtF {W0 wx wy : World} {o : Obj} (h : Hid (Below W0.heap.size W0 wx)) (hb : Below (wx.alloc o).heap.size (wx.alloc o) wy) : Hid (Below W0.heap.size W0 wy):=nxt (nxta h o) hb
theorem fault_few (l : List Nd) (v : Value) (w : World) (hl : l.length ≤ 40) (hr : RowG w v 6 l.length (rowN l)) :
  Calls Tryz.prog 39 #[v] w fun e w' => e = .returned (.int .i64 (fltE l)) ∧ Below w.heap.size w w':=by
 obtain ⟨ao,cap,rfl⟩:=rowG_shape hr
 obtain ⟨i0,hi,hz0,hz1,hz2⟩:=info_parts infoI
 have HR:=hidE hr
 clear hr
 have hT : fltE l = if (fltF 0 l []).1 ≠ 0 then (fltF 0 l []).1 else if (fltF 0 l []).2.length ≠ 1 then 3 else 0:=by unfold fltE;rw [if_neg (by omega)]
 rw [hT]
 clear hT
 generalize hF : fltF 0 l [] = T
 have HF:=hidE hF
 clear hF
 generalize hX : (if T.1 ≠ 0 then T.1 else if T.2.length ≠ 1 then 3 else 0) = X
 have HX:=hidE hX
 clear hX
 go_enter Tryz.func39,Tryz.ntmps39
 go_wp2_with fail
 go_loopw [3,4] (fun v i wr => ∃ (m : Nat) (st : List Nat),m ≤ l.length ∧ i = .int .i64 m ∧ st.length ≤ m ∧ (st.length = 0 → v = .slice none 0 0) ∧ Hid (wr.ownsRow w.heap.size 3 1 v st.length (st.reverse.map natV)) ∧ Hid (Below w.heap.size w wr) ∧ Hid (fltF m (l.drop m) st = T)) (fun _ i _ => l.length - (intOf i).toNat)
 case atStart => exact ⟨0,[],Nat.zero_le _,rfl,Nat.le_refl _,fun _ => rfl,World.ownsRow_nil _ _ _ _,Below.refl _ _,HF⟩
 case round =>
  clear HF
  obtain ⟨m,st,hm,rfl,hst,hnil,HO,HB,HS⟩:=hrel
  obtain ⟨ao2,cap2,rfl⟩:=owns_shapeE HO.out
  by_cases hlt : m < l.length
  ·obtain ⟨g,off,rfl,hnode,l1,l2,l3⟩:=rowN_node HR.out _ hlt
   have hS:=HS.out
   rw [List.drop_eq_getElem_cons hlt] at hS
   generalize l[m] = nd at *
   obtain ⟨n0,n1,n2,n3,n4,n5⟩:=nodeAt_below hnode HB.out l3
   clear hnode
   unfold maxLen at l2
   unfold fltF at hS
   obtain ⟨op,x,y,nn,k,nv⟩:=nd
   simp only at n0 n1 n2 n3 n4 n5
   have HA:=hidE (fun w => rarity_any op w)
   by_cases hok : okN ⟨op,x,y,nn,k,nv⟩ = 0
   ·rw [if_neg (by simpa using hok)] at hS
    obtain ⟨a0,q1,q2,q3,q4,q5,q6⟩:=okN_parts hok
    have hvk : vok k nv = true:=okN_val hok
    simp only at a0 q1 q2 q3 q4 q5 q6
    clear hok HS
    rcases ar_op a0 with rfl | rfl | rfl | rfl | rfl | ⟨h6,h2⟩
    case inl =>
     obtain rfl:=q2 (by decide)
     obtain rfl:=q3 (by decide)
     obtain rfl:=q4 (by decide)
     have ha : ar 1 = 0:=by decide
     simp only [ha,if_true] at hS
     have HS2:=hidE hS
     clear a0 q1 q2 q3 q4 q5 q6 HA hS
     cases st with
     | nil =>
      have hv0:=hnil rfl
      simp only [List.length_nil,Value.slice.injEq,true_and] at hv0
      obtain ⟨rfl,rfl⟩:=hv0
      simp only [List.length_nil] at *
      have hb0 : Below w.heap.size w (wr.alloc (.cells #[.int .i64 1,.int .i64 0,.int .i64 0,.int .i64 0,.int .i64 k,.int .i64 nv] 91)):=(nxta HB (.cells #[.int .i64 1,.int .i64 0,.int .i64 0,.int .i64 0,.int .i64 k,.int .i64 nv] 91)).out
      obtain ⟨hc,hf⟩:=rules (nxta HB (.cells #[.int .i64 1,.int .i64 0,.int .i64 0,.int .i64 0,.int .i64 k,.int .i64 nv] 91))
      go_wp2_with (first | (go_at_call 63;refine (rarity_any _ _).mono ?_;rintro e w' ⟨rfl,hw⟩;subst w') | (go_at_call 64;refine (fault_yes _ _ _ hvk).mono ?_;rintro e wf ⟨rfl,hb⟩;have HBn:=hidE hb;clear hb))
      have HBf:=nxtF HB HBn.out
      have HOf:=hidE (own_keep (HO.out.alloc _) HBn.out (Nat.le_refl _))
      obtain ⟨hcn,hfn⟩:=bcell HBn.out
      have kn:=kin_some wf
      obtain ⟨kc,kf⟩:=kin_rules wf
      have HBw : Hid (Below wf.heap.size wf wf):=Below.refl _ _
      refine wp_region_kin HBw (by kernel_rfl) (by kernel_rfl) ?_
      repeat (go_big_quiet_step (fail))
      refine wpQuiet_nil ?_
      rintro _ ⟨pk,rfl⟩
      have HBp:=nxt HBf pk.h
      have HOp:=hidE (own_keep HOf.out pk.h (Nat.le_refl _))
      generalize pk.w = wp at *
      clear kc kf kn HBw pk HBf HOf HBn hcn hfn hc hf hb0
      have HB4:=HBp
      have HO5 : Hid (wp.ownsRow w.heap.size 3 1 (.slice none 0 0) 0 []):=World.ownsRow_nil _ _ _ _
      go_wp2_with (at_builtin;(refine wpList_append_own _ rfl (.tmp 117) (.tmp 119) 71 rfl w.heap.size 3 i0 (.int .i64 0) 1 8 Tryz.underlying71 hi hz0 hz1 hz2 rfl (by decide) _ _ _ rfl (HO5.out.alloc _) ⟨wp.heap.size,0,none⟩ 1 1 [.int .i64 (m : Int)] rfl rfl (cell_one_newE _ _ _) (by intro u hu;simp at hu;subst hu;rfl) (by show _ ≤ 2 ^ 63 - 1;omega) (by omega) (by have:=HB4.out.size;simp;omega) ?_))
      intro v2 w6 ho6 hg6 hnil6
      have HB6 : Hid (Below w.heap.size w w6):=(HB4.out.alloc HB4.out.size _).grown hg6 (by have:=HB4.out.size;simp;omega) (fun k hk => (HO5.out.lt k hk).1)
      have ho7 : w6.ownsRow w.heap.size 3 1 v2 (m :: ([] : List Nat)).length ((m :: ([] : List Nat)).reverse.map natV):=by simpa [natV] using ho6
      have HO7:=hidE ho7
      clear ho6 hg6 hnil6 ho7
      go_wp2_with fail
      go_roundw
      case rel => exact ⟨m + 1,m :: ([] : List Nat),by omega,by go_num,by first | (simp;done) | (simp;omega),fun h => by simp at h,HO7,HB6,HS2⟩
      case measure => simp [intOf];omega
     | cons r rs =>
      simp only [List.length_cons] at hst HO ⊢
      obtain ⟨go,rfl,hcp,hcp2⟩:=own_form HO.out (by omega)
      have hcp3 : rs.length ≤ cap2:=by omega
      have hb0 : Below w.heap.size w (wr.alloc (.cells #[.int .i64 1,.int .i64 0,.int .i64 0,.int .i64 0,.int .i64 k,.int .i64 nv] 91)):=(nxta HB (.cells #[.int .i64 1,.int .i64 0,.int .i64 0,.int .i64 0,.int .i64 k,.int .i64 nv] 91)).out
      obtain ⟨hc,hf⟩:=rules (nxta HB (.cells #[.int .i64 1,.int .i64 0,.int .i64 0,.int .i64 0,.int .i64 k,.int .i64 nv] 91))
      go_wp2_with (first | (go_at_call 63;refine (rarity_any _ _).mono ?_;rintro e w' ⟨rfl,hw⟩;subst w') | (go_at_call 64;refine (fault_yes _ _ _ hvk).mono ?_;rintro e wf ⟨rfl,hb⟩;have HBn:=hidE hb;clear hb))
      have HBf:=nxtF HB HBn.out
      have HOf:=hidE (own_keep (HO.out.alloc _) HBn.out (Nat.le_refl _))
      obtain ⟨hcn,hfn⟩:=bcell HBn.out
      have zn : decide ((rs.length : Int) + 1 < 0) = false:=by simp;omega
      have zn2 : decide (((rs.length + 1 : Nat) : Int) < 0) = false:=by simp;omega
      have kn:=kin_some wf
      obtain ⟨kc,kf⟩:=kin_rules wf
      have HBw : Hid (Below wf.heap.size wf wf):=Below.refl _ _
      refine wp_region_kin HBw (by kernel_rfl) (by kernel_rfl) ?_
      repeat (go_big_quiet_step (fail))
      refine wpQuiet_nil ?_
      rintro _ ⟨pk,rfl⟩
      have HBp:=nxt HBf pk.h
      have HOp:=hidE (own_keep HOf.out pk.h (Nat.le_refl _))
      generalize pk.w = wp at *
      clear kc kf kn HBw pk HBf HOf HBn hcn hfn hc hf hb0
      have hlen9 : (r :: rs).length ≤ 41:=by first | omega | (simp only [List.length_cons];omega)
      go_wp2_with (at_builtin;go_must (refine wpList_append_own _ rfl (.const (.slice none 0 0)) (.tmp 116) 71 rfl w.heap.size 3 i0 (.int .i64 0) 1 8 Tryz.underlying71 hi hz0 hz1 hz2 rfl (by decide) _ 0 [] rfl (World.ownsRow_nil _ _ _ _) ⟨go,0,none⟩ (r :: rs).length cap2 ((r :: rs).reverse.map natV) rfl (by simp) (open_pre HOp.out rfl ((by rfl : r :: rs = [] ++ (r :: rs)))) (by intro u hu;obtain ⟨q,-,rfl⟩:=List.mem_map.1 hu;rfl) (by show _ ≤ 2 ^ 63 - 1;omega) (by omega) (by have:=HBp.out.size;omega) ?_))
      intro v1 w4 ho4 hg4 _
      have HB4 : Hid (Below w.heap.size w w4):=HBp.out.grown hg4 HBp.out.size (fun k hk => by cases hk)
      have ho5 : w4.ownsRow w.heap.size 3 1 v1 (r :: rs).length ((r :: rs).reverse.map natV):=by simpa using ho4
      have HO5:=hidE ho5
      obtain ⟨ao5,cap5,rfl⟩:=owns_shapeE ho5
      clear ho4 hg4 ho5
      go_wp2_with (at_builtin;go_must (refine wpList_append_own _ rfl (.tmp 117) (.tmp 119) 71 rfl w.heap.size 3 i0 (.int .i64 0) 1 8 Tryz.underlying71 hi hz0 hz1 hz2 rfl (by decide) _ _ _ rfl (HO5.out.alloc _) ⟨w4.heap.size,0,none⟩ 1 1 [.int .i64 (m : Int)] rfl rfl (cell_one_newE _ _ _) (by intro u hu;simp at hu;subst hu;rfl) (by show _ ≤ 2 ^ 63 - 1;omega) (by omega) (by have:=HB4.out.size;simp;omega) ?_))
      intro v2 w6 ho6 hg6 hnil6
      have HB6 : Hid (Below w.heap.size w w6):=(HB4.out.alloc HB4.out.size _).grown hg6 (by have:=HB4.out.size;simp;omega) (fun k hk => (HO5.out.lt k hk).1)
      have ho7 : w6.ownsRow w.heap.size 3 1 v2 (m :: (r :: rs)).length ((m :: (r :: rs)).reverse.map natV):=by simpa [natV] using ho6
      have HO7:=hidE ho7
      clear ho6 hg6 hnil6 ho7
      go_wp2_with fail
      go_roundw
      case rel => exact ⟨m + 1,m :: (r :: rs),by omega,by go_num,by first | (simp;done) | (simp;omega),fun h => by simp at h,HO7,HB6,HS2⟩
      case measure => simp [intOf];omega
    case inr.inl =>
     obtain ⟨rfl,rfl⟩:=q1 (by decide)
     obtain rfl:=q3 (by decide)
     obtain rfl:=q4 (by decide)
     have z5 : decide (nn < 0) = false:=by simp;omega
     have z6 : decide (3 < nn) = false:=by simp;omega
     have ha : ar 2 = 0:=by decide
     simp only [ha,if_true] at hS
     have HS2:=hidE hS
     clear a0 q1 q2 q3 q4 q5 q6 HA hS
     cases st with
     | nil =>
      have hv0:=hnil rfl
      simp only [List.length_nil,Value.slice.injEq,true_and] at hv0
      obtain ⟨rfl,rfl⟩:=hv0
      simp only [List.length_nil] at *
      have hb0 : Below w.heap.size w (wr.alloc (.cells #[.int .i64 2,.int .i64 0,.int .i64 0,.int .i64 nn,.int .i64 0,.int .i64 0] 91)):=(nxta HB (.cells #[.int .i64 2,.int .i64 0,.int .i64 0,.int .i64 nn,.int .i64 0,.int .i64 0] 91)).out
      obtain ⟨hc,hf⟩:=rules (nxta HB (.cells #[.int .i64 2,.int .i64 0,.int .i64 0,.int .i64 nn,.int .i64 0,.int .i64 0] 91))
      go_wp2_with (first | (go_at_call 63;refine (rarity_any _ _).mono ?_;rintro e w' ⟨rfl,hw⟩;subst w') | (go_at_call 64;refine (fault_yes _ _ _ hvk).mono ?_;rintro e wf ⟨rfl,hb⟩;have HBn:=hidE hb;clear hb))
      have HBf:=nxtF HB HBn.out
      have HOf:=hidE (own_keep (HO.out.alloc _) HBn.out (Nat.le_refl _))
      obtain ⟨hcn,hfn⟩:=bcell HBn.out
      have kn:=kin_some wf
      obtain ⟨kc,kf⟩:=kin_rules wf
      have HBw : Hid (Below wf.heap.size wf wf):=Below.refl _ _
      refine wp_region_kin HBw (by kernel_rfl) (by kernel_rfl) ?_
      repeat (go_big_quiet_step (fail))
      refine wpQuiet_nil ?_
      rintro _ ⟨pk,rfl⟩
      have HBp:=nxt HBf pk.h
      have HOp:=hidE (own_keep HOf.out pk.h (Nat.le_refl _))
      generalize pk.w = wp at *
      clear kc kf kn HBw pk HBf HOf HBn hcn hfn hc hf hb0
      have HB4:=HBp
      have HO5 : Hid (wp.ownsRow w.heap.size 3 1 (.slice none 0 0) 0 []):=World.ownsRow_nil _ _ _ _
      go_wp2_with (at_builtin;(refine wpList_append_own _ rfl (.tmp 117) (.tmp 119) 71 rfl w.heap.size 3 i0 (.int .i64 0) 1 8 Tryz.underlying71 hi hz0 hz1 hz2 rfl (by decide) _ _ _ rfl (HO5.out.alloc _) ⟨wp.heap.size,0,none⟩ 1 1 [.int .i64 (m : Int)] rfl rfl (cell_one_newE _ _ _) (by intro u hu;simp at hu;subst hu;rfl) (by show _ ≤ 2 ^ 63 - 1;omega) (by omega) (by have:=HB4.out.size;simp;omega) ?_))
      intro v2 w6 ho6 hg6 hnil6
      have HB6 : Hid (Below w.heap.size w w6):=(HB4.out.alloc HB4.out.size _).grown hg6 (by have:=HB4.out.size;simp;omega) (fun k hk => (HO5.out.lt k hk).1)
      have ho7 : w6.ownsRow w.heap.size 3 1 v2 (m :: ([] : List Nat)).length ((m :: ([] : List Nat)).reverse.map natV):=by simpa [natV] using ho6
      have HO7:=hidE ho7
      clear ho6 hg6 hnil6 ho7
      go_wp2_with fail
      go_roundw
      case rel => exact ⟨m + 1,m :: ([] : List Nat),by omega,by go_num,by first | (simp;done) | (simp;omega),fun h => by simp at h,HO7,HB6,HS2⟩
      case measure => simp [intOf];omega
     | cons r rs =>
      simp only [List.length_cons] at hst HO ⊢
      obtain ⟨go,rfl,hcp,hcp2⟩:=own_form HO.out (by omega)
      have hcp3 : rs.length ≤ cap2:=by omega
      have hb0 : Below w.heap.size w (wr.alloc (.cells #[.int .i64 2,.int .i64 0,.int .i64 0,.int .i64 nn,.int .i64 0,.int .i64 0] 91)):=(nxta HB (.cells #[.int .i64 2,.int .i64 0,.int .i64 0,.int .i64 nn,.int .i64 0,.int .i64 0] 91)).out
      obtain ⟨hc,hf⟩:=rules (nxta HB (.cells #[.int .i64 2,.int .i64 0,.int .i64 0,.int .i64 nn,.int .i64 0,.int .i64 0] 91))
      go_wp2_with (first | (go_at_call 63;refine (rarity_any _ _).mono ?_;rintro e w' ⟨rfl,hw⟩;subst w') | (go_at_call 64;refine (fault_yes _ _ _ hvk).mono ?_;rintro e wf ⟨rfl,hb⟩;have HBn:=hidE hb;clear hb))
      have HBf:=nxtF HB HBn.out
      have HOf:=hidE (own_keep (HO.out.alloc _) HBn.out (Nat.le_refl _))
      obtain ⟨hcn,hfn⟩:=bcell HBn.out
      have zn : decide ((rs.length : Int) + 1 < 0) = false:=by simp;omega
      have zn2 : decide (((rs.length + 1 : Nat) : Int) < 0) = false:=by simp;omega
      have kn:=kin_some wf
      obtain ⟨kc,kf⟩:=kin_rules wf
      have HBw : Hid (Below wf.heap.size wf wf):=Below.refl _ _
      refine wp_region_kin HBw (by kernel_rfl) (by kernel_rfl) ?_
      repeat (go_big_quiet_step (fail))
      refine wpQuiet_nil ?_
      rintro _ ⟨pk,rfl⟩
      have HBp:=nxt HBf pk.h
      have HOp:=hidE (own_keep HOf.out pk.h (Nat.le_refl _))
      generalize pk.w = wp at *
      clear kc kf kn HBw pk HBf HOf HBn hcn hfn hc hf hb0
      have hlen9 : (r :: rs).length ≤ 41:=by first | omega | (simp only [List.length_cons];omega)
      go_wp2_with (at_builtin;go_must (refine wpList_append_own _ rfl (.const (.slice none 0 0)) (.tmp 116) 71 rfl w.heap.size 3 i0 (.int .i64 0) 1 8 Tryz.underlying71 hi hz0 hz1 hz2 rfl (by decide) _ 0 [] rfl (World.ownsRow_nil _ _ _ _) ⟨go,0,none⟩ (r :: rs).length cap2 ((r :: rs).reverse.map natV) rfl (by simp) (open_pre HOp.out rfl ((by rfl : r :: rs = [] ++ (r :: rs)))) (by intro u hu;obtain ⟨q,-,rfl⟩:=List.mem_map.1 hu;rfl) (by show _ ≤ 2 ^ 63 - 1;omega) (by omega) (by have:=HBp.out.size;omega) ?_))
      intro v1 w4 ho4 hg4 _
      have HB4 : Hid (Below w.heap.size w w4):=HBp.out.grown hg4 HBp.out.size (fun k hk => by cases hk)
      have ho5 : w4.ownsRow w.heap.size 3 1 v1 (r :: rs).length ((r :: rs).reverse.map natV):=by simpa using ho4
      have HO5:=hidE ho5
      obtain ⟨ao5,cap5,rfl⟩:=owns_shapeE ho5
      clear ho4 hg4 ho5
      go_wp2_with (at_builtin;go_must (refine wpList_append_own _ rfl (.tmp 117) (.tmp 119) 71 rfl w.heap.size 3 i0 (.int .i64 0) 1 8 Tryz.underlying71 hi hz0 hz1 hz2 rfl (by decide) _ _ _ rfl (HO5.out.alloc _) ⟨w4.heap.size,0,none⟩ 1 1 [.int .i64 (m : Int)] rfl rfl (cell_one_newE _ _ _) (by intro u hu;simp at hu;subst hu;rfl) (by show _ ≤ 2 ^ 63 - 1;omega) (by omega) (by have:=HB4.out.size;simp;omega) ?_))
      intro v2 w6 ho6 hg6 hnil6
      have HB6 : Hid (Below w.heap.size w w6):=(HB4.out.alloc HB4.out.size _).grown hg6 (by have:=HB4.out.size;simp;omega) (fun k hk => (HO5.out.lt k hk).1)
      have ho7 : w6.ownsRow w.heap.size 3 1 v2 (m :: (r :: rs)).length ((m :: (r :: rs)).reverse.map natV):=by simpa [natV] using ho6
      have HO7:=hidE ho7
      clear ho6 hg6 hnil6 ho7
      go_wp2_with fail
      go_roundw
      case rel => exact ⟨m + 1,m :: (r :: rs),by omega,by go_num,by first | (simp;done) | (simp;omega),fun h => by simp at h,HO7,HB6,HS2⟩
      case measure => simp [intOf];omega
    case inr.inr.inl =>
     obtain ⟨rfl,rfl⟩:=q1 (by decide)
     obtain rfl:=q2 (by decide)
     obtain rfl:=q3 (by decide)
     have ha : ar 3 = 1:=by decide
     simp only [ha,if_true] at hS
     rw [if_neg (by decide)] at hS
     clear a0 q1 q2 q3 q4 q5 q6 HA
     have wone : IntKind.i64.wrap 1 = 1:=by decide
     cases st with
     | nil =>
      simp only at hS
      subst hS
      have hv0:=hnil rfl
      simp only [List.length_nil,Value.slice.injEq,true_and] at hv0
      obtain ⟨rfl,rfl⟩:=hv0
      simp only [List.length_nil] at *
      have hb0 : Below w.heap.size w (wr.alloc (.cells #[.int .i64 3,.int .i64 x,.int .i64 0,.int .i64 0,.int .i64 0,.int .i64 0] 91)):=(nxta HB (.cells #[.int .i64 3,.int .i64 x,.int .i64 0,.int .i64 0,.int .i64 0,.int .i64 0] 91)).out
      obtain ⟨hc,hf⟩:=rules (nxta HB (.cells #[.int .i64 3,.int .i64 x,.int .i64 0,.int .i64 0,.int .i64 0,.int .i64 0] 91))
      go_wp2_with (first | (go_at_call 63;refine (rarity_any _ _).mono ?_;rintro e w' ⟨rfl,hw⟩;subst w') | (go_at_call 64;refine (fault_yes _ _ _ hvk).mono ?_;rintro e wf ⟨rfl,hb⟩;have HBn:=hidE hb;clear hb))
      have HBf:=nxtF HB HBn.out
      have HOf:=hidE (own_keep (HO.out.alloc _) HBn.out (Nat.le_refl _))
      obtain ⟨hcn,hfn⟩:=bcell HBn.out
      have kn:=kin_some wf
      obtain ⟨kc,kf⟩:=kin_rules wf
      have HBw : Hid (Below wf.heap.size wf wf):=Below.refl _ _
      refine wp_region_kin HBw (by kernel_rfl) (by kernel_rfl) ?_
      repeat (go_big_quiet_step (fail))
      refine wpQuiet_nil ?_
      rintro _ ⟨pk,rfl⟩
      have HBp:=nxt HBf pk.h
      have HOp:=hidE (own_keep HOf.out pk.h (Nat.le_refl _))
      generalize pk.w = wp at *
      clear kc kf kn HBw pk HBf HOf HBn hcn hfn hc hf hb0
      have HBp:=HBp
      go_wp2_with fail
      go_ret
      exact ⟨by rw [← HX.out];rfl,HBp.out⟩
     | cons r rs =>
      simp only [List.length_cons] at hst HO ⊢
      obtain ⟨go,rfl,hcp,hcp2⟩:=own_form HO.out (by omega)
      have hcp3 : rs.length ≤ cap2:=by omega
      simp only at hS
      have hb0 : Below w.heap.size w (wr.alloc (.cells #[.int .i64 3,.int .i64 x,.int .i64 0,.int .i64 0,.int .i64 0,.int .i64 0] 91)):=(nxta HB (.cells #[.int .i64 3,.int .i64 x,.int .i64 0,.int .i64 0,.int .i64 0,.int .i64 0] 91)).out
      obtain ⟨hc,hf⟩:=rules (nxta HB (.cells #[.int .i64 3,.int .i64 x,.int .i64 0,.int .i64 0,.int .i64 0,.int .i64 0] 91))
      go_wp2_with (first | (go_at_call 63;refine (rarity_any _ _).mono ?_;rintro e w' ⟨rfl,hw⟩;subst w') | (go_at_call 64;refine (fault_yes _ _ _ hvk).mono ?_;rintro e wf ⟨rfl,hb⟩;have HBn:=hidE hb;clear hb))
      have HBf:=nxtF HB HBn.out
      have HOf:=hidE (own_keep (HO.out.alloc _) HBn.out (Nat.le_refl _))
      obtain ⟨hcn,hfn⟩:=bcell HBn.out
      have cO : wf.cell? ⟨go,rs.length,none⟩ = some (.int .i64 (r : Int)):=by
       rw [HOf.out.cellAt rs.length (by omega)]
       simp [natV]
      have cX : wf.cell? ⟨wr.heap.size,1,none⟩ = some (.int .i64 x):=by rw [HBn.out.cell (p:=⟨wr.heap.size,1,none⟩) (by simp)];go_simp
      have hgo:=(HOf.out.lt go rfl).2
      have hwr : wr.heap.size < wf.heap.size:=by
       have:=HBn.out.size
       simp only [World.size_alloc] at this
       omega
      have zn : decide ((rs.length : Int) < 0) = false:=by simp
      by_cases hrx : (r : Int) = x
      ·rw [if_pos hrx] at hS
       have HS2:=hidE hS
       clear hS
       subst hrx
       have z1 : ((r : Int) != (r : Int)) = false:=by simp
       have kn:=kin_some wf
       obtain ⟨kc,kf⟩:=kin_rules wf
       have HBw : Hid (Below wf.heap.size wf wf):=Below.refl _ _
       refine wp_region_kin HBw (by kernel_rfl) (by kernel_rfl) ?_
       repeat (go_big_quiet_step (fail))
       refine wpQuiet_nil ?_
       rintro _ ⟨pk,rfl⟩
       have HBp:=nxt HBf pk.h
       have HOp:=hidE (own_keep HOf.out pk.h (Nat.le_refl _))
       generalize pk.w = wp at *
       clear kc kf kn HBw pk HBf HOf HBn hcn hfn hc hf hb0
       have hlen9 : (rs).length ≤ 41:=by first | omega | (simp only [List.length_cons];omega)
       go_wp2_with (at_builtin;go_must (refine wpList_append_own _ rfl (.const (.slice none 0 0)) (.tmp 116) 71 rfl w.heap.size 3 i0 (.int .i64 0) 1 8 Tryz.underlying71 hi hz0 hz1 hz2 rfl (by decide) _ 0 [] rfl (World.ownsRow_nil _ _ _ _) ⟨go,0,none⟩ (rs).length cap2 ((rs).reverse.map natV) rfl (by simp) (open_pre HOp.out rfl ((by rfl : r :: rs = [r] ++ rs))) (by intro u hu;obtain ⟨q,-,rfl⟩:=List.mem_map.1 hu;rfl) (by show _ ≤ 2 ^ 63 - 1;omega) (by omega) (by have:=HBp.out.size;omega) ?_))
       intro v1 w4 ho4 hg4 _
       have HB4 : Hid (Below w.heap.size w w4):=HBp.out.grown hg4 HBp.out.size (fun k hk => by cases hk)
       have ho5 : w4.ownsRow w.heap.size 3 1 v1 (rs).length ((rs).reverse.map natV):=by simpa using ho4
       have HO5:=hidE ho5
       obtain ⟨ao5,cap5,rfl⟩:=owns_shapeE ho5
       clear ho4 hg4 ho5
       go_wp2_with (at_builtin;go_must (refine wpList_append_own _ rfl (.tmp 117) (.tmp 119) 71 rfl w.heap.size 3 i0 (.int .i64 0) 1 8 Tryz.underlying71 hi hz0 hz1 hz2 rfl (by decide) _ _ _ rfl (HO5.out.alloc _) ⟨w4.heap.size,0,none⟩ 1 1 [.int .i64 (m : Int)] rfl rfl (cell_one_newE _ _ _) (by intro u hu;simp at hu;subst hu;rfl) (by show _ ≤ 2 ^ 63 - 1;omega) (by omega) (by have:=HB4.out.size;simp;omega) ?_))
       intro v2 w6 ho6 hg6 hnil6
       have HB6 : Hid (Below w.heap.size w w6):=(HB4.out.alloc HB4.out.size _).grown hg6 (by have:=HB4.out.size;simp;omega) (fun k hk => (HO5.out.lt k hk).1)
       have ho7 : w6.ownsRow w.heap.size 3 1 v2 (m :: rs).length ((m :: rs).reverse.map natV):=by simpa [natV] using ho6
       have HO7:=hidE ho7
       clear ho6 hg6 hnil6 ho7
       go_wp2_with fail
       go_roundw
       case rel => exact ⟨m + 1,m :: rs,by omega,by go_num,by first | (simp;done) | (simp;omega),fun h => by simp at h,HO7,HB6,HS2⟩
       case measure => simp [intOf];omega
      ·rw [if_neg hrx] at hS
       subst hS
       have z1 : ((r : Int) != x) = true:=by simpa using hrx
       have kn:=kin_some wf
       obtain ⟨kc,kf⟩:=kin_rules wf
       have HBw : Hid (Below wf.heap.size wf wf):=Below.refl _ _
       refine wp_region_kin HBw (by kernel_rfl) (by kernel_rfl) ?_
       repeat (go_big_quiet_step (fail))
       refine wpQuiet_nil ?_
       rintro _ ⟨pk,rfl⟩
       have HBp:=nxt HBf pk.h
       have HOp:=hidE (own_keep HOf.out pk.h (Nat.le_refl _))
       generalize pk.w = wp at *
       clear kc kf kn HBw pk HBf HOf HBn hcn hfn hc hf hb0
       go_wp2_with fail
       go_ret
       exact ⟨by rw [← HX.out];rfl,HBp.out⟩
    case inr.inr.inr.inl =>
     obtain ⟨rfl,rfl⟩:=q1 (by decide)
     obtain rfl:=q2 (by decide)
     obtain rfl:=q3 (by decide)
     have ha : ar 4 = 1:=by decide
     simp only [ha,if_true] at hS
     rw [if_neg (by decide)] at hS
     clear a0 q1 q2 q3 q4 q5 q6 HA
     have wone : IntKind.i64.wrap 1 = 1:=by decide
     cases st with
     | nil =>
      simp only at hS
      subst hS
      have hv0:=hnil rfl
      simp only [List.length_nil,Value.slice.injEq,true_and] at hv0
      obtain ⟨rfl,rfl⟩:=hv0
      simp only [List.length_nil] at *
      have hb0 : Below w.heap.size w (wr.alloc (.cells #[.int .i64 4,.int .i64 x,.int .i64 0,.int .i64 0,.int .i64 0,.int .i64 0] 91)):=(nxta HB (.cells #[.int .i64 4,.int .i64 x,.int .i64 0,.int .i64 0,.int .i64 0,.int .i64 0] 91)).out
      obtain ⟨hc,hf⟩:=rules (nxta HB (.cells #[.int .i64 4,.int .i64 x,.int .i64 0,.int .i64 0,.int .i64 0,.int .i64 0] 91))
      go_wp2_with (first | (go_at_call 63;refine (rarity_any _ _).mono ?_;rintro e w' ⟨rfl,hw⟩;subst w') | (go_at_call 64;refine (fault_yes _ _ _ hvk).mono ?_;rintro e wf ⟨rfl,hb⟩;have HBn:=hidE hb;clear hb))
      have HBf:=nxtF HB HBn.out
      have HOf:=hidE (own_keep (HO.out.alloc _) HBn.out (Nat.le_refl _))
      obtain ⟨hcn,hfn⟩:=bcell HBn.out
      have kn:=kin_some wf
      obtain ⟨kc,kf⟩:=kin_rules wf
      have HBw : Hid (Below wf.heap.size wf wf):=Below.refl _ _
      refine wp_region_kin HBw (by kernel_rfl) (by kernel_rfl) ?_
      repeat (go_big_quiet_step (fail))
      refine wpQuiet_nil ?_
      rintro _ ⟨pk,rfl⟩
      have HBp:=nxt HBf pk.h
      have HOp:=hidE (own_keep HOf.out pk.h (Nat.le_refl _))
      generalize pk.w = wp at *
      clear kc kf kn HBw pk HBf HOf HBn hcn hfn hc hf hb0
      have HBp:=HBp
      go_wp2_with fail
      go_ret
      exact ⟨by rw [← HX.out];rfl,HBp.out⟩
     | cons r rs =>
      simp only [List.length_cons] at hst HO ⊢
      obtain ⟨go,rfl,hcp,hcp2⟩:=own_form HO.out (by omega)
      have hcp3 : rs.length ≤ cap2:=by omega
      simp only at hS
      have hb0 : Below w.heap.size w (wr.alloc (.cells #[.int .i64 4,.int .i64 x,.int .i64 0,.int .i64 0,.int .i64 0,.int .i64 0] 91)):=(nxta HB (.cells #[.int .i64 4,.int .i64 x,.int .i64 0,.int .i64 0,.int .i64 0,.int .i64 0] 91)).out
      obtain ⟨hc,hf⟩:=rules (nxta HB (.cells #[.int .i64 4,.int .i64 x,.int .i64 0,.int .i64 0,.int .i64 0,.int .i64 0] 91))
      go_wp2_with (first | (go_at_call 63;refine (rarity_any _ _).mono ?_;rintro e w' ⟨rfl,hw⟩;subst w') | (go_at_call 64;refine (fault_yes _ _ _ hvk).mono ?_;rintro e wf ⟨rfl,hb⟩;have HBn:=hidE hb;clear hb))
      have HBf:=nxtF HB HBn.out
      have HOf:=hidE (own_keep (HO.out.alloc _) HBn.out (Nat.le_refl _))
      obtain ⟨hcn,hfn⟩:=bcell HBn.out
      have cO : wf.cell? ⟨go,rs.length,none⟩ = some (.int .i64 (r : Int)):=by
       rw [HOf.out.cellAt rs.length (by omega)]
       simp [natV]
      have cX : wf.cell? ⟨wr.heap.size,1,none⟩ = some (.int .i64 x):=by rw [HBn.out.cell (p:=⟨wr.heap.size,1,none⟩) (by simp)];go_simp
      have hgo:=(HOf.out.lt go rfl).2
      have hwr : wr.heap.size < wf.heap.size:=by
       have:=HBn.out.size
       simp only [World.size_alloc] at this
       omega
      have zn : decide ((rs.length : Int) < 0) = false:=by simp
      by_cases hrx : (r : Int) = x
      ·rw [if_pos hrx] at hS
       have HS2:=hidE hS
       clear hS
       subst hrx
       have z1 : ((r : Int) != (r : Int)) = false:=by simp
       have kn:=kin_some wf
       obtain ⟨kc,kf⟩:=kin_rules wf
       have HBw : Hid (Below wf.heap.size wf wf):=Below.refl _ _
       refine wp_region_kin HBw (by kernel_rfl) (by kernel_rfl) ?_
       repeat (go_big_quiet_step (fail))
       refine wpQuiet_nil ?_
       rintro _ ⟨pk,rfl⟩
       have HBp:=nxt HBf pk.h
       have HOp:=hidE (own_keep HOf.out pk.h (Nat.le_refl _))
       generalize pk.w = wp at *
       clear kc kf kn HBw pk HBf HOf HBn hcn hfn hc hf hb0
       have hlen9 : (rs).length ≤ 41:=by first | omega | (simp only [List.length_cons];omega)
       go_wp2_with (at_builtin;go_must (refine wpList_append_own _ rfl (.const (.slice none 0 0)) (.tmp 116) 71 rfl w.heap.size 3 i0 (.int .i64 0) 1 8 Tryz.underlying71 hi hz0 hz1 hz2 rfl (by decide) _ 0 [] rfl (World.ownsRow_nil _ _ _ _) ⟨go,0,none⟩ (rs).length cap2 ((rs).reverse.map natV) rfl (by simp) (open_pre HOp.out rfl ((by rfl : r :: rs = [r] ++ rs))) (by intro u hu;obtain ⟨q,-,rfl⟩:=List.mem_map.1 hu;rfl) (by show _ ≤ 2 ^ 63 - 1;omega) (by omega) (by have:=HBp.out.size;omega) ?_))
       intro v1 w4 ho4 hg4 _
       have HB4 : Hid (Below w.heap.size w w4):=HBp.out.grown hg4 HBp.out.size (fun k hk => by cases hk)
       have ho5 : w4.ownsRow w.heap.size 3 1 v1 (rs).length ((rs).reverse.map natV):=by simpa using ho4
       have HO5:=hidE ho5
       obtain ⟨ao5,cap5,rfl⟩:=owns_shapeE ho5
       clear ho4 hg4 ho5
       go_wp2_with (at_builtin;go_must (refine wpList_append_own _ rfl (.tmp 117) (.tmp 119) 71 rfl w.heap.size 3 i0 (.int .i64 0) 1 8 Tryz.underlying71 hi hz0 hz1 hz2 rfl (by decide) _ _ _ rfl (HO5.out.alloc _) ⟨w4.heap.size,0,none⟩ 1 1 [.int .i64 (m : Int)] rfl rfl (cell_one_newE _ _ _) (by intro u hu;simp at hu;subst hu;rfl) (by show _ ≤ 2 ^ 63 - 1;omega) (by omega) (by have:=HB4.out.size;simp;omega) ?_))
       intro v2 w6 ho6 hg6 hnil6
       have HB6 : Hid (Below w.heap.size w w6):=(HB4.out.alloc HB4.out.size _).grown hg6 (by have:=HB4.out.size;simp;omega) (fun k hk => (HO5.out.lt k hk).1)
       have ho7 : w6.ownsRow w.heap.size 3 1 v2 (m :: rs).length ((m :: rs).reverse.map natV):=by simpa [natV] using ho6
       have HO7:=hidE ho7
       clear ho6 hg6 hnil6 ho7
       go_wp2_with fail
       go_roundw
       case rel => exact ⟨m + 1,m :: rs,by omega,by go_num,by first | (simp;done) | (simp;omega),fun h => by simp at h,HO7,HB6,HS2⟩
       case measure => simp [intOf];omega
      ·rw [if_neg hrx] at hS
       subst hS
       have z1 : ((r : Int) != x) = true:=by simpa using hrx
       have kn:=kin_some wf
       obtain ⟨kc,kf⟩:=kin_rules wf
       have HBw : Hid (Below wf.heap.size wf wf):=Below.refl _ _
       refine wp_region_kin HBw (by kernel_rfl) (by kernel_rfl) ?_
       repeat (go_big_quiet_step (fail))
       refine wpQuiet_nil ?_
       rintro _ ⟨pk,rfl⟩
       have HBp:=nxt HBf pk.h
       have HOp:=hidE (own_keep HOf.out pk.h (Nat.le_refl _))
       generalize pk.w = wp at *
       clear kc kf kn HBw pk HBf HOf HBn hcn hfn hc hf hb0
       go_wp2_with fail
       go_ret
       exact ⟨by rw [← HX.out];rfl,HBp.out⟩
    case inr.inr.inr.inr.inl =>
     obtain ⟨rfl,rfl⟩:=q1 (by decide)
     obtain rfl:=q2 (by decide)
     obtain rfl:=q3 (by decide)
     have ha : ar 5 = 1:=by decide
     simp only [ha,if_true] at hS
     rw [if_neg (by decide)] at hS
     clear a0 q1 q2 q3 q4 q5 q6 HA
     have wone : IntKind.i64.wrap 1 = 1:=by decide
     cases st with
     | nil =>
      simp only at hS
      subst hS
      have hv0:=hnil rfl
      simp only [List.length_nil,Value.slice.injEq,true_and] at hv0
      obtain ⟨rfl,rfl⟩:=hv0
      simp only [List.length_nil] at *
      have hb0 : Below w.heap.size w (wr.alloc (.cells #[.int .i64 5,.int .i64 x,.int .i64 0,.int .i64 0,.int .i64 0,.int .i64 0] 91)):=(nxta HB (.cells #[.int .i64 5,.int .i64 x,.int .i64 0,.int .i64 0,.int .i64 0,.int .i64 0] 91)).out
      obtain ⟨hc,hf⟩:=rules (nxta HB (.cells #[.int .i64 5,.int .i64 x,.int .i64 0,.int .i64 0,.int .i64 0,.int .i64 0] 91))
      go_wp2_with (first | (go_at_call 63;refine (rarity_any _ _).mono ?_;rintro e w' ⟨rfl,hw⟩;subst w') | (go_at_call 64;refine (fault_yes _ _ _ hvk).mono ?_;rintro e wf ⟨rfl,hb⟩;have HBn:=hidE hb;clear hb))
      have HBf:=nxtF HB HBn.out
      have HOf:=hidE (own_keep (HO.out.alloc _) HBn.out (Nat.le_refl _))
      obtain ⟨hcn,hfn⟩:=bcell HBn.out
      have kn:=kin_some wf
      obtain ⟨kc,kf⟩:=kin_rules wf
      have HBw : Hid (Below wf.heap.size wf wf):=Below.refl _ _
      refine wp_region_kin HBw (by kernel_rfl) (by kernel_rfl) ?_
      repeat (go_big_quiet_step (fail))
      refine wpQuiet_nil ?_
      rintro _ ⟨pk,rfl⟩
      have HBp:=nxt HBf pk.h
      have HOp:=hidE (own_keep HOf.out pk.h (Nat.le_refl _))
      generalize pk.w = wp at *
      clear kc kf kn HBw pk HBf HOf HBn hcn hfn hc hf hb0
      have HBp:=HBp
      go_wp2_with fail
      go_ret
      exact ⟨by rw [← HX.out];rfl,HBp.out⟩
     | cons r rs =>
      simp only [List.length_cons] at hst HO ⊢
      obtain ⟨go,rfl,hcp,hcp2⟩:=own_form HO.out (by omega)
      have hcp3 : rs.length ≤ cap2:=by omega
      simp only at hS
      have hb0 : Below w.heap.size w (wr.alloc (.cells #[.int .i64 5,.int .i64 x,.int .i64 0,.int .i64 0,.int .i64 0,.int .i64 0] 91)):=(nxta HB (.cells #[.int .i64 5,.int .i64 x,.int .i64 0,.int .i64 0,.int .i64 0,.int .i64 0] 91)).out
      obtain ⟨hc,hf⟩:=rules (nxta HB (.cells #[.int .i64 5,.int .i64 x,.int .i64 0,.int .i64 0,.int .i64 0,.int .i64 0] 91))
      go_wp2_with (first | (go_at_call 63;refine (rarity_any _ _).mono ?_;rintro e w' ⟨rfl,hw⟩;subst w') | (go_at_call 64;refine (fault_yes _ _ _ hvk).mono ?_;rintro e wf ⟨rfl,hb⟩;have HBn:=hidE hb;clear hb))
      have HBf:=nxtF HB HBn.out
      have HOf:=hidE (own_keep (HO.out.alloc _) HBn.out (Nat.le_refl _))
      obtain ⟨hcn,hfn⟩:=bcell HBn.out
      have cO : wf.cell? ⟨go,rs.length,none⟩ = some (.int .i64 (r : Int)):=by
       rw [HOf.out.cellAt rs.length (by omega)]
       simp [natV]
      have cX : wf.cell? ⟨wr.heap.size,1,none⟩ = some (.int .i64 x):=by rw [HBn.out.cell (p:=⟨wr.heap.size,1,none⟩) (by simp)];go_simp
      have hgo:=(HOf.out.lt go rfl).2
      have hwr : wr.heap.size < wf.heap.size:=by
       have:=HBn.out.size
       simp only [World.size_alloc] at this
       omega
      have zn : decide ((rs.length : Int) < 0) = false:=by simp
      by_cases hrx : (r : Int) = x
      ·rw [if_pos hrx] at hS
       have HS2:=hidE hS
       clear hS
       subst hrx
       have z1 : ((r : Int) != (r : Int)) = false:=by simp
       have kn:=kin_some wf
       obtain ⟨kc,kf⟩:=kin_rules wf
       have HBw : Hid (Below wf.heap.size wf wf):=Below.refl _ _
       refine wp_region_kin HBw (by kernel_rfl) (by kernel_rfl) ?_
       repeat (go_big_quiet_step (fail))
       refine wpQuiet_nil ?_
       rintro _ ⟨pk,rfl⟩
       have HBp:=nxt HBf pk.h
       have HOp:=hidE (own_keep HOf.out pk.h (Nat.le_refl _))
       generalize pk.w = wp at *
       clear kc kf kn HBw pk HBf HOf HBn hcn hfn hc hf hb0
       have hlen9 : (rs).length ≤ 41:=by first | omega | (simp only [List.length_cons];omega)
       go_wp2_with (at_builtin;go_must (refine wpList_append_own _ rfl (.const (.slice none 0 0)) (.tmp 116) 71 rfl w.heap.size 3 i0 (.int .i64 0) 1 8 Tryz.underlying71 hi hz0 hz1 hz2 rfl (by decide) _ 0 [] rfl (World.ownsRow_nil _ _ _ _) ⟨go,0,none⟩ (rs).length cap2 ((rs).reverse.map natV) rfl (by simp) (open_pre HOp.out rfl ((by rfl : r :: rs = [r] ++ rs))) (by intro u hu;obtain ⟨q,-,rfl⟩:=List.mem_map.1 hu;rfl) (by show _ ≤ 2 ^ 63 - 1;omega) (by omega) (by have:=HBp.out.size;omega) ?_))
       intro v1 w4 ho4 hg4 _
       have HB4 : Hid (Below w.heap.size w w4):=HBp.out.grown hg4 HBp.out.size (fun k hk => by cases hk)
       have ho5 : w4.ownsRow w.heap.size 3 1 v1 (rs).length ((rs).reverse.map natV):=by simpa using ho4
       have HO5:=hidE ho5
       obtain ⟨ao5,cap5,rfl⟩:=owns_shapeE ho5
       clear ho4 hg4 ho5
       go_wp2_with (at_builtin;go_must (refine wpList_append_own _ rfl (.tmp 117) (.tmp 119) 71 rfl w.heap.size 3 i0 (.int .i64 0) 1 8 Tryz.underlying71 hi hz0 hz1 hz2 rfl (by decide) _ _ _ rfl (HO5.out.alloc _) ⟨w4.heap.size,0,none⟩ 1 1 [.int .i64 (m : Int)] rfl rfl (cell_one_newE _ _ _) (by intro u hu;simp at hu;subst hu;rfl) (by show _ ≤ 2 ^ 63 - 1;omega) (by omega) (by have:=HB4.out.size;simp;omega) ?_))
       intro v2 w6 ho6 hg6 hnil6
       have HB6 : Hid (Below w.heap.size w w6):=(HB4.out.alloc HB4.out.size _).grown hg6 (by have:=HB4.out.size;simp;omega) (fun k hk => (HO5.out.lt k hk).1)
       have ho7 : w6.ownsRow w.heap.size 3 1 v2 (m :: rs).length ((m :: rs).reverse.map natV):=by simpa [natV] using ho6
       have HO7:=hidE ho7
       clear ho6 hg6 hnil6 ho7
       go_wp2_with fail
       go_roundw
       case rel => exact ⟨m + 1,m :: rs,by omega,by go_num,by first | (simp;done) | (simp;omega),fun h => by simp at h,HO7,HB6,HS2⟩
       case measure => simp [intOf];omega
      ·rw [if_neg hrx] at hS
       subst hS
       have z1 : ((r : Int) != x) = true:=by simpa using hrx
       have kn:=kin_some wf
       obtain ⟨kc,kf⟩:=kin_rules wf
       have HBw : Hid (Below wf.heap.size wf wf):=Below.refl _ _
       refine wp_region_kin HBw (by kernel_rfl) (by kernel_rfl) ?_
       repeat (go_big_quiet_step (fail))
       refine wpQuiet_nil ?_
       rintro _ ⟨pk,rfl⟩
       have HBp:=nxt HBf pk.h
       have HOp:=hidE (own_keep HOf.out pk.h (Nat.le_refl _))
       generalize pk.w = wp at *
       clear kc kf kn HBw pk HBf HOf HBn hcn hfn hc hf hb0
       go_wp2_with fail
       go_ret
       exact ⟨by rw [← HX.out];rfl,HBp.out⟩
    case inr.inr.inr.inr.inr =>
     have g1 : (op != 1) = true:=by simp;omega
     have g2 : (op != 2) = true:=by simp;omega
     obtain ⟨rfl,rfl⟩:=q1 (by omega)
     obtain rfl:=q2 (by omega)
     have HA2 : Hid (∀ w,Calls Tryz.prog 63 #[.int .i64 op] w fun e w' => e = .returned (.int .i64 2) ∧ w' = w):=by
      intro w
      have:=rarity_any op w
      rw [h2] at this
      exact this
     simp only [h2] at hS
     rw [if_neg (by decide),if_neg (by decide)] at hS
     clear a0 q1 q2 q3 q4 q5 q6 HA h2 h6
     match st,hst,hnil,HO,hS with
     | [],hst,hnil,HO,hS =>
      simp only at hS
      subst hS
      have hv0:=hnil rfl
      simp only [List.length_nil,Value.slice.injEq,true_and] at hv0
      obtain ⟨rfl,rfl⟩:=hv0
      simp only [List.length_nil] at *
      have hb0 : Below w.heap.size w (wr.alloc (.cells #[.int .i64 op,.int .i64 x,.int .i64 y,.int .i64 0,.int .i64 0,.int .i64 0] 91)):=(nxta HB (.cells #[.int .i64 op,.int .i64 x,.int .i64 y,.int .i64 0,.int .i64 0,.int .i64 0] 91)).out
      obtain ⟨hc,hf⟩:=rules (nxta HB (.cells #[.int .i64 op,.int .i64 x,.int .i64 y,.int .i64 0,.int .i64 0,.int .i64 0] 91))
      go_wp2_with (first | (go_at_call 63;refine (HA2.out _).mono ?_;rintro e w' ⟨rfl,hw⟩;subst w') | (go_at_call 64;refine (fault_yes _ _ _ hvk).mono ?_;rintro e wf ⟨rfl,hb⟩;have HBn:=hidE hb;clear hb))
      have HBf:=nxtF HB HBn.out
      have HOf:=hidE (own_keep (HO.out.alloc _) HBn.out (Nat.le_refl _))
      obtain ⟨hcn,hfn⟩:=bcell HBn.out
      have kn:=kin_some wf
      obtain ⟨kc,kf⟩:=kin_rules wf
      have HBw : Hid (Below wf.heap.size wf wf):=Below.refl _ _
      refine wp_region_kin HBw (by kernel_rfl) (by kernel_rfl) ?_
      repeat (go_big_quiet_step (fail))
      refine wpQuiet_nil ?_
      rintro _ ⟨pk,rfl⟩
      have HBp:=nxt HBf pk.h
      have HOp:=hidE (own_keep HOf.out pk.h (Nat.le_refl _))
      generalize pk.w = wp at *
      clear kc kf kn HBw pk HBf HOf HBn hcn hfn hc hf hb0
      go_wp2_with fail
      go_ret
      exact ⟨by rw [← HX.out];rfl,HBp.out⟩
     | [r],hst,hnil,HO,hS =>
      simp only at hS
      subst hS
      simp only [List.length_cons,List.length_nil,Nat.zero_add] at hst HO ⊢
      obtain ⟨go,rfl,hcp,hcp2⟩:=own_form HO.out (by omega)
      have hb0 : Below w.heap.size w (wr.alloc (.cells #[.int .i64 op,.int .i64 x,.int .i64 y,.int .i64 0,.int .i64 0,.int .i64 0] 91)):=(nxta HB (.cells #[.int .i64 op,.int .i64 x,.int .i64 y,.int .i64 0,.int .i64 0,.int .i64 0] 91)).out
      obtain ⟨hc,hf⟩:=rules (nxta HB (.cells #[.int .i64 op,.int .i64 x,.int .i64 y,.int .i64 0,.int .i64 0,.int .i64 0] 91))
      go_wp2_with (first | (go_at_call 63;refine (HA2.out _).mono ?_;rintro e w' ⟨rfl,hw⟩;subst w') | (go_at_call 64;refine (fault_yes _ _ _ hvk).mono ?_;rintro e wf ⟨rfl,hb⟩;have HBn:=hidE hb;clear hb))
      have HBf:=nxtF HB HBn.out
      have HOf:=hidE (own_keep (HO.out.alloc _) HBn.out (Nat.le_refl _))
      obtain ⟨hcn,hfn⟩:=bcell HBn.out
      have kn:=kin_some wf
      obtain ⟨kc,kf⟩:=kin_rules wf
      have HBw : Hid (Below wf.heap.size wf wf):=Below.refl _ _
      refine wp_region_kin HBw (by kernel_rfl) (by kernel_rfl) ?_
      repeat (go_big_quiet_step (fail))
      refine wpQuiet_nil ?_
      rintro _ ⟨pk,rfl⟩
      have HBp:=nxt HBf pk.h
      have HOp:=hidE (own_keep HOf.out pk.h (Nat.le_refl _))
      generalize pk.w = wp at *
      clear kc kf kn HBw pk HBf HOf HBn hcn hfn hc hf hb0
      go_wp2_with fail
      go_ret
      exact ⟨by rw [← HX.out];rfl,HBp.out⟩
     | r :: q :: rs,hst,hnil,HO,hS =>
      simp only [List.length_cons] at hst HO ⊢
      obtain ⟨go,rfl,hcp,hcp2⟩:=own_form HO.out (by omega)
      have hcp3 : rs.length ≤ cap2:=by omega
      have hat : (rs.length : Int) + 1 + 1 - 2 = (rs.length : Int):=by omega
      simp only at hS
      have hb0 : Below w.heap.size w (wr.alloc (.cells #[.int .i64 op,.int .i64 x,.int .i64 y,.int .i64 0,.int .i64 0,.int .i64 0] 91)):=(nxta HB (.cells #[.int .i64 op,.int .i64 x,.int .i64 y,.int .i64 0,.int .i64 0,.int .i64 0] 91)).out
      obtain ⟨hc,hf⟩:=rules (nxta HB (.cells #[.int .i64 op,.int .i64 x,.int .i64 y,.int .i64 0,.int .i64 0,.int .i64 0] 91))
      go_wp2_with (first | (go_at_call 63;refine (HA2.out _).mono ?_;rintro e w' ⟨rfl,hw⟩;subst w') | (go_at_call 64;refine (fault_yes _ _ _ hvk).mono ?_;rintro e wf ⟨rfl,hb⟩;have HBn:=hidE hb;clear hb))
      have HBf:=nxtF HB HBn.out
      have HOf:=hidE (own_keep (HO.out.alloc _) HBn.out (Nat.le_refl _))
      obtain ⟨hcn,hfn⟩:=bcell HBn.out
      have cO : wf.cell? ⟨go,rs.length,none⟩ = some (.int .i64 (q : Int)):=by
       rw [HOf.out.cellAt rs.length (by omega)]
       simp [natV]
      have cO2 : wf.cell? ⟨go,rs.length + 1,none⟩ = some (.int .i64 (r : Int)):=by
       rw [HOf.out.cellAt (rs.length + 1) (by omega)]
       simp [natV]
      have cX : wf.cell? ⟨wr.heap.size,1,none⟩ = some (.int .i64 x):=by rw [HBn.out.cell (p:=⟨wr.heap.size,1,none⟩) (by simp)];go_simp
      have cY : wf.cell? ⟨wr.heap.size,2,none⟩ = some (.int .i64 y):=by rw [HBn.out.cell (p:=⟨wr.heap.size,2,none⟩) (by simp)];go_simp
      have hgo:=(HOf.out.lt go rfl).2
      have hwr : wr.heap.size < wf.heap.size:=by
       have:=HBn.out.size
       simp only [World.size_alloc] at this
       omega
      have zn : decide ((rs.length : Int) < 0) = false:=by simp
      by_cases hqx : (q : Int) = x
      ·have z1 : ((q : Int) != x) = false:=by simp [hqx]
       by_cases hry : (r : Int) = y
       ·rw [if_pos ⟨hqx,hry⟩] at hS
        have HS2:=hidE hS
        have z2 : ((r : Int) != y) = false:=by simp [hry]
        clear hS hqx hry
        have kn:=kin_some wf
        obtain ⟨kc,kf⟩:=kin_rules wf
        have HBw : Hid (Below wf.heap.size wf wf):=Below.refl _ _
        refine wp_region_kin HBw (by kernel_rfl) (by kernel_rfl) ?_
        repeat (go_big_quiet_step (fail))
        refine wpQuiet_nil ?_
        rintro _ ⟨pk,rfl⟩
        have HBp:=nxt HBf pk.h
        have HOp:=hidE (own_keep HOf.out pk.h (Nat.le_refl _))
        generalize pk.w = wp at *
        clear kc kf kn HBw pk HBf HOf HBn hcn hfn hc hf hb0
        have hlen9 : (rs).length ≤ 41:=by first | omega | (simp only [List.length_cons];omega)
        go_wp2_with (at_builtin;go_must (refine wpList_append_own _ rfl (.const (.slice none 0 0)) (.tmp 116) 71 rfl w.heap.size 3 i0 (.int .i64 0) 1 8 Tryz.underlying71 hi hz0 hz1 hz2 rfl (by decide) _ 0 [] rfl (World.ownsRow_nil _ _ _ _) ⟨go,0,none⟩ (rs).length cap2 ((rs).reverse.map natV) rfl (by simp) (open_pre HOp.out rfl ((by rfl : r :: q :: rs = [r,q] ++ rs))) (by intro u hu;obtain ⟨q,-,rfl⟩:=List.mem_map.1 hu;rfl) (by show _ ≤ 2 ^ 63 - 1;omega) (by omega) (by have:=HBp.out.size;omega) ?_))
        intro v1 w4 ho4 hg4 _
        have HB4 : Hid (Below w.heap.size w w4):=HBp.out.grown hg4 HBp.out.size (fun k hk => by cases hk)
        have ho5 : w4.ownsRow w.heap.size 3 1 v1 (rs).length ((rs).reverse.map natV):=by simpa using ho4
        have HO5:=hidE ho5
        obtain ⟨ao5,cap5,rfl⟩:=owns_shapeE ho5
        clear ho4 hg4 ho5
        go_wp2_with (at_builtin;go_must (refine wpList_append_own _ rfl (.tmp 117) (.tmp 119) 71 rfl w.heap.size 3 i0 (.int .i64 0) 1 8 Tryz.underlying71 hi hz0 hz1 hz2 rfl (by decide) _ _ _ rfl (HO5.out.alloc _) ⟨w4.heap.size,0,none⟩ 1 1 [.int .i64 (m : Int)] rfl rfl (cell_one_newE _ _ _) (by intro u hu;simp at hu;subst hu;rfl) (by show _ ≤ 2 ^ 63 - 1;omega) (by omega) (by have:=HB4.out.size;simp;omega) ?_))
        intro v2 w6 ho6 hg6 hnil6
        have HB6 : Hid (Below w.heap.size w w6):=(HB4.out.alloc HB4.out.size _).grown hg6 (by have:=HB4.out.size;simp;omega) (fun k hk => (HO5.out.lt k hk).1)
        have ho7 : w6.ownsRow w.heap.size 3 1 v2 (m :: rs).length ((m :: rs).reverse.map natV):=by simpa [natV] using ho6
        have HO7:=hidE ho7
        clear ho6 hg6 hnil6 ho7
        go_wp2_with fail
        go_roundw
        case rel => exact ⟨m + 1,m :: rs,by omega,by go_num,by first | (simp;done) | (simp;omega),fun h => by simp at h,HO7,HB6,HS2⟩
        case measure => simp [intOf];omega
       ·rw [if_neg (fun h => hry h.2)] at hS
        subst hS
        have z2 : ((r : Int) != y) = true:=by simpa using hry
        clear hqx hry
        have kn:=kin_some wf
        obtain ⟨kc,kf⟩:=kin_rules wf
        have HBw : Hid (Below wf.heap.size wf wf):=Below.refl _ _
        refine wp_region_kin HBw (by kernel_rfl) (by kernel_rfl) ?_
        repeat (go_big_quiet_step (fail))
        refine wpQuiet_nil ?_
        rintro _ ⟨pk,rfl⟩
        have HBp:=nxt HBf pk.h
        have HOp:=hidE (own_keep HOf.out pk.h (Nat.le_refl _))
        generalize pk.w = wp at *
        clear kc kf kn HBw pk HBf HOf HBn hcn hfn hc hf hb0
        go_wp2_with fail
        go_ret
        exact ⟨by rw [← HX.out];rfl,HBp.out⟩
      ·rw [if_neg (fun h => hqx h.1)] at hS
       subst hS
       have z1 : ((q : Int) != x) = true:=by simpa using hqx
       clear hqx
       have kn:=kin_some wf
       obtain ⟨kc,kf⟩:=kin_rules wf
       have HBw : Hid (Below wf.heap.size wf wf):=Below.refl _ _
       refine wp_region_kin HBw (by kernel_rfl) (by kernel_rfl) ?_
       repeat (go_big_quiet_step (fail))
       refine wpQuiet_nil ?_
       rintro _ ⟨pk,rfl⟩
       have HBp:=nxt HBf pk.h
       have HOp:=hidE (own_keep HOf.out pk.h (Nat.le_refl _))
       generalize pk.w = wp at *
       clear kc kf kn HBw pk HBf HOf HBn hcn hfn hc hf hb0
       go_wp2_with fail
       go_ret
       exact ⟨by rw [← HX.out];rfl,HBp.out⟩
   ·rw [if_pos hok] at hS
    have hX:=HX.out
    rw [← hS] at hX
    simp only [ne_eq,hok,not_false_eq_true,if_true] at hX
    have HXX:=hidE hX
    clear hX hS HX HS
    by_cases hbad : badN ⟨op,x,y,nn,k,nv⟩
    ·have e3 : X = 3:=by rw [← HXX.out];unfold okN;rw [if_pos hbad]
     subst e3
     unfold badN at hbad
     simp only at hbad
     generalize ar op = a at *
     clear HXX hok
     obtain ⟨hc,hf⟩:=rules (nxta HB (.cells #[.int .i64 op,.int .i64 x,.int .i64 y,.int .i64 nn,.int .i64 k,.int .i64 nv] 91))
     go_upto_region 13 with (first | (go_at_call 63;refine (HA.out _).mono ?_;rintro e w' ⟨rfl,hw⟩;subst w') | (go_at_call 64;refine (vfault_any _ _ _).mono ?_;rintro e wf ⟨rfl,hb⟩;have HB:=nxtF HB hb;clear hb))
     all_goals
      go_ret
      exact ⟨rfl,(nxta HB _).out⟩
    ·have hb0:=hbad
     unfold badN at hbad
     simp only at hbad
     by_cases hbd : nn < 0 ∨ 4 ≤ nn
     ·have e1 : X = 1:=by rw [← HXX.out];unfold okN;rw [if_neg hb0,if_pos hbd]
      subst e1
      obtain rfl : op = 2:=by omega
      have ha : ar 2 = 0:=by decide
      rw [ha] at hbad
      obtain ⟨rfl,rfl⟩ : k = 0 ∧ nv = 0:=by omega
      obtain rfl : x = 0:=by omega
      obtain rfl : y = 0:=by omega
      clear HXX hok hbad HA ha
      obtain ⟨hc,hf⟩:=rules (nxta HB (.cells #[.int .i64 2,.int .i64 0,.int .i64 0,.int .i64 nn,.int .i64 0,.int .i64 0] 91))
      rcases hbd with hbd | hbd
      ·go_wp2_with (go_at_call 63;refine (rarity_any _ _).mono ?_;rintro e w' ⟨rfl,hw⟩;subst w')
       go_ret
       exact ⟨rfl,(nxta HB (.cells #[.int .i64 2,.int .i64 0,.int .i64 0,.int .i64 nn,.int .i64 0,.int .i64 0] 91)).out⟩
      ·have z1 : decide (nn < 0) = false:=by simp;omega
       have z2 : 3 < nn:=by omega
       go_wp2_with (go_at_call 63;refine (rarity_any _ _).mono ?_;rintro e w' ⟨rfl,hw⟩;subst w')
       go_ret
       exact ⟨rfl,(nxta HB (.cells #[.int .i64 2,.int .i64 0,.int .i64 0,.int .i64 nn,.int .i64 0,.int .i64 0] 91)).out⟩
     ·have hv : vok k nv = false:=by
       by_cases hv : vok k nv = true
       ·refine absurd ?_ hok
        unfold okN
        rw [if_neg hb0,if_neg hbd]
        simp only [vokB_is2,hv,if_true]
       ·simpa using hv
      have e3 : X = 3:=by
       rw [← HXX.out];unfold okN
       rw [if_neg hb0,if_neg hbd]
       simp only [vokB_is2,hv]
       rfl
      subst e3
      obtain rfl : op = 1:=by
       by_cases h1 : op = 1
       ·exact h1
       ·obtain ⟨rfl,rfl⟩ : k = 0 ∧ nv = 0:=by omega
        exact absurd hv (by decide)
      have ha : ar 1 = 0:=by decide
      rw [ha] at hbad
      obtain rfl : nn = 0:=by omega
      obtain rfl : x = 0:=by omega
      obtain rfl : y = 0:=by omega
      have HV:=hidE (fun w => fault_no k nv w hv)
      clear HXX hok hv hbad hbd HA ha
      obtain ⟨hc,hf⟩:=rules (nxta HB (.cells #[.int .i64 1,.int .i64 0,.int .i64 0,.int .i64 0,.int .i64 k,.int .i64 nv] 91))
      go_wp2_with (first | (go_at_call 63;refine (rarity_any _ _).mono ?_;rintro e w' ⟨rfl,hw⟩;subst w') | (go_at_call 64;refine (HV.out _).mono ?_;rintro e wf ⟨rfl,hb⟩;have HB:=nxtF HB hb;clear hb))
      go_ret
      exact ⟨rfl,HB.out⟩
  ·have hS:=HS.out
   rw [List.drop_eq_nil_of_le (by omega)] at hS
   simp only [fltF] at hS
   have hX:=HX.out
   rw [← hS] at hX
   simp only [ne_eq,not_true_eq_false,if_false] at hX
   clear HX HS
   by_cases h1 : st.length = 1
   ·rw [if_neg (by omega)] at hX
    subst hX
    have z : ((st.length : Int) != 1) = false:=by rw [bne_eq_false_iff_eq];omega
    clear h1
    go_wp2_with fail
    go_ret
    exact ⟨rfl,HB.out⟩
   ·rw [if_pos h1] at hX
    subst hX
    have z : ((st.length : Int) != 1) = true:=by rw [bne_iff_ne];omega
    clear h1
    go_wp2_with fail
    go_ret
    exact ⟨rfl,HB.out⟩
theorem exprFault_any (l : List Nd) (v : Value) (w : World) (hl : l.length ≤ 1000) (hr : RowG w v 6 l.length (rowN l)) :
  Calls Tryz.prog 39 #[v] w fun e w' => e = .returned (.int .i64 (chkE l)) ∧ Below w.heap.size w w':=by
 rw [← fault_is]
 by_cases h : l.length ≤ 40
 ·exact fault_few l v w h hr
 ·obtain ⟨ao,cap,rfl⟩:=rowG_shape hr
  have e : fltE l = 2:=by unfold fltE;rw [if_pos (by omega)]
  rw [e]
  have h4 : (40 : Int) < (l.length : Int):=by omega
  clear hr e h
  go_enter Tryz.func39,Tryz.ntmps39
  go_wp2_with fail
  go_ret
  exact ⟨rfl,Below.refl _ _⟩
end Go.Proofs.YteaanpdckkmjoaaGreatDoor
