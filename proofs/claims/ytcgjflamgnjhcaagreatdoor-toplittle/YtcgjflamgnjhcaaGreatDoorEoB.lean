/- The contract of engine.own: a question that shares no list, over this seat's translation. Conditions: as named. -/
import Derived.Test.YtcgjflamgnjhcaaGreatDoorEnZJ
set_option linter.unusedVariables false
set_option linter.unusedSimpArgs false
set_option maxRecDepth 100000
set_option maxHeartbeats 8000000
namespace Go.Proofs.YtcgjflamgnjhcaaGreatDoor
open Go.ChangeShapes Go.WideShapes Go.ChangeAt Go.RowKit
theorem owns_head2 {w : World} {base n size : Nat} {e : TypeId} {v : Value} {xs : List Value} (h : w.ownsRow base e size v n xs) (h0 : 0 < n) : ∃ g cap,v = .slice (some ⟨g,0,none⟩) n cap ∧ base ≤ g ∧ g < w.heap.size:=by
 rcases h.2 with ⟨-,hn⟩ | ⟨g,cap,cur,rfl,hb,hg,-⟩
 ·omega
 ·exact ⟨g,cap,rfl,hb,(own_at h g rfl).2⟩
theorem rowAg_setN (l : List (AgQ × Value)) (i : Nat) (a : AgQ) (u v : Value) (h : l[i]? = some (a,u)) : (rowOf cellsAg l).set (i * 2 + 1) v = rowOf cellsAg (l.set i (a,v)):=by
 have hi : i < l.length:=(List.getElem?_eq_some_iff.1 h).1
 rw [rowOf_split_set l i (a,v) hi]
 have e : l[i] = (a,u):=by rw [List.getElem?_eq_getElem hi] at h;exact Option.some.inj h
 conv => lhs;rw [rowOf_split l i hi,e]
 have tl : (rowOf cellsAg (l.take i)).length = i * 2:=by rw [rowOf_len cellsAg_len,List.length_take,Nat.min_eq_left (by omega)]
 generalize rowOf cellsAg (l.take i) = X at *
 generalize rowOf cellsAg (l.drop (i + 1)) = Y
 simp only [cellsAg]
 rw [List.set_append_right _ _ (by omega)]
 congr 1
 rw [show i * 2 + 1 - X.length = 1 from by omega]
 rfl
theorem ownQ_any (va vw vb : Value) (q : Qy) (ps : List (AgQ × Value)) (W : World) (h : QyG W va vw vb q ps) (h0 : 0 < ps.length) (h4 : ps.length ≤ 1000) :
  Calls Tryz.prog 42 #[qyV va vw vb q] W fun e w' => ∃ va' vw' vb' ps',e = .returned (qyV va' vw' vb' q) ∧ QyG w' va' vw' vb' q ps' ∧ NewS W.heap.size w'.heap.size va' ∧ NewS W.heap.size w'.heap.size vw' ∧ NewS W.heap.size w'.heap.size vb' ∧ (∀ p ∈ ps',NewS W.heap.size w'.heap.size p.2) ∧ Below W.heap.size W w':=by
 obtain ⟨ao,cap,rfl⟩:=rowG_shape h.ag.row
 obtain ⟨a2,c2,rfl⟩:=rowG_shape h.wh
 obtain ⟨a3,c3,rfl⟩:=rowG_shape h.by_
 unfold qyV
 have ba:=below2 W (.cells #[Value.slice ao ps.length cap,Value.slice a2 q.wh.length c2,Value.slice a3 q.bys.length c3,Value.int .i64 q.size,Value.int .i64 q.slide,Value.int .i64 q.delay,Value.int .i64 q.late] 28) (.cells #[.slice none 0 0,.slice none 0 0,.slice none 0 0,.int .i64 0,.int .i64 0,.int .i64 0,.int .i64 0] 28)
 have BQ0:=blk_below (blk_alloc W [Value.slice ao ps.length cap,Value.slice a2 q.wh.length c2,Value.slice a3 q.bys.length c3,Value.int .i64 q.size,Value.int .i64 q.slide,Value.int .i64 q.delay,Value.int .i64 q.late] 28) (below_alloc (W.alloc (.cells #[Value.slice ao ps.length cap,Value.slice a2 q.wh.length c2,Value.slice a3 q.bys.length c3,Value.int .i64 q.size,Value.int .i64 q.slide,Value.int .i64 q.delay,Value.int .i64 q.late] 28)) (.cells #[.slice none 0 0,.slice none 0 0,.slice none 0 0,.int .i64 0,.int .i64 0,.int .i64 0,.int .i64 0] 28)) (by simp)
 have BR0:=blk_alloc (W.alloc (.cells #[Value.slice ao ps.length cap,Value.slice a2 q.wh.length c2,Value.slice a3 q.bys.length c3,Value.int .i64 q.size,Value.int .i64 q.slide,Value.int .i64 q.delay,Value.int .i64 q.late] 28)) [.slice none 0 0,.slice none 0 0,.slice none 0 0,.int .i64 0,.int .i64 0,.int .i64 0,.int .i64 0] 28
 rw [show (W.alloc (.cells #[Value.slice ao ps.length cap,Value.slice a2 q.wh.length c2,Value.slice a3 q.bys.length c3,Value.int .i64 q.size,Value.int .i64 q.slide,Value.int .i64 q.delay,Value.int .i64 q.late] 28)).heap.size = W.heap.size + 1 from by simp] at BR0
 have H0:=hidE h
 have H2:=hidE (qyG_below h ba)
 have CA:=hidE (cloneAg_any ps _ _ h4 h0 H2.out.ag.row (fun p hp => (H2.out.ag.nds p hp).1))
 have BQ:=hidE BQ0
 have BR:=hidE BR0
 have HBA:=hidE ba
 have z0 : ((W.alloc (.cells #[Value.slice ao ps.length cap,Value.slice a2 q.wh.length c2,Value.slice a3 q.bys.length c3,Value.int .i64 q.size,Value.int .i64 q.slide,Value.int .i64 q.delay,Value.int .i64 q.late] 28)).alloc (.cells #[.slice none 0 0,.slice none 0 0,.slice none 0 0,.int .i64 0,.int .i64 0,.int .i64 0,.int .i64 0] 28)).cell? ⟨W.heap.size,0,none⟩ = some (.slice ao ps.length cap):=BQ0.c 0 (by simp)
 have zl0:=BQ0.lt
 have zf0:=BQ0.fz 0
 have hsz9 : W.heap.size + 1 < ((W.alloc (.cells #[Value.slice ao ps.length cap,Value.slice a2 q.wh.length c2,Value.slice a3 q.bys.length c3,Value.int .i64 q.size,Value.int .i64 q.slide,Value.int .i64 q.delay,Value.int .i64 q.late] 28)).alloc (.cells #[.slice none 0 0,.slice none 0 0,.slice none 0 0,.int .i64 0,.int .i64 0,.int .i64 0,.int .i64 0] 28)).heap.size:=BR0.lt
 clear ba BQ0 BR0 H2 h
 go_enter Tryz.func42,Tryz.ntmps42
 go_wp2_with fail
 refine CA.out.mono ?_
 rintro e w1 ⟨u,rfl,hou,hb⟩
 obtain ⟨g1,cp1,rfl,hg1,hg2⟩:=owns_head2 hou h0
 have BQ1:=blk_below BQ.out hb BQ.out.lt
 have BR1:=blk_below BR.out hb BR.out.lt
 have HB1:=HBA.out.trans (hb.mono HBA.out.size)
 have q0 : w1.cell? ⟨W.heap.size,0,none⟩ = some (.slice ao ps.length cap):=BQ1.c 0 (by simp)
 have lq0:=BQ1.lt
 have fq0:=BQ1.fz 0
 have BQ2:=hidE (blk_set BQ1 0 (.slice (some ⟨g1,0,none⟩) ps.length cp1) (by simp))
 have KQ:=keptB_set (keptB_of_below (bad:=fun k => k = W.heap.size) (Below.refl w1.heap.size w1)) (g:=W.heap.size) rfl 0 (.slice (some ⟨g1,0,none⟩) ps.length cp1)
 have BR2:=hidE (blk_kept BR1 KQ (by omega))
 have OW2:=hidE (own_kept hou KQ (fun k e h9 => by cases e;have h8 : g1 = W.heap.size:=h9;omega))
 have HB2:=hidE (keptB_below KQ HB1.size (fun k e => by omega) |> fun x => HB1.trans x)
 have hgW : W.heap.size + 1 < g1:=by omega
 have hszs : (w1.setCell ⟨W.heap.size,0,none⟩ (.slice (some ⟨g1,0,none⟩) ps.length cp1)).heap.size = w1.heap.size:=by simp
 have HOW:=hidE (owns_baseG (base':=W.heap.size) OW2.out (by omega))
 have q0b : (w1.setCell ⟨W.heap.size,0,none⟩ (.slice (some ⟨g1,0,none⟩) ps.length cp1)).cell? ⟨W.heap.size,0,none⟩ = some (.slice (some ⟨g1,0,none⟩) ps.length cp1):=BQ2.out.c 0 (by simp)
 clear hb hou BQ1 BR1 KQ CA BQ BR HBA OW2 HB1 z0 zl0 zf0
 go_wp2_with fail
 generalize w1.setCell ⟨W.heap.size,0,none⟩ (.slice (some ⟨g1,0,none⟩) ps.length cp1) = wz at *
 clear q0b q0 lq0 fq0
 rw [← hszs] at hg2
 have ND0 : Hid (∀ p ∈ ps,NodG wz p.2 p.1.of):=fun p hp => nodG_below (H0.out.ag.nds p hp).1 HB2.out
 go_loopw [12] (fun i wr => ∃ (m : Nat) (L : List (AgQ × Value)),m ≤ ps.length ∧ i = .int .i64 m ∧ Hid (L.map Prod.fst = ps.map Prod.fst) ∧ Hid (∀ j,m ≤ j → L[j]? = ps[j]?) ∧ Hid (∀ j p,j < m → L[j]? = some p → NodG wr p.2 p.1.of ∧ NewS wz.heap.size wr.heap.size p.2) ∧ Hid (wr.ownsRow W.heap.size 143 2 (.slice (some ⟨g1,0,none⟩) ps.length cp1) ps.length (rowOf cellsAg L)) ∧ Hid (KeptB wz wr (fun k => k = g1))) (fun i _ => ps.length - (intOf i).toNat)
 case atStart => exact ⟨0,ps,Nat.zero_le _,rfl,rfl,fun j _ => rfl,fun j p h9 => absurd h9 (by omega),HOW,keptB_of_below (Below.refl _ _)⟩
 case round =>
  clear HOW
  obtain ⟨m,L,hm,rfl,HF,HM,HN,HO,HK⟩:=hrel
  have HLL : Hid (L.length = ps.length):=by
   show _ = _
   have e:=congrArg List.length HF.out
   simpa using e
  have BQr:=hidE (blk_kept BQ2.out HK.out (by omega))
  by_cases hlt : m < ps.length
  ·have hNL : ∃ a v,ps[m]? = some (a,v):=⟨_,_,List.getElem?_eq_getElem hlt⟩
   obtain ⟨ag,nv,hpm⟩:=hNL
   have hLm : L[m]? = some (ag,nv):=by rw [HM.out m (Nat.le_refl _),hpm]
   have hND:=nodG_below (w':=wr) (H0.out.ag.nds (ag,nv) (List.mem_of_getElem? hpm)).1 (HB2.out.trans (keptB_below HK.out HB2.out.size (fun k e => by omega)))
   have hnl:=(H0.out.ag.nds (ag,nv) (List.mem_of_getElem? hpm)).2
   obtain ⟨kd,nds⟩:=ag
   simp only at hND hnl
   obtain ⟨an,cn,rfl⟩:=rowG_shape hND
   have y0 : wr.cell? ⟨g1,m * 2,none⟩ = some (.int .i64 kd):=by
    have h9:=HO.out.cellAt (m * 2 + 0) (by omega)
    rw [rowOf_at cellsAg_len L m 0 _ hLm (by omega)] at h9
    exact h9
   have y1 : wr.cell? ⟨g1,m * 2 + 1,none⟩ = some (.slice an nds.length cn):=by
    have h9:=HO.out.cellAt (m * 2 + 1) (by omega)
    rw [rowOf_at cellsAg_len L m 1 _ hLm (by omega)] at h9
    exact h9
   have lgr : g1 < wr.heap.size:=(own_at HO.out g1 rfl).2
   have bx:=below_alloc wr (.cells #[.int .i64 kd,.slice an nds.length cn] 143)
   have BX:=hidE (blk_alloc wr [.int .i64 kd,.slice an nds.length cn] 143)
   have CL:=hidE (fun w' (hb : Below (wr.alloc (.cells #[.int .i64 kd,.slice an nds.length cn] 143)).heap.size (wr.alloc (.cells #[.int .i64 kd,.slice an nds.length cn] 143)) w') => cloneNE_any nds _ w' hnl (nodG_below (nodG_below hND bx) hb))
   have OWX:=hidE (own_keep HO.out bx (Nat.le_refl _))
   have BQr:=hidE (blk_below BQr.out bx BQr.out.lt)
   have HBX:=hidE bx
   have HPM:=hidE hpm
   have HLm:=hidE hLm
   have HRL : Hid ((rowOf cellsAg L).length = ps.length * 2):=by show _ = _;rw [rowOf_len cellsAg_len,HLL.out]
   clear bx hND hnl hpm hLm HO
   go_wp2_with fail
   clear y0 y1
   refine wp_region_last (fun w' => Below (wr.alloc (.cells #[.int .i64 kd,.slice an nds.length cn] 143)).heap.size (wr.alloc (.cells #[.int .i64 kd,.slice an nds.length cn] 143)) w') 8 (by kernel_rfl) ?_
   have hS : Below (wr.alloc (.cells #[.int .i64 kd,.slice an nds.length cn] 143)).heap.size (wr.alloc (.cells #[.int .i64 kd,.slice an nds.length cn] 143)) ({ (wr.alloc (.cells #[.int .i64 kd,.slice an nds.length cn] 143)) with drawn:=(wr.alloc (.cells #[.int .i64 kd,.slice an nds.length cn] 143)).drawn + 1 } : World):=(Below.refl _ _).drew
   generalize ({ (wr.alloc (.cells #[.int .i64 kd,.slice an nds.length cn] 143)) with drawn:=(wr.alloc (.cells #[.int .i64 kd,.slice an nds.length cn] 143)).drawn + 1 } : World) = wd at *
   refine last_take (i:=0) (v:=.pointer (some ⟨W.heap.size,0,none⟩)) (L:=#[true,false,false,false,false,false,false,false,false]) [1,6,7,8] rfl (by kernel_rfl) (by kernel_rfl) (by kernel_rfl) (by kernel_rfl) (by kernel_rfl) (fun c a w h => h) (Or.inl ⟨by kernel_rfl,fun wq hq => by go_simp⟩) hS (by kernel_rfl) ?_
   refine last_take (i:=1) (v:=.slice (some ⟨g1,0,none⟩) ps.length cp1) (L:=#[true,true,false,false,false,false,false,false,false]) [6,7,8] rfl (by kernel_rfl) (by kernel_rfl) (by kernel_rfl) (by kernel_rfl) (by kernel_rfl) (fun c a w h => h) (Or.inl ⟨by kernel_rfl,fun wq hq => by have K:=blk_below BQr.out hq BQr.out.lt;have q0 : wq.cell? ⟨W.heap.size,0,none⟩ = some (.slice (some ⟨g1,0,none⟩) ps.length cp1):=K.c 0 (by simp);clear K;go_simp⟩) hS (by kernel_rfl) ?_
   refine last_take (i:=2) (v:=.int .i64 (m : Int)) (L:=#[true,true,true,false,false,false,false,false,false]) [6,7,8] rfl (by kernel_rfl) (by kernel_rfl) (by kernel_rfl) (by kernel_rfl) (by kernel_rfl) (fun c a w h => h) (Or.inl ⟨by kernel_rfl,fun wq hq => by go_simp⟩) hS (by kernel_rfl) ?_
   refine last_take (i:=3) (v:=.pointer (some ⟨wr.heap.size,1,none⟩)) (L:=#[true,true,true,true,false,false,false,false,false]) [4,5,8] rfl (by kernel_rfl) (by kernel_rfl) (by kernel_rfl) (by kernel_rfl) (by kernel_rfl) (fun c a w h => h) (Or.inl ⟨by kernel_rfl,fun wq hq => by go_simp⟩) hS (by kernel_rfl) ?_
   refine last_take (i:=4) (v:=.slice an nds.length cn) (L:=#[true,true,true,true,true,false,false,false,false]) [5,8] rfl (by kernel_rfl) (by kernel_rfl) (by kernel_rfl) (by kernel_rfl) (by kernel_rfl) (fun c a w h => h) (Or.inl ⟨by kernel_rfl,fun wq hq => by have K:=blk_below BX.out hq BX.out.lt;have q1 : wq.cell? ⟨wr.heap.size,1,none⟩ = some (.slice an nds.length cn):=K.c 1 (by simp);clear K;go_simp⟩) hS (by kernel_rfl) ?_
   refine last_go (i:=5) (L:=#[true,true,true,true,true,true,false,false,false]) (by kernel_rfl) rfl (by kernel_rfl) (by kernel_rfl) ?_
   intro K' hK
   go_simp
   refine (CL.out _ hS).mono ?_
   rintro e w2 ⟨u,rfl,hu,hb,hnw⟩
   have hS1:=hS.trans (hb.mono hS.size)
   obtain ⟨au,cu,rfl⟩:=rowG_shape hu
   have HU:=hidE hu
   have HNW:=hidE (newS_mono hnw hS.size (Nat.le_refl _))
   refine hK _ _ ⟨fun _ => hS1,?_⟩
   clear hK hu hb hnw
   refine last_take (i:=6) (v:=.pointer (some ⟨g1,m * 2,none⟩)) (L:=#[true,true,true,true,true,true,true,false,false]) [7,8] rfl (by kernel_rfl) (by kernel_rfl) (by kernel_rfl) (by kernel_rfl) (by kernel_rfl) (fun c a w h => h) (Or.inl ⟨by kernel_rfl,fun wq hq => by go_simp⟩) hS1 (by kernel_rfl) ?_
   refine last_take (i:=7) (v:=.pointer (some ⟨g1,m * 2 + 1,none⟩)) (L:=#[true,true,true,true,true,true,true,true,false]) [8] rfl (by kernel_rfl) (by kernel_rfl) (by kernel_rfl) (by kernel_rfl) (by kernel_rfl) (fun c a w h => h) (Or.inl ⟨by kernel_rfl,fun wq hq => by go_simp⟩) hS1 (by kernel_rfl) ?_
   refine last_go (i:=8) (L:=#[true,true,true,true,true,true,true,true,true]) (by kernel_rfl) rfl (by kernel_rfl) (by kernel_rfl) ?_
   intro K' hK
   have OW2:=hidE (own_keep OWX.out hS1 (Nat.le_refl _))
   have y1:=OW2.out.cellAt (m * 2 + 1) (by omega)
   have hrl : (rowOf cellsAg L).length = ps.length * 2:=HRL.out
   rw [List.getElem?_eq_getElem (by omega)] at y1
   generalize (rowOf cellsAg L)[m * 2 + 1] = r1 at y1
   clear hrl
   have z1:=owns_thawG2 OW2.out (m * 2 + 1)
   have lg1 : g1 < w2.heap.size:=(own_at OW2.out g1 rfl).2
   go_simp
   refine hK _ _ ⟨fun h => absurd rfl h,?_⟩
   clear hK
   refine last_done (by kernel_rfl) ?_ _
   have hgw : wz.heap.size ≤ wr.heap.size:=HK.out.b0.size
   have K9:=keptB_set (keptB_of_below (bad:=fun k => k = g1) (HBX.out.trans (hS1.mono HBX.out.size))) (g:=g1) rfl (m * 2 + 1) (.slice au nds.length cu)
   have K2:=keptB_set (keptB_of_below (bad:=fun k => k = g1) (Below.refl w2.heap.size w2)) (g:=g1) rfl (m * 2 + 1) (.slice au nds.length cu)
   have HK2:=hidE (keptB_trans HK.out K9)
   have OW3:=owns_setG OW2.out (m * 2 + 1) (.slice au nds.length cu)
   rw [rowAg_setN L m ⟨kd,nds⟩ _ _ HLm.out] at OW3
   have HO3:=hidE OW3
   have hbg : (wr.alloc (.cells #[.int .i64 kd,.slice an nds.length cn] 143)).heap.size = wr.heap.size + 1:=by simp
   have HF3 : Hid ((L.set m (⟨kd,nds⟩,.slice au nds.length cu)).map Prod.fst = ps.map Prod.fst):=by
    show _ = _
    rw [List.map_set,← HF.out]
    exact List.ext_getElem? fun j => by
     by_cases hj : j = m
     ·subst hj
      rw [List.getElem?_set_self (by rw [List.length_map,HLL.out];exact hlt),List.getElem?_map,HLm.out]
      rfl
     ·rw [List.getElem?_set_ne (fun e => hj e.symm)]
   have HM3 : Hid (∀ j,m + 1 ≤ j → (L.set m (⟨kd,nds⟩,.slice au nds.length cu))[j]? = ps[j]?):=fun j hj => by
    rw [List.getElem?_set_ne (by omega)]
    exact HM.out j (by omega)
   have HN3 : Hid (∀ j p,j < m + 1 → (L.set m (⟨kd,nds⟩,.slice au nds.length cu))[j]? = some p → NodG (w2.setCell ⟨g1,m * 2 + 1,none⟩ (.slice au nds.length cu)) p.2 p.1.of ∧ NewS wz.heap.size (w2.setCell ⟨g1,m * 2 + 1,none⟩ (.slice au nds.length cu)).heap.size p.2):=fun j p hj hp => by
    by_cases h9 : j = m
    ·subst h9
     rw [List.getElem?_set_self (by rw [HLL.out];exact hlt)] at hp
     cases hp
     exact ⟨rowG_kept HU.out K2 (fun g o n9 c9 e => by have:=HNW.out g o n9 c9 e;omega),newS_mono HNW.out (by omega) (by simp)⟩
    ·rw [List.getElem?_set_ne (fun e => h9 e.symm)] at hp
     obtain ⟨n1,n2⟩:=HN.out j p (by omega) hp
     exact ⟨rowG_kept n1 K9 (fun g o n9 c9 e => by have:=n2 g o n9 c9 e;omega),newS_mono n2 (Nat.le_refl _) (by have:=hS1.size;simp;omega)⟩
   clear hS hS1 OW2 OWX BX BQr HU HNW CL K9 K2 OW3 HK HF HM HN HLm HPM HBX
   go_wp2_with fail
   go_roundw
   case rel => exact ⟨m + 1,L.set m (⟨kd,nds⟩,.slice au nds.length cu),by omega,by go_num,HF3,HM3,HN3,HO3,HK2⟩
   case measure => simp [intOf];omega
  ·have hml : m = ps.length:=by omega
   subst hml
   have BRr:=hidE (blk_kept BR2.out HK.out (by omega))
   have HBW:=hidE (HB2.out.trans (keptB_below HK.out HB2.out.size (fun k e => by omega)))
   have HWR:=hidE (rowG_of_owns HO.out)
   have CW:=hidE (fun w' (hb : Below wr.heap.size wr w') => cloneNE_any q.wh _ w' H0.out.lw (nodG_below H0.out.wh (HBW.out.trans (hb.mono HBW.out.size))))
   have CB:=hidE (fun w' (hb : Below wr.heap.size wr w') => cloneNE_any q.bys _ w' H0.out.lb (nodG_below H0.out.by_ (HBW.out.trans (hb.mono HBW.out.size))))
   have hNL : ∀ p ∈ L,NodG wr p.2 p.1.of ∧ NewS wz.heap.size wr.heap.size p.2 ∧ p.1.of.length ≤ 1000:=fun p hp => by
    obtain ⟨j,hj,rfl⟩:=List.mem_iff_getElem.1 hp
    obtain ⟨n1,n2⟩:=HN.out j L[j] (by rw [← HLL.out];exact hj) (List.getElem?_eq_getElem hj)
    have e : (L.map Prod.fst)[j]? = (ps.map Prod.fst)[j]?:=by rw [HF.out]
    rw [List.getElem?_map,List.getElem?_map,List.getElem?_eq_getElem hj,List.getElem?_eq_getElem (by rw [← HLL.out];exact hj)] at e
    simp only [Option.map_some,Option.some.injEq] at e
    exact ⟨n1,n2,by rw [e];exact (H0.out.ag.nds _ (List.getElem_mem _)).2⟩
   have HNL:=hidE hNL
   have hwzr : wz.heap.size ≤ wr.heap.size:=HK.out.b0.size
   clear HN hNL HM
   go_wp2_with fail
   refine wp_region_last (fun w' => W.heap.size < w'.heap.size ∧ w'.cell? ⟨W.heap.size,2,none⟩ = some (.slice a3 q.bys.length c3)) 9 (by kernel_rfl) ?_
   have hSb : Below wr.heap.size wr ({ wr with drawn:=wr.drawn + 1 } : World):=(Below.refl _ _).drew
   have BQd:=hidE (blk_below BQr.out hSb BQr.out.lt)
   generalize ({ wr with drawn:=wr.drawn + 1 } : World) = wd at *
   have HSS : Hid (∀ w' : World,W.heap.size < w'.heap.size → w'.cell? ⟨W.heap.size,2,none⟩ = some (.slice a3 q.bys.length c3) → W.heap.size < w'.heap.size ∧ w'.cell? ⟨W.heap.size,2,none⟩ = some (.slice a3 q.bys.length c3)):=fun w' a b => ⟨a,b⟩
   have hS:=HSS.out wd BQd.out.lt (BQd.out.c 2 (by simp))
   have qd1 : wd.cell? ⟨W.heap.size,1,none⟩ = some (.slice a2 q.wh.length c2):=BQd.out.c 1 (by simp)
   have ld1:=BQd.out.lt
   refine last_take (i:=0) (v:=.pointer (some ⟨W.heap.size,1,none⟩)) (L:=#[true,false,false,false,false,false,false,false,false,false]) [1,2,7,9] rfl (by kernel_rfl) (by kernel_rfl) (by kernel_rfl) (by kernel_rfl) (by kernel_rfl) (fun c a w h => h) (Or.inl ⟨by kernel_rfl,fun wq hq => by go_simp⟩) hS (by kernel_rfl) ?_
   refine last_take (i:=3) (v:=.pointer (some ⟨W.heap.size,2,none⟩)) (L:=#[true,false,false,true,false,false,false,false,false,false]) [4,5,9] rfl (by kernel_rfl) (by kernel_rfl) (by kernel_rfl) (by kernel_rfl) (by kernel_rfl) (fun c a w h => h) (Or.inl ⟨by kernel_rfl,fun wq hq => by go_simp⟩) hS (by kernel_rfl) ?_
   refine last_take (i:=4) (v:=.slice a3 q.bys.length c3) (L:=#[true,false,false,true,true,false,false,false,false,false]) [5,9] rfl (by kernel_rfl) (by kernel_rfl) (by kernel_rfl) (by kernel_rfl) (by kernel_rfl) (fun c a w h => h) (Or.inl ⟨by kernel_rfl,fun wq hq => by obtain ⟨hq1,hq2⟩:=hq;go_simp⟩) hS (by kernel_rfl) ?_
   refine last_go (i:=1) (L:=#[true,true,false,true,true,false,false,false,false,false]) (by kernel_rfl) rfl (by kernel_rfl) (by kernel_rfl) ?_
   intro K' hK
   go_simp
   refine hK _ _ ⟨fun _ => hS,?_⟩
   clear hK
   refine last_go (i:=2) (L:=#[true,true,true,true,true,false,false,false,false,false]) (by kernel_rfl) rfl (by kernel_rfl) (by kernel_rfl) ?_
   intro K' hK
   go_simp
   refine (CW.out _ hSb).mono ?_
   rintro e w5 ⟨u,rfl,hu,hb,hnw⟩
   have hSb5:=hSb.trans (hb.mono hSb.size)
   obtain ⟨aw,cw,rfl⟩:=rowG_shape hu
   have HUW:=hidE hu
   have HNW:=hidE (newS_mono hnw hSb.size (Nat.le_refl _))
   have BQ5:=hidE (blk_below BQd.out hb BQd.out.lt)
   have hS5:=HSS.out w5 BQ5.out.lt (BQ5.out.c 2 (by simp))
   refine hK _ _ ⟨fun _ => hS5,?_⟩
   clear hK hu hnw
   refine last_take (i:=6) (v:=.pointer (some ⟨W.heap.size,1,none⟩)) (L:=#[true,true,true,true,true,false,true,false,false,false]) [7,9] rfl (by kernel_rfl) (by kernel_rfl) (by kernel_rfl) (by kernel_rfl) (by kernel_rfl) (fun c a w h => h) (Or.inl ⟨by kernel_rfl,fun wq hq => by go_simp⟩) hS5 (by kernel_rfl) ?_
   refine last_go (i:=5) (L:=#[true,true,true,true,true,true,true,false,false,false]) (by kernel_rfl) rfl (by kernel_rfl) (by kernel_rfl) ?_
   intro K' hK
   go_simp
   refine (CB.out _ hSb5).mono ?_
   rintro e w6 ⟨u,rfl,hu,hb6,hnw⟩
   have hSb6:=hSb5.trans (hb6.mono hSb5.size)
   obtain ⟨ab,cb,rfl⟩:=rowG_shape hu
   have HUB:=hidE hu
   have HNB:=hidE (newS_mono hnw hSb5.size (Nat.le_refl _))
   have HUW6:=hidE (nodG_below HUW.out hb6)
   have BQ6:=hidE (blk_below BQ5.out hb6 BQ5.out.lt)
   have hS6:=HSS.out w6 BQ6.out.lt (BQ6.out.c 2 (by simp))
   refine hK _ _ ⟨fun _ => hS6,?_⟩
   clear hK hu hnw
   refine last_go (i:=7) (L:=#[true,true,true,true,true,true,true,true,false,false]) (by kernel_rfl) rfl (by kernel_rfl) (by kernel_rfl) ?_
   intro K' hK
   have q1 : w6.cell? ⟨W.heap.size,1,none⟩ = some (.slice a2 q.wh.length c2):=BQ6.out.c 1 (by simp)
   have f1:=BQ6.out.fz 1
   have l1:=BQ6.out.lt
   go_simp
   have BQ7:=hidE (blk_set BQ6.out 1 (.slice aw q.wh.length cw) (by simp))
   have hS7:=HSS.out _ BQ7.out.lt (BQ7.out.c 2 (by simp))
   refine hK _ _ ⟨fun _ => hS7,?_⟩
   clear hK
   refine last_take (i:=8) (v:=.pointer (some ⟨W.heap.size,2,none⟩)) (L:=#[true,true,true,true,true,true,true,true,true,false]) [9] rfl (by kernel_rfl) (by kernel_rfl) (by kernel_rfl) (by kernel_rfl) (by kernel_rfl) (fun c a w h => h) (Or.inl ⟨by kernel_rfl,fun wq hq => by go_simp⟩) hS7 (by kernel_rfl) ?_
   refine last_go (i:=9) (L:=#[true,true,true,true,true,true,true,true,true,true]) (by kernel_rfl) rfl (by kernel_rfl) (by kernel_rfl) ?_
   intro K' hK
   have q2 : (w6.setCell ⟨W.heap.size,1,none⟩ (.slice aw q.wh.length cw)).cell? ⟨W.heap.size,2,none⟩ = some (.slice a3 q.bys.length c3):=BQ7.out.c 2 (by simp)
   have f2:=BQ7.out.fz 2
   have l2:=BQ7.out.lt
   go_simp
   refine hK _ _ ⟨fun h => absurd rfl h,?_⟩
   clear hK
   refine last_done (by kernel_rfl) ?_ _
   have BQ8:=hidE (blk_set BQ7.out 2 (.slice ab q.bys.length cb) (by simp))
   have K8:=keptB_set (keptB_set (keptB_of_below (bad:=fun k => k = W.heap.size) (Below.refl w6.heap.size w6)) (g:=W.heap.size) rfl 1 (.slice aw q.wh.length cw)) (g:=W.heap.size) rfl 2 (.slice ab q.bys.length cb)
   have BR8:=hidE (blk_kept (blk_below BRr.out hSb6 BRr.out.lt) K8 (by omega))
   have KF:=(keptB_set (keptB_set (keptB_set (keptB_set (keptB_set (keptB_set (keptB_set (keptB_of_below (bad:=fun k => k = W.heap.size + 1) (Below.refl ((w6.setCell ⟨W.heap.size,1,none⟩ (.slice aw q.wh.length cw)).setCell ⟨W.heap.size,2,none⟩ (.slice ab q.bys.length cb)).heap.size ((w6.setCell ⟨W.heap.size,1,none⟩ (.slice aw q.wh.length cw)).setCell ⟨W.heap.size,2,none⟩ (.slice ab q.bys.length cb)))) rfl 0 (Value.slice (some ⟨g1,0,none⟩) ps.length cp1)) rfl 1 (Value.slice aw q.wh.length cw)) rfl 2 (Value.slice ab q.bys.length cb)) rfl 3 (Value.int .i64 q.size)) rfl 4 (Value.int .i64 q.slide)) rfl 5 (Value.int .i64 q.delay)) rfl 6 (Value.int .i64 q.late))
   have d0 : ((w6.setCell ⟨W.heap.size,1,none⟩ (.slice aw q.wh.length cw)).setCell ⟨W.heap.size,2,none⟩ (.slice ab q.bys.length cb)).cell? ⟨W.heap.size,0,none⟩ = some (Value.slice (some ⟨g1,0,none⟩) ps.length cp1):=BQ8.out.c 0 (by simp)
   have d1 : ((w6.setCell ⟨W.heap.size,1,none⟩ (.slice aw q.wh.length cw)).setCell ⟨W.heap.size,2,none⟩ (.slice ab q.bys.length cb)).cell? ⟨W.heap.size,1,none⟩ = some (Value.slice aw q.wh.length cw):=BQ8.out.c 1 (by simp)
   have d2 : ((w6.setCell ⟨W.heap.size,1,none⟩ (.slice aw q.wh.length cw)).setCell ⟨W.heap.size,2,none⟩ (.slice ab q.bys.length cb)).cell? ⟨W.heap.size,2,none⟩ = some (Value.slice ab q.bys.length cb):=BQ8.out.c 2 (by simp)
   have d3 : ((w6.setCell ⟨W.heap.size,1,none⟩ (.slice aw q.wh.length cw)).setCell ⟨W.heap.size,2,none⟩ (.slice ab q.bys.length cb)).cell? ⟨W.heap.size,3,none⟩ = some (Value.int .i64 q.size):=BQ8.out.c 3 (by simp)
   have d4 : ((w6.setCell ⟨W.heap.size,1,none⟩ (.slice aw q.wh.length cw)).setCell ⟨W.heap.size,2,none⟩ (.slice ab q.bys.length cb)).cell? ⟨W.heap.size,4,none⟩ = some (Value.int .i64 q.slide):=BQ8.out.c 4 (by simp)
   have d5 : ((w6.setCell ⟨W.heap.size,1,none⟩ (.slice aw q.wh.length cw)).setCell ⟨W.heap.size,2,none⟩ (.slice ab q.bys.length cb)).cell? ⟨W.heap.size,5,none⟩ = some (Value.int .i64 q.delay):=BQ8.out.c 5 (by simp)
   have d6 : ((w6.setCell ⟨W.heap.size,1,none⟩ (.slice aw q.wh.length cw)).setCell ⟨W.heap.size,2,none⟩ (.slice ab q.bys.length cb)).cell? ⟨W.heap.size,6,none⟩ = some (Value.int .i64 q.late):=BQ8.out.c 6 (by simp)
   have ld:=BQ8.out.lt
   have r0 : ((w6.setCell ⟨W.heap.size,1,none⟩ (.slice aw q.wh.length cw)).setCell ⟨W.heap.size,2,none⟩ (.slice ab q.bys.length cb)).cell? ⟨W.heap.size + 1,0,none⟩ = some (.slice none 0 0):=BR8.out.c 0 (by simp)
   have r1 : ((w6.setCell ⟨W.heap.size,1,none⟩ (.slice aw q.wh.length cw)).setCell ⟨W.heap.size,2,none⟩ (.slice ab q.bys.length cb)).cell? ⟨W.heap.size + 1,1,none⟩ = some (.slice none 0 0):=BR8.out.c 1 (by simp)
   have r2 : ((w6.setCell ⟨W.heap.size,1,none⟩ (.slice aw q.wh.length cw)).setCell ⟨W.heap.size,2,none⟩ (.slice ab q.bys.length cb)).cell? ⟨W.heap.size + 1,2,none⟩ = some (.slice none 0 0):=BR8.out.c 2 (by simp)
   have r3 : ((w6.setCell ⟨W.heap.size,1,none⟩ (.slice aw q.wh.length cw)).setCell ⟨W.heap.size,2,none⟩ (.slice ab q.bys.length cb)).cell? ⟨W.heap.size + 1,3,none⟩ = some (.int .i64 0):=BR8.out.c 3 (by simp)
   have r4 : ((w6.setCell ⟨W.heap.size,1,none⟩ (.slice aw q.wh.length cw)).setCell ⟨W.heap.size,2,none⟩ (.slice ab q.bys.length cb)).cell? ⟨W.heap.size + 1,4,none⟩ = some (.int .i64 0):=BR8.out.c 4 (by simp)
   have r5 : ((w6.setCell ⟨W.heap.size,1,none⟩ (.slice aw q.wh.length cw)).setCell ⟨W.heap.size,2,none⟩ (.slice ab q.bys.length cb)).cell? ⟨W.heap.size + 1,5,none⟩ = some (.int .i64 0):=BR8.out.c 5 (by simp)
   have r6 : ((w6.setCell ⟨W.heap.size,1,none⟩ (.slice aw q.wh.length cw)).setCell ⟨W.heap.size,2,none⟩ (.slice ab q.bys.length cb)).cell? ⟨W.heap.size + 1,6,none⟩ = some (.int .i64 0):=BR8.out.c 6 (by simp)
   have lr:=BR8.out.lt
   have fr0:=BR8.out.fz 0
   have fr1:=BR8.out.fz 1
   have fr2:=BR8.out.fz 2
   have fr3:=BR8.out.fz 3
   have fr4:=BR8.out.fz 4
   have fr5:=BR8.out.fz 5
   have fr6:=BR8.out.fz 6
   have KA:=keptB_trans (keptB_mono K8 (fun k e => Or.inl e)) (keptB_mono KF (fun k (e : k = W.heap.size + 1) => (Or.inr e : k = W.heap.size ∨ k = W.heap.size + 1)))
   have FIN : Hid (QyG (((((((((w6.setCell ⟨W.heap.size,1,none⟩ (.slice aw q.wh.length cw)).setCell ⟨W.heap.size,2,none⟩ (.slice ab q.bys.length cb)).setCell ⟨W.heap.size + 1,0,none⟩ (Value.slice (some ⟨g1,0,none⟩) ps.length cp1)).setCell ⟨W.heap.size + 1,1,none⟩ (Value.slice aw q.wh.length cw)).setCell ⟨W.heap.size + 1,2,none⟩ (Value.slice ab q.bys.length cb)).setCell ⟨W.heap.size + 1,3,none⟩ (Value.int .i64 q.size)).setCell ⟨W.heap.size + 1,4,none⟩ (Value.int .i64 q.slide)).setCell ⟨W.heap.size + 1,5,none⟩ (Value.int .i64 q.delay)).setCell ⟨W.heap.size + 1,6,none⟩ (Value.int .i64 q.late)) (.slice (some ⟨g1,0,none⟩) ps.length cp1) (.slice aw q.wh.length cw) (.slice ab q.bys.length cb) q L ∧ Below W.heap.size W (((((((((w6.setCell ⟨W.heap.size,1,none⟩ (.slice aw q.wh.length cw)).setCell ⟨W.heap.size,2,none⟩ (.slice ab q.bys.length cb)).setCell ⟨W.heap.size + 1,0,none⟩ (Value.slice (some ⟨g1,0,none⟩) ps.length cp1)).setCell ⟨W.heap.size + 1,1,none⟩ (Value.slice aw q.wh.length cw)).setCell ⟨W.heap.size + 1,2,none⟩ (Value.slice ab q.bys.length cb)).setCell ⟨W.heap.size + 1,3,none⟩ (Value.int .i64 q.size)).setCell ⟨W.heap.size + 1,4,none⟩ (Value.int .i64 q.slide)).setCell ⟨W.heap.size + 1,5,none⟩ (Value.int .i64 q.delay)).setCell ⟨W.heap.size + 1,6,none⟩ (Value.int .i64 q.late))):=by
    have hw6:=hSb6.size
    refine ⟨⟨⟨?_,fun p hp => ?_⟩,by rw [HF.out];exact H0.out.qa,?_,?_,H0.out.lw,H0.out.lb⟩,?_⟩
    ·rw [HLL.out]
     exact rowG_kept (rowG_below HWR.out hSb6) KA (fun g o n9 c9 e => by cases e;omega)
    ·obtain ⟨n1,n2,n3⟩:=HNL.out p hp
     exact ⟨rowG_kept (nodG_below n1 hSb6) KA (fun g o n9 c9 e => by have:=n2 g o n9 c9 e;omega),n3⟩
    ·exact rowG_kept HUW6.out KA (fun g o n9 c9 e => by have:=HNW.out g o n9 c9 e;omega)
    ·exact rowG_kept HUB.out KA (fun g o n9 c9 e => by have:=HNB.out g o n9 c9 e;omega)
    ·exact HBW.out.trans (keptB_below (keptB_trans (keptB_of_below hSb6) KA) HBW.out.size (fun k e => by omega))
   have hwfs : (((((((((w6.setCell ⟨W.heap.size,1,none⟩ (.slice aw q.wh.length cw)).setCell ⟨W.heap.size,2,none⟩ (.slice ab q.bys.length cb)).setCell ⟨W.heap.size + 1,0,none⟩ (Value.slice (some ⟨g1,0,none⟩) ps.length cp1)).setCell ⟨W.heap.size + 1,1,none⟩ (Value.slice aw q.wh.length cw)).setCell ⟨W.heap.size + 1,2,none⟩ (Value.slice ab q.bys.length cb)).setCell ⟨W.heap.size + 1,3,none⟩ (Value.int .i64 q.size)).setCell ⟨W.heap.size + 1,4,none⟩ (Value.int .i64 q.slide)).setCell ⟨W.heap.size + 1,5,none⟩ (Value.int .i64 q.delay)).setCell ⟨W.heap.size + 1,6,none⟩ (Value.int .i64 q.late)).heap.size = w6.heap.size:=by simp
   have hs56:=hb6.size
   have hs6r:=hSb6.size
   have HNW2:=hidE (newS_mono (B':=W.heap.size) (N':=(((((((((w6.setCell ⟨W.heap.size,1,none⟩ (.slice aw q.wh.length cw)).setCell ⟨W.heap.size,2,none⟩ (.slice ab q.bys.length cb)).setCell ⟨W.heap.size + 1,0,none⟩ (Value.slice (some ⟨g1,0,none⟩) ps.length cp1)).setCell ⟨W.heap.size + 1,1,none⟩ (Value.slice aw q.wh.length cw)).setCell ⟨W.heap.size + 1,2,none⟩ (Value.slice ab q.bys.length cb)).setCell ⟨W.heap.size + 1,3,none⟩ (Value.int .i64 q.size)).setCell ⟨W.heap.size + 1,4,none⟩ (Value.int .i64 q.slide)).setCell ⟨W.heap.size + 1,5,none⟩ (Value.int .i64 q.delay)).setCell ⟨W.heap.size + 1,6,none⟩ (Value.int .i64 q.late)).heap.size) HNW.out (by omega) (by omega))
   have HNB2:=hidE (newS_mono (B':=W.heap.size) (N':=(((((((((w6.setCell ⟨W.heap.size,1,none⟩ (.slice aw q.wh.length cw)).setCell ⟨W.heap.size,2,none⟩ (.slice ab q.bys.length cb)).setCell ⟨W.heap.size + 1,0,none⟩ (Value.slice (some ⟨g1,0,none⟩) ps.length cp1)).setCell ⟨W.heap.size + 1,1,none⟩ (Value.slice aw q.wh.length cw)).setCell ⟨W.heap.size + 1,2,none⟩ (Value.slice ab q.bys.length cb)).setCell ⟨W.heap.size + 1,3,none⟩ (Value.int .i64 q.size)).setCell ⟨W.heap.size + 1,4,none⟩ (Value.int .i64 q.slide)).setCell ⟨W.heap.size + 1,5,none⟩ (Value.int .i64 q.delay)).setCell ⟨W.heap.size + 1,6,none⟩ (Value.int .i64 q.late)).heap.size) HNB.out (by have:=hSb5.size;omega) (by omega))
   have HNA2 : Hid (NewS W.heap.size (((((((((w6.setCell ⟨W.heap.size,1,none⟩ (.slice aw q.wh.length cw)).setCell ⟨W.heap.size,2,none⟩ (.slice ab q.bys.length cb)).setCell ⟨W.heap.size + 1,0,none⟩ (Value.slice (some ⟨g1,0,none⟩) ps.length cp1)).setCell ⟨W.heap.size + 1,1,none⟩ (Value.slice aw q.wh.length cw)).setCell ⟨W.heap.size + 1,2,none⟩ (Value.slice ab q.bys.length cb)).setCell ⟨W.heap.size + 1,3,none⟩ (Value.int .i64 q.size)).setCell ⟨W.heap.size + 1,4,none⟩ (Value.int .i64 q.slide)).setCell ⟨W.heap.size + 1,5,none⟩ (Value.int .i64 q.delay)).setCell ⟨W.heap.size + 1,6,none⟩ (Value.int .i64 q.late)).heap.size (.slice (some ⟨g1,0,none⟩) ps.length cp1)):=fun g o n9 c9 e => by cases e;constructor <;> omega
   have HNP2 : Hid (∀ p ∈ L,NewS W.heap.size (((((((((w6.setCell ⟨W.heap.size,1,none⟩ (.slice aw q.wh.length cw)).setCell ⟨W.heap.size,2,none⟩ (.slice ab q.bys.length cb)).setCell ⟨W.heap.size + 1,0,none⟩ (Value.slice (some ⟨g1,0,none⟩) ps.length cp1)).setCell ⟨W.heap.size + 1,1,none⟩ (Value.slice aw q.wh.length cw)).setCell ⟨W.heap.size + 1,2,none⟩ (Value.slice ab q.bys.length cb)).setCell ⟨W.heap.size + 1,3,none⟩ (Value.int .i64 q.size)).setCell ⟨W.heap.size + 1,4,none⟩ (Value.int .i64 q.slide)).setCell ⟨W.heap.size + 1,5,none⟩ (Value.int .i64 q.delay)).setCell ⟨W.heap.size + 1,6,none⟩ (Value.int .i64 q.late)).heap.size p.2):=fun p hp => newS_mono (HNL.out p hp).2.1 (by omega) (by omega)
   clear hwfs hs56 hs6r
   have HLL2:=HLL
   clear KA KF K8 BQ8 BR8 BQ7 BQ6 BQ5 hS hS5 hS6 hS7 hSb hSb5 hSb6 HUW6 HUB HUW HNW HNB HNL HWR CW CB HSS qd1 ld1 HK HF BQr BRr BQd q1 q2 f1 f2 l1 l2 hb hb6
   go_wp2_with fail
   refine bodyPost_ret (v:=.agg #[Value.slice (some ⟨g1,0,none⟩) ps.length cp1,Value.slice aw q.wh.length cw,Value.slice ab q.bys.length cb,Value.int .i64 q.size,Value.int .i64 q.slide,Value.int .i64 q.delay,Value.int .i64 q.late]) (by simp [results,Tryz.results42,go_sem,r0,r1,r2,r3,r4,r5,r6]) rfl ?_
   exact ⟨_,_,_,L,rfl,FIN.out.1,HNA2.out,HNW2.out,HNB2.out,HNP2.out,FIN.out.2⟩
end Go.Proofs.YtcgjflamgnjhcaaGreatDoor
