/- Several texts in one, each with its own head. What is proved: what the parts say. Conditions: theirs. -/
import Derived.Test.YteaanpdckkmjoaaGreatDoorTx3J
import Derived.Lib.ItoaNum
import Derived.Lib.AtoiAll
import Derived.Test.YteaanpdckkmjoaaGreatDoorLexPureJ
import Derived.Test.YteaanpdckkmjoaaGreatDoorParsePureJ
import Derived.Test.YteaanpdckkmjoaaGreatDoorTextVJ
import Derived.Deep.RegionWith
import Derived.Laws.BytesArg
import Derived.Test.YteaanpdckkmjoaaGreatDoorExprPureJ
import Derived.OrdersHeld
import Derived.Test.YteaanpdckkmjoaaGreatDoorRqCJ
import Derived.Test.YteaanpdckkmjoaaGreatDoorSameJ
set_option linter.unusedVariables false
set_option linter.unusedSimpArgs false
set_option maxRecDepth 100000
set_option maxHeartbeats 8000000
namespace Go.Proofs.YteaanpdckkmjoaaGreatDoor
open Go.ChangeShapes Go.WideShapes Go.ChangeAt Go.RowKit
theorem qtext_any (va vw vb : Value) (q : Qy) (ps : List (AgQ × Value)) (w : World) (h : QyG w va vw vb q ps) (hc : chkQ q = 0) (ht : TabQ w) :
  Calls Tryz.prog 10 #[qyV va vw vb q] w fun e w' => e = .returned (.string (qyB q)) ∧ Below w.heap.size w w':=by
 obtain ⟨ao,cap,rfl⟩:=rowG_shape h.ag.row
 obtain ⟨a2,c2,rfl⟩:=rowG_shape h.wh
 obtain ⟨a3,c3,rfl⟩:=rowG_shape h.by_
 have hk:=okQ_of hc
 have HK:=hidE hk
 have ba:=below_alloc w (.cells #[.slice ao ps.length cap,.slice a2 q.wh.length c2,.slice a3 q.bys.length c3,.int .i64 q.size,.int .i64 q.slide,.int .i64 q.delay,.int .i64 q.late] 25)
 have BA:=hidE ba
 have BQ:=hidE (blk_alloc w [.slice ao ps.length cap,.slice a2 q.wh.length c2,.slice a3 q.bys.length c3,.int .i64 q.size,.int .i64 q.slide,.int .i64 q.delay,.int .i64 q.late] 25)
 have CK:=qcheck_any _ _ _ q ps _ (qyG_below h ba)
 rw [hc,errC_0] at CK
 unfold qyV at CK ⊢
 have CKH:=hidE CK
 have HG:=hidE (qyG_below h ba)
 have T0:=hidE (ht.below ba)
 have hlen : q.aggs.length = ps.length:=by rw [← h.qa];simp
 have hn4 : ps.length ≤ 4:=by have:=hk.n4;omega
 have hn0 : 0 < ps.length:=by have:=hk.n0;omega
 have hpc : ∀ p ∈ ps,chkA p.1 = 0:=fun p hp => hk.ag p.1 (by rw [← h.qa];exact List.mem_map_of_mem hp)
 have HPC:=hidE hpc
 have EQ : Hid (qyB q = partB ⟨#[32,103,114,111,117,112,32,98,121,32]⟩ (partB ⟨#[32,119,104,101,114,101,32]⟩ (⟨#[115,101,108,101,99,116,32]⟩ ++ ⟨(Lib.join ((ps.map fun p => agB p.1).map fun x => x.data.toList) [44,32]).toArray⟩ ++ ⟨#[32,102,114,111,109,32,101,118,101,110,116,115]⟩) q.wh) q.bys ++ ⟨#[32,119,105,110,100,111,119,32]⟩ ++ decB q.size ++ ⟨#[32,115,108,105,100,101,32]⟩ ++ decB q.slide ++ ⟨#[32,100,101,108,97,121,32]⟩ ++ decB q.delay ++ ⟨#[32,108,97,116,101,32]⟩ ++ decB q.late):=by
  show _ = _
  unfold qyB
  rw [← h.qa,List.map_map,List.map_map]
  rfl
 obtain ⟨i0,hi0,hz0,hz1,hz2⟩:=info_partsA infoStr
 clear h hc ht CK ba hlen hk hpc
 go_enter Tryz.func10,Tryz.ntmps10
 go_wp2_with fail
 generalize w.alloc (.cells #[.slice ao ps.length cap,.slice a2 q.wh.length c2,.slice a3 q.bys.length c3,.int .i64 q.size,.int .i64 q.slide,.int .i64 q.delay,.int .i64 q.late] 25) = w0 at *
 refine CKH.out.mono ?_
 rintro r w1 ⟨rfl,hb⟩
 have B1:=hidE (BA.out.trans (hb.mono BA.out.size))
 have BQ1:=hidE (blk_below BQ.out hb BQ.out.lt)
 have HG1:=hidE (qyG_below HG.out hb)
 have T1:=hidE (T0.out.below hb)
 have d0:=BQ1.out.c 0 (by simp)
 simp only [List.getElem?_cons_zero] at d0
 have lq1:=BQ1.out.lt
 clear hb CKH BQ HG T0 BA
 go_wp2_with (at_make;go_must (refine wpList_make_own _ rfl _ _ 52 rfl w1.heap.size 9 i0 (.string ⟨#[]⟩) 1 Tryz.underlying52 hi0 hz0 hz1 .i64 .i64 _ ps.length rfl rfl rfl (by rw [hz2];omega) (by show _ ≤ 2 ^ 63 - 1;omega) (Nat.le_refl _) ?_))
 intro w3 ho3 hg3
 have b3 : Below w1.heap.size w1 w3:=(Below.refl _ _).grown hg3 (Nat.le_refl _) (fun k hk => by cases hk)
 have HB3:=hidE b3
 have HO3:=hidE ho3
 have d0':=(b3.cell (p:=⟨w.heap.size,0,none⟩) lq1).trans d0
 clear ho3 hg3 b3
 go_wp2_with fail
 go_loopw [3,17] (fun v i wr => ∃ j : Nat,j ≤ ps.length ∧ i = .int .i64 j ∧ Hid (wr.ownsRow w1.heap.size 9 1 v j ((ps.take j).map fun p => Value.string (agB p.1))) ∧ Hid (Below w1.heap.size w1 wr) ∧ Hid (∀ p ∈ ps.take j,(agB p.1).size ≤ 20500000000000)) (fun _ i _ => ps.length - (intOf i).toNat)
 case atStart => exact ⟨0,Nat.zero_le _,rfl,(by show World.ownsRow _ _ _ _ _ _ _;simpa using HO3.out),HB3,fun p hp => by simp at hp⟩
 case round =>
  clear HB3 HO3 d0 d0'
  obtain ⟨j,hj,rfl,HO,HB,HZ⟩:=hrel
  obtain ⟨ao9,cap9,rfl⟩:=owns_shapeE HO.out
  by_cases hlt : j < ps.length
  ·have HGr:=hidE (qyG_below HG1.out HB.out)
   obtain ⟨g,off,hao,hcell,q1,q2,lg⟩:=rowOf_val cellsAg_len HGr.out.ag.row j hlt
   subst hao
   have hnd:=HGr.out.ag.nds ps[j] (List.getElem_mem hlt)
   have hca:=HPC.out ps[j] (List.getElem_mem hlt)
   have htk : ps.take (j + 1) = ps.take j ++ [ps[j]]:=by rw [List.take_add_one];simp [hlt]
   have HTK:=hidE htk
   generalize ps[j] = p at *
   obtain ⟨⟨k,l⟩,v⟩:=p
   have y0:=hcell 0 (by omega)
   have y1:=hcell 1 (by omega)
   have y0 : wr.cell? ⟨g,off + j * 2,none⟩ = some (.int .i64 k):=y0
   have y1 : wr.cell? ⟨g,off + j * 2 + 1,none⟩ = some v:=y1
   have hsh : ∃ a9 n9 c9,v = .slice a9 n9 c9:=by obtain ⟨a9,c9,e9⟩:=rowG_shape hnd.1;exact ⟨_,_,_,e9⟩
   obtain ⟨a9,n9,c9,rfl⟩:=hsh
   have ba2:=below_alloc wr (.cells #[.int .i64 k,.slice a9 n9 c9] 46)
   have AT:=hidE (atext_any ⟨k,l⟩ (.slice a9 n9 c9) _ hca (nodG_below hnd.1 ba2) ((T1.out.below HB.out).below ba2))
   have HB2:=hidE (HB.out.trans (ba2.mono HB.out.size))
   have HO2:=hidE (own_keep HO.out ba2 (Nat.le_refl _))
   generalize hag : agB ⟨k,l⟩ = tx at *
   have HAG:=hidE hag
   unfold maxLen at q2
   clear hcell hnd ba2 hca htk HO HGr hag
   go_wp2_with fail
   refine AT.out.mono ?_
   rintro r w4 ⟨rfl,hb,hsz⟩
   have HB4:=hidE (HB2.out.trans (hb.mono HB2.out.size))
   have HO4:=hidE (own_keep HO2.out hb (Nat.le_refl _))
   have HSZ:=hidE hsz
   clear hb hsz AT HO2 HB2 y0 y1
   go_wp2_with (at_builtin;go_must (refine wpList_append_own _ rfl (.tmp 21) (.tmp 24) 52 rfl w1.heap.size 9 i0 (.string ⟨#[]⟩) 1 16 Tryz.underlying52 hi0 hz0 hz1 hz2 rfl (by decide) _ _ _ rfl (HO4.out.alloc _) ⟨w4.heap.size,0,none⟩ 1 1 [.string tx] rfl rfl (cell_one_new _ _ _) (by intro u hu;simp at hu;subst hu;rfl) (by show _ ≤ 2 ^ 63 - 1;omega) (by omega) (by have:=HB4.out.size;simp;omega) ?_))
   intro v' w5 ho5 hg5 _
   have HO5 : Hid (w5.ownsRow w1.heap.size 9 1 v' (j + 1) ((ps.take (j + 1)).map fun p => Value.string (agB p.1))):=by
    show World.ownsRow _ _ _ _ _ _ _
    rw [HTK.out,List.map_append]
    have e1 : [(((⟨k,l⟩ : AgQ)),Value.slice a9 n9 c9)].map (fun p => Value.string (agB p.1)) = [Value.string tx]:=by
     show [Value.string (agB ⟨k,l⟩)] = _
     rw [HAG.out]
    rw [e1,List.map_take]
    exact ho5
   have HB5 : Hid (Below w1.heap.size w1 w5):=(HB4.out.alloc HB4.out.size _).grown hg5 (by have:=HB4.out.size;simp;omega) (fun k hk => (HO4.out.lt k hk).1)
   have HZ5 : Hid (∀ p ∈ ps.take (j + 1),(agB p.1).size ≤ 20500000000000):=fun p hp => by
    rw [HTK.out] at hp
    rcases List.mem_append.1 hp with hp | hp
    ·exact HZ.out p hp
    ·rw [List.mem_singleton.1 hp]
     show (agB ⟨k,l⟩).size ≤ _
     rw [HAG.out]
     exact HSZ.out
   clear ho5 hg5
   go_wp2_with fail
   go_roundw
   case rel => exact ⟨j + 1,by omega,by go_num,HO5,HB5,HZ5⟩
   case measure => simp [intOf];omega
  ·have hje : j = ps.length:=by omega
   subst hje
   have hT : ps.take ps.length = ps:=List.take_length
   have HOW:=HO.out
   have HZW:=HZ.out
   rw [hT] at HOW HZW
   have hxl : (ps.map fun p => agB p.1).length = ps.length:=by simp
   have hrow : RowG wr (.slice ao9 (ps.map fun p => agB p.1).length cap9) 1 (ps.map fun p => agB p.1).length ((ps.map fun p => agB p.1).map Value.string):=by
    rw [hxl,List.map_map]
    exact rowG_of_owns HOW
   have hsz : ∀ x ∈ (ps.map fun p => agB p.1),x.size ≤ 20500000000000:=fun x hx => by
    obtain ⟨p,hp,rfl⟩:=List.mem_map.1 hx
    exact HZW p hp
   have JN:=join_any (ps.map fun p => agB p.1) ao9 cap9 wr hrow (by omega) (by omega) hsz
   have hjl : (⟨(Lib.join ((ps.map fun p => agB p.1).map fun x => x.data.toList) [44,32]).toArray⟩ : ByteArray).size ≤ 140737488355328:=by
    rw [mk_size]
    exact join_len _ (by omega) hsz
   rw [hxl] at JN
   have JNH:=hidE JN
   generalize (⟨(Lib.join ((ps.map fun p => agB p.1).map fun x => x.data.toList) [44,32]).toArray⟩ : ByteArray) = js at *
   have BQr:=hidE (blk_below BQ1.out HB.out lq1)
   have HGr:=hidE (qyG_below HG1.out HB.out)
   have Tr:=hidE (T1.out.below HB.out)
   have Br:=hidE (B1.out.trans (HB.out.mono B1.out.size))
   clear JN hrow hsz HOW HZW hT HO HZ HB hlt hxl BQ1 HG1 T1 B1
   go_wp2_with fail
   refine JNH.out.mono ?_
   rintro r w6 ⟨rfl,hb⟩
   have B6:=hidE (Br.out.trans (hb.mono Br.out.size))
   have BQ6:=hidE (blk_below BQr.out hb BQr.out.lt)
   have HG6:=hidE (qyG_below HGr.out hb)
   have T6:=hidE (Tr.out.below hb)
   have d1:=BQ6.out.c 1 (by simp)
   have d2:=BQ6.out.c 2 (by simp)
   simp only [List.getElem?_cons_zero,List.getElem?_cons_succ] at d1 d2
   have e7 : (⟨#[115,101,108,101,99,116,32]⟩ : ByteArray).size = 7:=rfl
   have e12 : (⟨#[32,102,114,111,109,32,101,118,101,110,116,115]⟩ : ByteArray).size = 12:=rfl
   clear hb JNH Br BQr HGr Tr
   have eW : (⟨#[32,119,104,101,114,101,32]⟩ : ByteArray).size = 7:=rfl
   have eG : (⟨#[32,103,114,111,117,112,32,98,121,32]⟩ : ByteArray).size = 10:=rfl
   by_cases hw : q.wh.length = 0
   ·have hw0 : ¬ (0 : Int) < (q.wh.length : Int):=by omega
    have HW0 : Hid (q.wh.length = 0):=hw
    clear hw
    by_cases hg : q.bys.length = 0
    ·have hg0 : ¬ (0 : Int) < (q.bys.length : Int):=by omega
     have hsx : (⟨#[115,101,108,101,99,116,32]⟩ ++ js ++ ⟨#[32,102,114,111,109,32,101,118,101,110,116,115]⟩ : ByteArray).size ≤ 1000000000000000:=by
      simp only [ByteArray.size_append,e7,e12,eW,eG]
      omega
     have EF : Hid (qyB q = (⟨#[115,101,108,101,99,116,32]⟩ ++ js ++ ⟨#[32,102,114,111,109,32,101,118,101,110,116,115]⟩) ++ ⟨#[32,119,105,110,100,111,119,32]⟩ ++ decB q.size ++ ⟨#[32,115,108,105,100,101,32]⟩ ++ decB q.slide ++ ⟨#[32,100,101,108,97,121,32]⟩ ++ decB q.delay ++ ⟨#[32,108,97,116,101,32]⟩ ++ decB q.late):=by
      show _ = _
      rw [EQ.out]
      unfold partB
      rw [if_pos hg,if_pos HW0.out]
     have HSX:=hidE hsx
     clear hsx EQ
     go_wp2_with fail
     refine txTail _ _ (by kernel_rfl) _ w.heap.size (⟨#[115,101,108,101,99,116,32]⟩ ++ js ++ ⟨#[32,102,114,111,109,32,101,118,101,110,116,115]⟩) _ _ _ q.size q.slide q.delay q.late w6 rfl rfl rfl BQ6.out T6.out.t HSX.out (by have:=HK.out.s1;omega) (by have:=HK.out.s2;omega) (by have:=HK.out.s3;omega) (by have:=HK.out.s4;omega) (pan_then pan_body) ?_
     intro t9 w9 ht9 k2 hb9
     have BZ:=hidE (B6.out.trans (hb9.mono B6.out.size))
     refine then_normal ?_
     rename_i K9 hK9
     refine hK9 _ _ ?_
     obtain ⟨f,hf,hi⟩:=listed72 t9 ht9
     have e2:=some_at (hi 2 (by decide)) k2
     rw [e2] at hf
     clear hi ht9 k2 e2 hb9
     subst hf
     go_wp2_with fail
     go_ret
     rw [EF.out]
     exact ⟨rfl,BZ.out⟩
    ·have hg0 : (0 : Int) < (q.bys.length : Int):=by omega
     have XG0:=etext_any q.bys _ w6 (HK.out.by_ (by omega)) HG6.out.by_ T6.out
     have HG0 : Hid (¬ q.bys.length = 0):=hg
     obtain ⟨tg,htg⟩ : ∃ t,txL q.bys = t:=⟨_,rfl⟩
     rw [htg] at XG0
     have XG:=hidE XG0
     have HTG:=hidE htg
     clear XG0 htg
     clear hg
     go_wp2_with fail
     refine XG.out.mono ?_
     rintro r w8 ⟨rfl,hb,hsg⟩
     have B8:=hidE (B6.out.trans (hb.mono B6.out.size))
     have BQ8:=hidE (blk_below BQ6.out hb BQ6.out.lt)
     have T8:=hidE (T6.out.below hb)
     clear hb XG
     have hsx : (⟨#[115,101,108,101,99,116,32]⟩ ++ js ++ ⟨#[32,102,114,111,109,32,101,118,101,110,116,115]⟩ ++ (⟨#[32,103,114,111,117,112,32,98,121,32]⟩ ++ tg) : ByteArray).size ≤ 1000000000000000:=by
      simp only [ByteArray.size_append,e7,e12,eW,eG]
      omega
     have EF : Hid (qyB q = (⟨#[115,101,108,101,99,116,32]⟩ ++ js ++ ⟨#[32,102,114,111,109,32,101,118,101,110,116,115]⟩ ++ (⟨#[32,103,114,111,117,112,32,98,121,32]⟩ ++ tg)) ++ ⟨#[32,119,105,110,100,111,119,32]⟩ ++ decB q.size ++ ⟨#[32,115,108,105,100,101,32]⟩ ++ decB q.slide ++ ⟨#[32,100,101,108,97,121,32]⟩ ++ decB q.delay ++ ⟨#[32,108,97,116,101,32]⟩ ++ decB q.late):=by
      show _ = _
      rw [EQ.out]
      unfold partB
      rw [if_neg HG0.out,if_pos HW0.out,HTG.out]
     have HSX:=hidE hsx
     clear hsx EQ
     go_wp2_with fail
     refine txTail _ _ (by kernel_rfl) _ w.heap.size (⟨#[115,101,108,101,99,116,32]⟩ ++ js ++ ⟨#[32,102,114,111,109,32,101,118,101,110,116,115]⟩ ++ (⟨#[32,103,114,111,117,112,32,98,121,32]⟩ ++ tg)) _ _ _ q.size q.slide q.delay q.late w8 rfl rfl rfl BQ8.out T8.out.t HSX.out (by have:=HK.out.s1;omega) (by have:=HK.out.s2;omega) (by have:=HK.out.s3;omega) (by have:=HK.out.s4;omega) (pan_then pan_body) ?_
     intro t9 w9 ht9 k2 hb9
     have BZ:=hidE (B8.out.trans (hb9.mono B8.out.size))
     refine then_normal ?_
     rename_i K9 hK9
     refine hK9 _ _ ?_
     obtain ⟨f,hf,hi⟩:=listed72 t9 ht9
     have e2:=some_at (hi 2 (by decide)) k2
     rw [e2] at hf
     clear hi ht9 k2 e2 hb9
     subst hf
     go_wp2_with fail
     go_ret
     rw [EF.out]
     exact ⟨rfl,BZ.out⟩
   ·have hw0 : (0 : Int) < (q.wh.length : Int):=by omega
    have XW0:=etext_any q.wh _ w6 (HK.out.wh (by omega)) HG6.out.wh T6.out
    have HW0 : Hid (¬ q.wh.length = 0):=hw
    obtain ⟨tw,htw⟩ : ∃ t,txL q.wh = t:=⟨_,rfl⟩
    rw [htw] at XW0
    have XW:=hidE XW0
    have HTW:=hidE htw
    clear XW0 htw
    clear hw
    go_wp2_with fail
    refine XW.out.mono ?_
    rintro r w7 ⟨rfl,hb,hsw⟩
    have B7:=hidE (B6.out.trans (hb.mono B6.out.size))
    have BQ7:=hidE (blk_below BQ6.out hb BQ6.out.lt)
    have HG7:=hidE (qyG_below HG6.out hb)
    have T7:=hidE (T6.out.below hb)
    clear hb XW d1 d2
    have d2:=BQ7.out.c 2 (by simp)
    simp only [List.getElem?_cons_zero,List.getElem?_cons_succ] at d2
    by_cases hg : q.bys.length = 0
    ·have hg0 : ¬ (0 : Int) < (q.bys.length : Int):=by omega
     have hsx : (⟨#[115,101,108,101,99,116,32]⟩ ++ js ++ ⟨#[32,102,114,111,109,32,101,118,101,110,116,115]⟩ ++ (⟨#[32,119,104,101,114,101,32]⟩ ++ tw) : ByteArray).size ≤ 1000000000000000:=by
      simp only [ByteArray.size_append,e7,e12,eW,eG]
      omega
     have EF : Hid (qyB q = (⟨#[115,101,108,101,99,116,32]⟩ ++ js ++ ⟨#[32,102,114,111,109,32,101,118,101,110,116,115]⟩ ++ (⟨#[32,119,104,101,114,101,32]⟩ ++ tw)) ++ ⟨#[32,119,105,110,100,111,119,32]⟩ ++ decB q.size ++ ⟨#[32,115,108,105,100,101,32]⟩ ++ decB q.slide ++ ⟨#[32,100,101,108,97,121,32]⟩ ++ decB q.delay ++ ⟨#[32,108,97,116,101,32]⟩ ++ decB q.late):=by
      show _ = _
      rw [EQ.out]
      unfold partB
      rw [if_pos hg,if_neg HW0.out,HTW.out]
     have HSX:=hidE hsx
     clear hsx EQ
     go_wp2_with fail
     refine txTail _ _ (by kernel_rfl) _ w.heap.size (⟨#[115,101,108,101,99,116,32]⟩ ++ js ++ ⟨#[32,102,114,111,109,32,101,118,101,110,116,115]⟩ ++ (⟨#[32,119,104,101,114,101,32]⟩ ++ tw)) _ _ _ q.size q.slide q.delay q.late w7 rfl rfl rfl BQ7.out T7.out.t HSX.out (by have:=HK.out.s1;omega) (by have:=HK.out.s2;omega) (by have:=HK.out.s3;omega) (by have:=HK.out.s4;omega) (pan_then pan_body) ?_
     intro t9 w9 ht9 k2 hb9
     have BZ:=hidE (B7.out.trans (hb9.mono B7.out.size))
     refine then_normal ?_
     rename_i K9 hK9
     refine hK9 _ _ ?_
     obtain ⟨f,hf,hi⟩:=listed72 t9 ht9
     have e2:=some_at (hi 2 (by decide)) k2
     rw [e2] at hf
     clear hi ht9 k2 e2 hb9
     subst hf
     go_wp2_with fail
     go_ret
     rw [EF.out]
     exact ⟨rfl,BZ.out⟩
    ·have hg0 : (0 : Int) < (q.bys.length : Int):=by omega
     have XG0:=etext_any q.bys _ w7 (HK.out.by_ (by omega)) HG7.out.by_ T7.out
     have HG0 : Hid (¬ q.bys.length = 0):=hg
     obtain ⟨tg,htg⟩ : ∃ t,txL q.bys = t:=⟨_,rfl⟩
     rw [htg] at XG0
     have XG:=hidE XG0
     have HTG:=hidE htg
     clear XG0 htg
     clear hg
     go_wp2_with fail
     refine XG.out.mono ?_
     rintro r w8 ⟨rfl,hb,hsg⟩
     have B8:=hidE (B7.out.trans (hb.mono B7.out.size))
     have BQ8:=hidE (blk_below BQ7.out hb BQ7.out.lt)
     have T8:=hidE (T7.out.below hb)
     clear hb XG
     have hsx : (⟨#[115,101,108,101,99,116,32]⟩ ++ js ++ ⟨#[32,102,114,111,109,32,101,118,101,110,116,115]⟩ ++ (⟨#[32,119,104,101,114,101,32]⟩ ++ tw) ++ (⟨#[32,103,114,111,117,112,32,98,121,32]⟩ ++ tg) : ByteArray).size ≤ 1000000000000000:=by
      simp only [ByteArray.size_append,e7,e12,eW,eG]
      omega
     have EF : Hid (qyB q = (⟨#[115,101,108,101,99,116,32]⟩ ++ js ++ ⟨#[32,102,114,111,109,32,101,118,101,110,116,115]⟩ ++ (⟨#[32,119,104,101,114,101,32]⟩ ++ tw) ++ (⟨#[32,103,114,111,117,112,32,98,121,32]⟩ ++ tg)) ++ ⟨#[32,119,105,110,100,111,119,32]⟩ ++ decB q.size ++ ⟨#[32,115,108,105,100,101,32]⟩ ++ decB q.slide ++ ⟨#[32,100,101,108,97,121,32]⟩ ++ decB q.delay ++ ⟨#[32,108,97,116,101,32]⟩ ++ decB q.late):=by
      show _ = _
      rw [EQ.out]
      unfold partB
      rw [if_neg HG0.out,if_neg HW0.out,HTG.out,HTW.out]
     have HSX:=hidE hsx
     clear hsx EQ
     go_wp2_with fail
     refine txTail _ _ (by kernel_rfl) _ w.heap.size (⟨#[115,101,108,101,99,116,32]⟩ ++ js ++ ⟨#[32,102,114,111,109,32,101,118,101,110,116,115]⟩ ++ (⟨#[32,119,104,101,114,101,32]⟩ ++ tw) ++ (⟨#[32,103,114,111,117,112,32,98,121,32]⟩ ++ tg)) _ _ _ q.size q.slide q.delay q.late w8 rfl rfl rfl BQ8.out T8.out.t HSX.out (by have:=HK.out.s1;omega) (by have:=HK.out.s2;omega) (by have:=HK.out.s3;omega) (by have:=HK.out.s4;omega) (pan_then pan_body) ?_
     intro t9 w9 ht9 k2 hb9
     have BZ:=hidE (B8.out.trans (hb9.mono B8.out.size))
     refine then_normal ?_
     rename_i K9 hK9
     refine hK9 _ _ ?_
     obtain ⟨f,hf,hi⟩:=listed72 t9 ht9
     have e2:=some_at (hi 2 (by decide)) k2
     rw [e2] at hf
     clear hi ht9 k2 e2 hb9
     subst hf
     go_wp2_with fail
     go_ret
     rw [EF.out]
     exact ⟨rfl,BZ.out⟩
end Go.Proofs.YteaanpdckkmjoaaGreatDoor
namespace Go.Proofs.YteaanpdckkmjoaaGreatDoor
open Go.Lib
theorem decDigits_small (n : Nat) (h : n < 10) : decDigits n = [UInt8.ofNat (48 + n)]:=by
 rw [decDigits,dif_pos h]
theorem decDigits_big (n : Nat) (h : 10 ≤ n) : decDigits n = decDigits (n / 10) ++ [UInt8.ofNat (48 + n % 10)]:=by
 rw [decDigits,dif_neg (by omega)]
end Go.Proofs.YteaanpdckkmjoaaGreatDoor
namespace Go.Proofs.YteaanpdckkmjoaaGreatDoor
open Go.RowKit
attribute [local go_sem ↓] eql_value neq_value
theorem hidR {p : Prop} (h : p) : Hid p:=h
theorem conv_one (W : World) (b : Nat) (d : Int) (h : W.cell? ⟨b,0,none⟩ = some (.int .u8 d)) : (convert 83 9 (.slice (some ⟨b,0,none⟩) 1 1)).run Tryz.prog W = .ok (.string ⟨#[UInt8.ofNat d.toNat]⟩) W :=
 run_convert_bytes_arg W 83 5 (by kernel_rfl) (by kernel_rfl) b 0 1 1 [d] rfl (fun i hi => by
  obtain rfl : i = 0:=by omega
  exact h) 9 (by kernel_rfl)
theorem dec_small (n : Int) (w : World) (h0 : 0 ≤ n) (h1 : n < 10) :
  Calls Tryz.prog 28 #[.int .i64 n] w fun e w' => e = .returned (.string ⟨#[UInt8.ofNat (48 + n).toNat]⟩) ∧ Below w.heap.size w w':=by
 have hcv:=conv_one (w.alloc (.cells #[.int .u8 (48 + n)] 5)) w.heap.size (48 + n) (by go_simp)
 go_enter Tryz.func28,Tryz.ntmps28
 go_wp2_with fail
 go_ret
 exact ⟨rfl,(Below.refl _ _).alloc (Nat.le_refl _) _⟩
theorem dec_neg (n : Int) (l : List UInt8) (w : World) (h0 : n < 0) (h1 : -1000000000 ≤ n) (hl : l.length ≤ 12) (ih : ∀ w,Calls Tryz.prog 28 #[.int .i64 (-n)] w fun e w' => e = .returned (.string ⟨l.toArray⟩) ∧ Below w.heap.size w w') :
  Calls Tryz.prog 28 #[.int .i64 n] w fun e w' => e = .returned (.string (⟨#[45]⟩ ++ ⟨l.toArray⟩)) ∧ Below w.heap.size w w':=by
 have IH:=hidR ih
 clear ih
 go_enter Tryz.func28,Tryz.ntmps28
 go_wp2_with fail
 refine (IH.out _).mono ?_
 rintro e w1 ⟨rfl,hb⟩
 have HB:=hidR hb
 clear hb
 go_wp2_with fail
 go_ret
 exact ⟨rfl,HB.out⟩
end Go.Proofs.YteaanpdckkmjoaaGreatDoor
namespace Go.Proofs.YteaanpdckkmjoaaGreatDoor
open Go.RowKit
theorem dec_big (n m t : Int) (l : List UInt8) (w : World) (h0 : 10 ≤ n) (h1 : n ≤ 1000000000) (hm : n.tdiv 10 = m) (ht : n.tmod 10 = t) (m0 : 0 ≤ m) (m1 : m ≤ 100000000) (t0 : 0 ≤ t) (t1 : t < 10) (hl : l.length ≤ 12) (ih : ∀ w,Calls Tryz.prog 28 #[.int .i64 m] w fun e w' => e = .returned (.string ⟨l.toArray⟩) ∧ Below w.heap.size w w') :
  Calls Tryz.prog 28 #[.int .i64 n] w fun e w' => e = .returned (.string (⟨l.toArray⟩ ++ ⟨#[UInt8.ofNat (48 + t).toNat]⟩)) ∧ Below w.heap.size w w':=by
 have IH:=hidR ih
 clear ih
 have wm : IntKind.i64.wrap m = m:=by unfold IntKind.wrap;simp [IntKind.bits,IntKind.signed];omega
 have wt : IntKind.i64.wrap (48 + t) = 48 + t:=by unfold IntKind.wrap;simp [IntKind.bits,IntKind.signed];omega
 have wu : IntKind.u8.wrap (48 + t) = 48 + t:=by unfold IntKind.wrap;simp [IntKind.bits,IntKind.signed];omega
 have hS : Below w.heap.size w { w with drawn:=w.drawn + 1 }:=(Below.refl _ _).drew
 go_enter Tryz.func28,Tryz.ntmps28
 go_wp2_with fail
 refine wp_region_held (S:=fun w' => Below w.heap.size w w') (by kernel_rfl) ?_
 generalize hw0 : ({ w with drawn:=w.drawn + 1 } : World) = w0 at *
 refine wpAnyH_take (i:=0) (v:=.int .i64 n) rfl (by kernel_rfl) (by kernel_rfl) (by kernel_rfl) (fun c a w h => h) (Or.inl ⟨by kernel_rfl,fun w _ => by go_simp⟩) hS ?_
 refine wpAnyH_take (i:=3) (v:=.int .i64 n) rfl (by kernel_rfl) (by kernel_rfl) (by kernel_rfl) (fun c a w h => h) (Or.inl ⟨by kernel_rfl,fun w _ => by go_simp⟩) hS ?_
 refine wpAnyH_take (i:=1) (v:=.int .i64 m) rfl (by kernel_rfl) (by kernel_rfl) (by kernel_rfl) (fun c a w h => h) (Or.inl ⟨by kernel_rfl,fun w _ => by go_simp⟩) hS ?_
 refine wpAnyH_take (i:=4) (v:=.int .i64 t) rfl (by kernel_rfl) (by kernel_rfl) (by kernel_rfl) (fun c a w h => h) (Or.inl ⟨by kernel_rfl,fun w _ => by go_simp⟩) hS ?_
 refine wpAnyH_take (i:=5) (v:=.int .i64 (48 + t)) rfl (by kernel_rfl) (by kernel_rfl) (by kernel_rfl) (fun c a w h => h) (Or.inl ⟨by kernel_rfl,fun w _ => by go_simp⟩) hS ?_
 refine wpAnyH_take (i:=6) (v:=.int .u8 (48 + t)) rfl (by kernel_rfl) (by kernel_rfl) (by kernel_rfl) (fun c a w h => h) (Or.inl ⟨by kernel_rfl,fun w _ => by go_simp⟩) hS ?_
 refine wpAnyH_all (rs:=[2,7]) (by kernel_rfl) (by simp) ?_
 intro i hi
 simp only [List.mem_cons,List.not_mem_nil,or_false] at hi
 rcases hi with rfl | rfl
 ·refine wpOp_step rfl ?_
  intro K' hK
  rw [if_pos (by kernel_rfl)]
  go_simp
  refine (IH.out _).mono ?_
  rintro e w1 ⟨rfl,hb⟩
  have S1:=hS.trans (hb.mono hS.size)
  clear hb
  refine hK _ _ ⟨S1,?_⟩
  clear hK
  refine wpAnyH_all (rs:=[7]) (by kernel_rfl) (by simp) ?_
  intro i hi
  simp only [List.mem_cons,List.not_mem_nil,or_false] at hi
  subst hi
  refine wpOp_step rfl ?_
  intro K' hK
  rw [if_pos (by kernel_rfl)]
  go_simp
  have S2:=S1.alloc S1.size (.cells #[.int .u8 (48 + t)] 5)
  refine hK _ _ ⟨S2,?_⟩
  clear hK
  have hcv:=conv_one (w1.alloc (.cells #[.int .u8 (48 + t)] 5)) w1.heap.size (48 + t) (by go_simp)
  refine wpAnyH_all (rs:=[8]) (by kernel_rfl) (by simp) ?_
  intro i hi
  simp only [List.mem_cons,List.not_mem_nil,or_false] at hi
  subst hi
  refine wpOp_step rfl ?_
  intro K' hK
  rw [if_pos (by kernel_rfl)]
  go_simp
  refine hK _ _ ⟨S2,?_⟩
  clear hK hcv
  refine wpAnyH_all (rs:=[9]) (by kernel_rfl) (by simp) ?_
  intro i hi
  simp only [List.mem_cons,List.not_mem_nil,or_false] at hi
  subst hi
  refine wpOp_step rfl ?_
  intro K' hK
  rw [if_pos (by kernel_rfl)]
  go_simp
  rw [if_neg (by omega)]
  go_simp
  refine hK _ _ ⟨S2,?_⟩
  clear hK
  refine wpAnyH_all (rs:=[10]) (by kernel_rfl) (by simp) ?_
  intro i hi
  simp only [List.mem_cons,List.not_mem_nil,or_false] at hi
  subst hi
  refine wpOp_step rfl ?_
  intro K' hK
  rw [if_pos (by kernel_rfl)]
  go_simp
  refine hK _ _ ⟨S2,?_⟩
  clear hK
  refine wpAnyH_done (by kernel_rfl) ?_ _
  go_wp2_with fail
  go_ret
  exact ⟨rfl,S2⟩
 ·refine wpOp_step rfl ?_
  intro K' hK
  rw [if_pos (by kernel_rfl)]
  go_simp
  have S1:=hS.alloc hS.size (.cells #[.int .u8 (48 + t)] 5)
  refine hK _ _ ⟨S1,?_⟩
  clear hK
  refine wpAnyH_all (rs:=[2,8]) (by kernel_rfl) (by simp) ?_
  intro i hi
  simp only [List.mem_cons,List.not_mem_nil,or_false] at hi
  rcases hi with rfl | rfl
  ·refine wpOp_step rfl ?_
   intro K' hK
   rw [if_pos (by kernel_rfl)]
   go_simp
   refine (IH.out _).mono ?_
   rintro e w1 ⟨rfl,hb⟩
   have S2:=S1.trans (hb.mono S1.size)
   have hcv:=conv_one w1 w0.heap.size (48 + t) (by rw [hb.cell (p:=⟨w0.heap.size,0,none⟩) (by simp)];go_simp)
   clear hb
   refine hK _ _ ⟨S2,?_⟩
   clear hK
   refine wpAnyH_all (rs:=[8]) (by kernel_rfl) (by simp) ?_
   intro i hi
   simp only [List.mem_cons,List.not_mem_nil,or_false] at hi
   subst hi
   refine wpOp_step rfl ?_
   intro K' hK
   rw [if_pos (by kernel_rfl)]
   go_simp
   refine hK _ _ ⟨S2,?_⟩
   clear hK hcv
   refine wpAnyH_all (rs:=[9]) (by kernel_rfl) (by simp) ?_
   intro i hi
   simp only [List.mem_cons,List.not_mem_nil,or_false] at hi
   subst hi
   refine wpOp_step rfl ?_
   intro K' hK
   rw [if_pos (by kernel_rfl)]
   go_simp
   rw [if_neg (by omega)]
   go_simp
   refine hK _ _ ⟨S2,?_⟩
   clear hK
   refine wpAnyH_all (rs:=[10]) (by kernel_rfl) (by simp) ?_
   intro i hi
   simp only [List.mem_cons,List.not_mem_nil,or_false] at hi
   subst hi
   refine wpOp_step rfl ?_
   intro K' hK
   rw [if_pos (by kernel_rfl)]
   go_simp
   refine hK _ _ ⟨S2,?_⟩
   clear hK
   refine wpAnyH_done (by kernel_rfl) ?_ _
   go_wp2_with fail
   go_ret
   exact ⟨rfl,S2⟩
  ·refine wpOp_step rfl ?_
   intro K' hK
   rw [if_pos (by kernel_rfl)]
   have hcv:=conv_one (w0.alloc (.cells #[.int .u8 (48 + t)] 5)) w0.heap.size (48 + t) (by go_simp)
   go_simp
   refine hK _ _ ⟨S1,?_⟩
   clear hK hcv
   refine wpAnyH_all (rs:=[2]) (by kernel_rfl) (by simp) ?_
   intro i hi
   simp only [List.mem_cons,List.not_mem_nil,or_false] at hi
   subst hi
   refine wpOp_step rfl ?_
   intro K' hK
   rw [if_pos (by kernel_rfl)]
   go_simp
   refine (IH.out _).mono ?_
   rintro e w1 ⟨rfl,hb⟩
   have S2:=S1.trans (hb.mono S1.size)
   clear hb
   refine hK _ _ ⟨S2,?_⟩
   clear hK
   refine wpAnyH_all (rs:=[9]) (by kernel_rfl) (by simp) ?_
   intro i hi
   simp only [List.mem_cons,List.not_mem_nil,or_false] at hi
   subst hi
   refine wpOp_step rfl ?_
   intro K' hK
   rw [if_pos (by kernel_rfl)]
   go_simp
   rw [if_neg (by omega)]
   go_simp
   refine hK _ _ ⟨S2,?_⟩
   clear hK
   refine wpAnyH_all (rs:=[10]) (by kernel_rfl) (by simp) ?_
   intro i hi
   simp only [List.mem_cons,List.not_mem_nil,or_false] at hi
   subst hi
   refine wpOp_step rfl ?_
   intro K' hK
   rw [if_pos (by kernel_rfl)]
   go_simp
   refine hK _ _ ⟨S2,?_⟩
   clear hK
   refine wpAnyH_done (by kernel_rfl) ?_ _
   go_wp2_with fail
   go_ret
   exact ⟨rfl,S2⟩
def TwoAt (w : World) (g : Nat) (op k n : Int) : Prop :=
 w.cell? ⟨g,0,none⟩ = some (.int .i64 1) ∧ w.cell? ⟨g,1,none⟩ = some (.int .i64 0) ∧ w.cell? ⟨g,2,none⟩ = some (.int .i64 0) ∧ w.cell? ⟨g,3,none⟩ = some (.int .i64 0) ∧ w.cell? ⟨g,4,none⟩ = some (.int .i64 k) ∧ w.cell? ⟨g,5,none⟩ = some (.int .i64 n) ∧
 w.cell? ⟨g,6,none⟩ = some (.int .i64 op) ∧ w.cell? ⟨g,7,none⟩ = some (.int .i64 0) ∧ w.cell? ⟨g,8,none⟩ = some (.int .i64 0) ∧ w.cell? ⟨g,9,none⟩ = some (.int .i64 0) ∧ w.cell? ⟨g,10,none⟩ = some (.int .i64 0) ∧ w.cell? ⟨g,11,none⟩ = some (.int .i64 0)
theorem TwoAt.below {w w' : World} {g : Nat} {op k n : Int} (h : TwoAt w g op k n) (hg : g < w.heap.size) (hb : Below w.heap.size w w') : TwoAt w' g op k n:=by
 have hc:=fun o => hb.cell (p:=⟨g,o,none⟩) hg
 unfold TwoAt
 simp only [hc]
 exact h
end Go.Proofs.YteaanpdckkmjoaaGreatDoor
namespace Go.Proofs.YteaanpdckkmjoaaGreatDoor
open Go.RowKit
attribute [local go_sem ↓] eql_value neq_value
def textS (k n : Int) : ByteArray:=if k = 1 then ⟨(Lib.itoa n).toArray⟩ else if k = 0 then ⟨#[110,117,108,108]⟩ else if n = 1 then ⟨#[116,114,117,101]⟩ else ⟨#[102,97,108,115,101]⟩
def DecOk : Prop:=∀ (n : Int) (w : World),-1000000000 ≤ n → n ≤ 1000000000 → Calls Tryz.prog 28 #[.int .i64 n] w fun e w' => e = .returned (.string ⟨(Lib.itoa n).toArray⟩) ∧ Below w.heap.size w w'
theorem rtext_g (hd : DecOk) (k n : Int) (w : World) (h : vok k n = true) :
  Calls Tryz.prog 48 #[.agg #[.int .i64 k,.int .i64 n]] w fun e w' => e = .returned (.string (textS k n)) ∧ Below w.heap.size w w':=by
 rcases of_decide_eq_true h with ⟨rfl,rfl⟩ | ⟨rfl,h1,h2⟩ | ⟨rfl,rfl | rfl⟩
 ·go_enter Tryz.func48,Tryz.ntmps48
  go_wp2_with fail
  go_ret
  exact ⟨rfl,(Below.refl _ _).alloc (Nat.le_refl _) _⟩
 ·have HD:=hidT (hd n (w.alloc (.cells #[.int .i64 1,.int .i64 n] 89)) h1 h2)
  go_enter Tryz.func48,Tryz.ntmps48
  go_wp2_with (go_at_call 28;refine HD.out.mono ?_;rintro e w1 ⟨rfl,hb⟩;have HB:=hidT hb;clear hb)
  go_ret
  exact ⟨rfl,((Below.refl _ _).alloc (Nat.le_refl _) _).trans (HB.out.mono (by simp))⟩
 ·go_enter Tryz.func48,Tryz.ntmps48
  go_wp2_with fail
  go_ret
  exact ⟨rfl,(Below.refl _ _).alloc (Nat.le_refl _) _⟩
 ·go_enter Tryz.func48,Tryz.ntmps48
  go_wp2_with fail
  go_ret
  exact ⟨rfl,(Below.refl _ _).alloc (Nat.le_refl _) _⟩
end Go.Proofs.YteaanpdckkmjoaaGreatDoor
namespace Go.Proofs.YteaanpdckkmjoaaGreatDoor
open Go.RowKit
attribute [local go_sem ↓] eql_value neq_value
theorem digs_len (u : Nat) (h : u ≤ 1000000000) : (Lib.decDigits u).length ≤ 10:=by
 rw [Lib.decDigits_length]
 by_cases h0 : u < 1
 ·rw [Lib.nDigits_small (by omega)];omega
 ·have hp:=Lib.lt_pow_nDigits (u / 10)
  rcases Nat.lt_or_ge (Lib.nDigits u) 11 with h1 | h1
  ·omega
  ·exfalso
   have key : ∀ k v,Lib.nDigits v = k + 1 → 10 ^ k ≤ v ∨ k = 0:=by
    intro k
    induction k with
    | zero => intro v _;exact .inr rfl
    | succ k ih =>
     intro v hv
     by_cases hs : v < 10
     ·rw [Lib.nDigits_small hs] at hv;omega
     ·rw [Lib.nDigits_big hs] at hv
      rcases ih (v / 10) (by omega) with h | h
      ·left;rw [Nat.pow_succ];omega
      ·subst h;left;omega
   obtain ⟨k,hk⟩ : ∃ k,Lib.nDigits u = k + 1:=⟨Lib.nDigits u - 1,by omega⟩
   rcases key k u hk with h2 | h2
   ·have h3 : 10 ^ 10 ≤ 10 ^ k:=Nat.pow_le_pow_right (by omega) (by omega)
    omega
   ·omega
end Go.Proofs.YteaanpdckkmjoaaGreatDoor
namespace Go.Proofs.YteaanpdckkmjoaaGreatDoor
open Go.RowKit
theorem app_one (l : List UInt8) (c : UInt8) : (⟨l.toArray⟩ : ByteArray) ++ ⟨#[c]⟩ = ⟨(l ++ [c]).toArray⟩:=by
 apply ByteArray.ext
 rw [ByteArray.data_append]
 simp
theorem app_cons (l : List UInt8) (c : UInt8) : (⟨#[c]⟩ : ByteArray) ++ ⟨l.toArray⟩ = ⟨(c :: l).toArray⟩:=by
 apply ByteArray.ext
 rw [ByteArray.data_append]
 simp
theorem dec_nat (u : Nat) : u ≤ 1000000000 → ∀ w,Calls Tryz.prog 28 #[.int .i64 (u : Int)] w fun e w' => e = .returned (.string ⟨(Lib.decDigits u).toArray⟩) ∧ Below w.heap.size w w':=by
 induction u using Nat.strongRecOn with
 | _ u ih =>
  intro h w
  by_cases hs : u < 10
  ·have:=dec_small (u : Int) w (by omega) (by omega)
   rw [decDigits_small u hs]
   have e : (48 + (u : Int)).toNat = 48 + u:=by omega
   rw [e] at this
   exact this
  ·have:=dec_big (u : Int) ((u / 10 : Nat) : Int) ((u % 10 : Nat) : Int) (Lib.decDigits (u / 10)) w (by omega) (by omega) rfl rfl (by omega) (by omega) (by omega) (by omega)
    (by have:=digs_len (u / 10) (by omega);omega) (fun w => ih (u / 10) (by omega) (by omega) w)
   rw [decDigits_big u (by omega)]
   have e : (48 + ((u % 10 : Nat) : Int)).toNat = 48 + u % 10:=by omega
   rw [e,app_one] at this
   exact this
theorem decOk : DecOk:=by
 intro n w h0 h1
 unfold Lib.itoa
 by_cases hn : n < 0
 ·rw [if_pos hn]
  have hm : -n = ((n.natAbs : Nat) : Int):=by omega
  have:=dec_neg n (Lib.decDigits n.natAbs) w hn h0 (by have:=digs_len n.natAbs (by omega);omega) (fun w => by rw [hm];exact dec_nat n.natAbs (by omega) w)
  rw [app_cons] at this
  exact this
 ·rw [if_neg hn]
  have hm : n = ((n.toNat : Nat) : Int):=by omega
  have:=dec_nat n.toNat (by omega) w
  rw [← hm] at this
  exact this
end Go.Proofs.YteaanpdckkmjoaaGreatDoor
