/- Several texts in one, each with its own head. What is proved: what the parts say. Conditions: theirs. -/
import Derived.Test.YtaomljdbndajgaaGreatDoorBtDJ
import Derived.Test.YtaomljdbndajgaaGreatDoorChkRJ
set_option linter.unusedVariables false
set_option linter.unusedSimpArgs false
set_option maxRecDepth 100000
set_option maxHeartbeats 8000000
namespace Go.Proofs.YtaomljdbndajgaaGreatDoor
open Go.ChangeShapes Go.WideShapes Go.ChangeAt Go.RowKit
structure Po where
 (st k n : Int)
 vs : List V2
 v : Value
def cellsPo (p : Po) : List Value:=[.int .i64 p.st,.int .i64 p.k,.int .i64 p.n,p.v]
theorem cellsPo_len (p : Po) : (cellsPo p).length = 4:=rfl
def po0 : Po:=⟨0,0,0,[],.slice none 0 0⟩
def outO (o : Po) : Int × Int × Int × List V2:=(o.st,o.k,o.n,o.vs)
def outP (p : Pn) : Int × Int × Int × List V2:=(p.st,p.k,p.n,p.ac.map acV)
def zeroPo : List Value:=[.int .i64 0,.int .i64 0,.int .i64 0,.slice none 0 0]
theorem madeP (n : Nat) : (madeCells #[Value.int .i64 0,Value.int .i64 0,Value.int .i64 0,Value.slice none 0 0] (n * 4)).toList = rowOf cellsPo (List.replicate n po0):=by
 have hl : zeroPo.length = 4:=rfl
 have hr : (rowOf cellsPo (List.replicate n po0)).length = n * 4:=by rw [rowOf_len cellsPo_len,List.length_replicate]
 show (madeCells zeroPo.toArray (n * 4)).toList = _
 apply List.ext_getElem
 ·rw [hr]
  simp [madeCells]
 ·intro j h1 h2
  rw [hr] at h2
  have hm : j % 4 < zeroPo.length:=by rw [hl];exact Nat.mod_lt _ (by omega)
  have hi : j / 4 < n:=(Nat.div_lt_iff_lt_mul (by omega)).2 h2
  have e : (madeCells zeroPo.toArray (n * 4)).toList[j] = zeroPo[j % 4]:=by
   simp [madeCells,hl]
   rw [List.getElem?_eq_getElem hm]
   rfl
  rw [e]
  apply Option.some.inj
  rw [← List.getElem?_eq_getElem,← List.getElem?_eq_getElem]
  have e2 : j / 4 * 4 + j % 4 = j:=by rw [Nat.mul_comm];exact Nat.div_add_mod j 4
  have h9:=rowOf_at cellsPo_len (List.replicate n po0) (j / 4) (j % 4) po0 (by rw [List.getElem?_replicate,if_pos hi]) (Nat.mod_lt _ (by omega))
  rw [e2] at h9
  rw [h9]
  rfl
theorem rowPo_set (l : List Po) (i : Nat) (a : Po) (hi : i < l.length) : ((((rowOf cellsPo l).set (i * 4) (.int .i64 a.st)).set (i * 4 + 1) (.int .i64 a.k)).set (i * 4 + 2) (.int .i64 a.n)).set (i * 4 + 3) a.v = rowOf cellsPo (l.set i a):=by
 rw [rowOf_split l i hi,rowOf_split_set l i a hi]
 exact set_four (take_len cellsPo_len l i hi)
structure PosR (B : Nat) (w : World) (u : Value) (os : List Po) : Prop where
 row : w.ownsRow B 74 4 u os.length (rowOf cellsPo os)
 vs : ∀ o ∈ os,w.ownsRow B 26 2 o.v o.vs.length (rowV o.vs)
theorem infoAp : (Tryz.prog.info? 74).map (fun i => (i.zero,i.size,i.bytes)) = some (some (.agg #[.int .i64 0,.int .i64 0,.int .i64 0,.slice none 0 0]),4,48):=by kernel_rfl
theorem outs_any (tbl : List Pn) (tv : Value) (W : World) (hT : TblR W tv tbl) (hn : tbl.length ≤ 500) (hk : ∀ p ∈ tbl,p.ac.length ≤ 100 ∧ ∀ a ∈ p.ac,1 ≤ a.k ∧ a.k ≤ 5) :
  Calls Tryz.prog 28 #[.agg #[tv]] W fun e w' => ∃ u os,e = .returned u ∧ PosR W.heap.size w' u os ∧ os.map outO = tbl.map outP ∧ Below W.heap.size W w':=by
 obtain ⟨i0,hi,hz0,hz1,hz2⟩:=info_parts infoAp
 obtain ⟨at_,ct,rfl⟩:=rowS_shape hT.row
 have ba:=below_alloc W (.cells #[.slice at_ tbl.length ct] 60)
 have BQ:=blk_alloc W [.slice at_ tbl.length ct] 60
 have HT:=hidE (tblR_below hT ba)
 have HK:=hidE hk
 have HBA:=hidE ba
 clear hT hk
 go_enter Tryz.func28,Tryz.ntmps28
 go_wp2_with (at_make;go_must (refine wpList_make_full _ rfl _ _ 41 rfl W.heap.size 74 i0 (.agg #[.int .i64 0,.int .i64 0,.int .i64 0,.slice none 0 0]) 4 Tryz.underlying41 hi hz0 hz1 .i64 .i64 _ _ tbl.length rfl rfl rfl rfl (by rw [hz2];omega) (by show _ ≤ 2 ^ 63 - 1;omega) (by simp) ?_))
 intro w1 ho hg
 have hsz : (W.alloc (.cells #[.slice at_ tbl.length ct] 60)).heap.size = W.heap.size + 1:=by simp
 have hb1 : Below (W.alloc (.cells #[.slice at_ tbl.length ct] 60)).heap.size (W.alloc (.cells #[.slice at_ tbl.length ct] 60)) w1:=(Below.refl _ _).grown hg (Nat.le_refl _) (fun k hk => by cases hk)
 have lq:=BQ.lt
 have c0 : w1.cell? ⟨W.heap.size,0,none⟩ = some (.slice at_ tbl.length ct):=(blk_below BQ hb1 BQ.lt).c 0 (by simp)
 have ho' : w1.ownsRow W.heap.size 74 4 (.slice (some ⟨W.heap.size + 1,0,none⟩) tbl.length tbl.length) tbl.length (rowOf cellsPo (List.replicate tbl.length po0)):=by
  rw [← madeP]
  exact ho
 have HO:=hidE ho'
 have HB:=hidE hb1
 have HSZ:=hidE hsz
 clear hb1 ho ho' hg ba BQ
 go_wp2_with fail
 clear c0
 generalize W.alloc (.cells #[.slice at_ tbl.length ct] 60) = w0 at *
 go_loopw [13] (fun i wr => ∃ (m : Nat) (L : List Po),m ≤ tbl.length ∧ L.length = tbl.length ∧ i = .int .i64 m ∧ Hid (∀ j,j < m → (L.map outO)[j]? = (tbl.map outP)[j]?) ∧ Hid (∀ j o,j < m → L[j]? = some o → wr.ownsRow (W.heap.size + 1 + 1) 26 2 o.v o.vs.length (rowV o.vs)) ∧ Hid (wr.ownsRow W.heap.size 74 4 (.slice (some ⟨W.heap.size + 1,0,none⟩) tbl.length tbl.length) tbl.length (rowOf cellsPo L)) ∧ Hid (Below w0.heap.size w0 wr)) (fun i _ => tbl.length - (intOf i).toNat)
 case atStart => exact ⟨0,List.replicate tbl.length po0,Nat.zero_le _,by simp,rfl,fun j hj => absurd hj (by omega),fun j o hj => absurd hj (by omega),HO,HB⟩
 case round =>
  clear HO HB
  obtain ⟨m,L,hm,hL,rfl,HM,HV,HO,HB⟩:=hrel
  by_cases hlt : m < tbl.length
  ·have hTr:=tblR_below HT.out HB.out
   obtain ⟨g,off,hao,hcell,q1,q2,lg⟩:=rowOf_val cellsPn_len (rowG_of_S hTr.row) m hlt
   subst hao
   have hac:=hTr.acc tbl[m] (List.getElem_mem hlt)
   have hkm:=HK.out tbl[m] (List.getElem_mem hlt)
   have HPM : Hid ((tbl.map outP)[m]? = some (outP tbl[m])):=by show _ = _;rw [List.getElem?_map,List.getElem?_eq_getElem hlt];rfl
   generalize tbl[m] = p at *
   obtain ⟨st,k,n,told,ac,av⟩:=p
   obtain ⟨a9,c9,hav⟩:=rowS_shape hac
   simp only at hav hkm
   subst hav
   have y0 : wr.cell? ⟨g,off + m * 5,none⟩ = some (.int .i64 st):=hcell 0 (by omega)
   have y1 : wr.cell? ⟨g,off + m * 5 + 1,none⟩ = some (.int .i64 k):=hcell 1 (by omega)
   have y2 : wr.cell? ⟨g,off + m * 5 + 2,none⟩ = some (.int .i64 n):=hcell 2 (by omega)
   have y3 : wr.cell? ⟨g,off + m * 5 + 3,none⟩ = some (.slice a9 ac.length c9):=hcell 3 (by omega)
   have y4 : wr.cell? ⟨g,off + m * 5 + 4,none⟩ = some (.bool told):=hcell 4 (by omega)
   have ba2:=below_alloc wr (.cells #[.int .i64 st,.int .i64 k,.int .i64 n,.slice a9 ac.length c9,.bool told] 64)
   have OT:=out_any ⟨st,k,n,told,ac,.slice a9 ac.length c9⟩ _ hkm.1 (accR_below hac ba2) hkm.2
   unfold aggP at OT
   simp only at OT
   have hvl : (ac.map acV).length = ac.length:=by simp
   rw [← hvl] at OT
   have eP : outP ⟨st,k,n,told,ac,.slice a9 ac.length c9⟩ = (st,k,n,ac.map acV):=rfl
   rw [eP] at HPM
   generalize hvs : ac.map acV = vs at *
   rw [hvl] at OT
   have OTH:=hidE OT
   have HO2:=hidE (own_keep HO.out ba2 (Nat.le_refl _))
   have HB2:=hidE (HB.out.trans (ba2.mono HB.out.size))
   have HV2 : Hid (∀ j o,j < m → L[j]? = some o → (wr.alloc (.cells #[.int .i64 st,.int .i64 k,.int .i64 n,.slice a9 ac.length c9,.bool told] 64)).ownsRow (W.heap.size + 1 + 1) 26 2 o.v o.vs.length (rowV o.vs)):=fun j o hj ho => own_keep (HV.out j o hj ho) ba2 (Nat.le_refl _)
   have HLL:=hidE hL
   have hgp : W.heap.size + 1 < wr.heap.size:=(own_at HO.out _ rfl).2
   have HVL:=hidE hvl
   unfold maxLen at q2
   clear hTr hcell hac hkm ba2 OT eP hvs HV hL hvl
   go_wp2_with fail
   refine OTH.out.mono ?_
   rintro e w2 ⟨u,rfl,hou,hb⟩
   obtain ⟨a8,c8,rfl⟩:=owns_shapeE hou
   have HO3:=hidE (own_keep HO2.out hb (Nat.le_refl _))
   have HB3:=hidE (HB2.out.trans (hb.mono HB2.out.size))
   have HU:=hidE (owns_baseG (base':=W.heap.size + 1 + 1) hou (by simp;omega))
   have HV3 : Hid (∀ j o,j < m → L[j]? = some o → w2.ownsRow (W.heap.size + 1 + 1) 26 2 o.v o.vs.length (rowV o.vs)):=fun j o hj ho => own_keep (HV2.out j o hj ho) hb (Nat.le_refl _)
   clear hb hou HO2 HB2 HV2 HO HB OTH y0 y1 y2 y3 y4
   have y0:=HO3.out.cellAt (m * 4) (by omega)
   have y1:=HO3.out.cellAt (m * 4 + 1) (by omega)
   have y2:=HO3.out.cellAt (m * 4 + 2) (by omega)
   have y3:=HO3.out.cellAt (m * 4 + 3) (by omega)
   have hrl : (rowOf cellsPo L).length = tbl.length * 4:=by rw [rowOf_len cellsPo_len,HLL.out]
   rw [List.getElem?_eq_getElem (by omega)] at y0 y1 y2 y3
   generalize (rowOf cellsPo L)[m * 4] = r0 at y0
   generalize (rowOf cellsPo L)[m * 4 + 1] = r1 at y1
   generalize (rowOf cellsPo L)[m * 4 + 2] = r2 at y2
   generalize (rowOf cellsPo L)[m * 4 + 3] = r3 at y3
   have z0:=owns_thawG2 HO3.out (m * 4)
   have z1:=owns_thawG2 HO3.out (m * 4 + 1)
   have z2:=owns_thawG2 HO3.out (m * 4 + 2)
   have z3:=owns_thawG2 HO3.out (m * 4 + 3)
   have HO4:=hidE (owns_setG (owns_setG (owns_setG (owns_setG HO3.out (m * 4) (.int .i64 st)) (m * 4 + 1) (.int .i64 k)) (m * 4 + 2) (.int .i64 n)) (m * 4 + 3) (.slice a8 ac.length c8))
   rw [rowPo_set L m ⟨st,k,n,vs,.slice a8 ac.length c8⟩ (by rw [HLL.out];omega)] at HO4
   have hset : ∀ {v9 : Value} {n9 : Nat} {xs9 : List Value},w2.ownsRow (W.heap.size + 1 + 1) 26 2 v9 n9 xs9 → ((((w2.setCell ⟨W.heap.size + 1,m * 4,none⟩ (.int .i64 st)).setCell ⟨W.heap.size + 1,m * 4 + 1,none⟩ (.int .i64 k)).setCell ⟨W.heap.size + 1,m * 4 + 2,none⟩ (.int .i64 n)).setCell ⟨W.heap.size + 1,m * 4 + 3,none⟩ (.slice a8 ac.length c8)).ownsRow (W.heap.size + 1 + 1) 26 2 v9 n9 xs9:=fun h => by
    have ne : _ ≠ some (W.heap.size + 1):=fun e => by have:=(own_at h _ e).1;omega
    exact ownsRow_setCell_other (ownsRow_setCell_other (ownsRow_setCell_other (ownsRow_setCell_other h (a:=⟨W.heap.size + 1,m * 4,none⟩) ne _) (a:=⟨W.heap.size + 1,m * 4 + 1,none⟩) ne _) (a:=⟨W.heap.size + 1,m * 4 + 2,none⟩) ne _) (a:=⟨W.heap.size + 1,m * 4 + 3,none⟩) ne _
   have HV4 : Hid (∀ j o,j < m + 1 → (L.set m ⟨st,k,n,vs,.slice a8 ac.length c8⟩)[j]? = some o → ((((w2.setCell ⟨W.heap.size + 1,m * 4,none⟩ (.int .i64 st)).setCell ⟨W.heap.size + 1,m * 4 + 1,none⟩ (.int .i64 k)).setCell ⟨W.heap.size + 1,m * 4 + 2,none⟩ (.int .i64 n)).setCell ⟨W.heap.size + 1,m * 4 + 3,none⟩ (.slice a8 ac.length c8)).ownsRow (W.heap.size + 1 + 1) 26 2 o.v o.vs.length (rowV o.vs)):=fun j o hj ho => by
    by_cases h9 : j = m
    ·subst h9
     rw [List.getElem?_set_self (by rw [HLL.out];omega)] at ho
     cases ho
     show World.ownsRow _ _ _ 2 (.slice a8 ac.length c8) vs.length (rowV vs)
     rw [HVL.out]
     exact hset HU.out
    ·rw [List.getElem?_set_ne (fun e => h9 e.symm)] at ho
     exact hset (HV3.out j o (by omega) ho)
   have HM4 : Hid (∀ j,j < m + 1 → ((L.set m ⟨st,k,n,vs,.slice a8 ac.length c8⟩).map outO)[j]? = (tbl.map outP)[j]?):=fun j hj => by
    rw [List.getElem?_map]
    by_cases h9 : j = m
    ·subst h9
     rw [List.getElem?_set_self (by rw [HLL.out];omega),HPM.out]
     rfl
    ·rw [List.getElem?_set_ne (fun e => h9 e.symm),← List.getElem?_map]
     exact HM.out j (by omega)
   have st9:=fun (a : Nat) (v : Value) (wz : World) (h : Below w0.heap.size w0 wz) => h.setCell (p:=⟨W.heap.size + 1,a,none⟩) (by rw [HSZ.out];exact Nat.le_refl _) v
   have HB4:=hidE (st9 (m * 4 + 3) (.slice a8 ac.length c8) _ (st9 (m * 4 + 2) (.int .i64 n) _ (st9 (m * 4 + 1) (.int .i64 k) _ (st9 (m * 4) (.int .i64 st) _ HB3.out))))
   have HL4 : Hid ((L.set m ⟨st,k,n,vs,.slice a8 ac.length c8⟩).length = tbl.length):=by show _ = _;rw [List.length_set,HLL.out]
   clear hrl HO3 HB3 HV3 HU hset st9 HM
   go_wp2_with fail
   go_roundw
   case rel => exact ⟨m + 1,L.set m ⟨st,k,n,vs,.slice a8 ac.length c8⟩,by omega,HL4.out,by go_num,HM4,HV4,HO4,HB4⟩
   case measure => simp [intOf];omega
  ·have hme : m = tbl.length:=by omega
   subst hme
   have e : L.map outO = tbl.map outP:=pre_is (by simp [hL]) (fun j hj => HM.out j (by simpa using hj))
   go_wp2_with fail
   go_ret
   refine ⟨_,L,rfl,⟨by rw [hL];exact HO.out,fun o ho => ?_⟩,e,HBA.out.trans (HB.out.mono HBA.out.size)⟩
   obtain ⟨j,hj,rfl⟩:=List.mem_iff_getElem.1 ho
   exact owns_baseG (HV.out j _ (by omega) (List.getElem?_eq_getElem hj)) (by omega)
theorem chkAs_zero : ∀ {l : List AgQ},chkAs l = 0 → ∀ a ∈ l,chkA a = 0
 | [],_,a,h => by simp at h
 | b :: l,h,a,ha => by
  unfold chkAs at h
  by_cases hb : chkA b = 0
  ·rw [if_neg (by simp [hb])] at h
   rcases List.mem_cons.1 ha with rfl | ha
   ·exact hb
   ·exact chkAs_zero h a ha
  ·rw [if_pos hb] at h
   exact absurd h hb
theorem kindQ_zero {l : List Nd} (h : (kindQ l).2 = 0) : chkE l = 0:=by
 by_cases h9 : chkE l = 0
 ·exact h9
 ·exfalso
  have e : (kindQ l).2 = chkE l:=by unfold kindQ;rw [if_pos h9]
  rw [e] at h
  exact h9 h
structure OkQ (q : Qy) : Prop where
 n0 : 0 < q.aggs.length
 n4 : q.aggs.length ≤ 4
 ag : ∀ a ∈ q.aggs,chkA a = 0
 wh : 0 < q.wh.length → chkE q.wh = 0
 by_ : 0 < q.bys.length → chkE q.bys = 0
 s1 : 1 ≤ q.size ∧ q.size ≤ 1000
 s2 : 1 ≤ q.slide ∧ q.slide ≤ 1000
 s3 : 0 ≤ q.delay ∧ q.delay ≤ 1000
 s4 : 0 ≤ q.late ∧ q.late ≤ 1000
theorem okQ_of {q : Qy} (h : chkQ q = 0) : OkQ q:=by
 unfold chkQ at h
 by_cases h1 : q.aggs.length = 0 ∨ 4 < q.aggs.length
 ·rw [if_pos h1] at h;exact absurd h (by decide)
 rw [if_neg h1] at h
 have h2 : chkAs q.aggs = 0:=Classical.byContradiction fun h2 => by rw [if_pos h2] at h;exact h2 h
 rw [if_neg (by simp [h2])] at h
 have h3 : chkW q.wh = 0:=Classical.byContradiction fun h3 => by rw [if_pos h3] at h;exact h3 h
 rw [if_neg (by simp [h3])] at h
 have h4 : chkB q.bys = 0:=Classical.byContradiction fun h4 => by rw [if_pos h4] at h;exact h4 h
 rw [if_neg (by simp [h4])] at h
 unfold chkS at h
 by_cases h5 : q.size < 1 ∨ 1000 < q.size ∨ q.slide < 1 ∨ 1000 < q.slide ∨ q.delay < 0 ∨ 1000 < q.delay ∨ q.late < 0 ∨ 1000 < q.late
 ·rw [if_pos h5] at h;exact absurd h (by decide)
 refine ⟨by omega,by omega,chkAs_zero h2,fun hp => ?_,fun hp => ?_,by omega,by omega,by omega,by omega⟩
 ·unfold chkW at h3
  rw [if_neg (by omega)] at h3
  by_cases h6 : (kindQ q.wh).2 = 0
  ·exact kindQ_zero h6
  ·rw [if_pos h6] at h3;exact absurd h3 h6
 ·unfold chkB at h4
  rw [if_neg (by omega)] at h4
  exact kindQ_zero h4
theorem good_okN {l : List Nd} (h : chkE l = 0) : ∀ n ∈ l,okN n = 0:=fun n hn => by
 obtain ⟨bs,hg,-⟩:=good_of_chk h
 obtain ⟨i,hi,rfl⟩:=List.mem_iff_getElem.1 hn
 exact (hg.2 i _ (List.getElem?_eq_getElem hi)).1
theorem qyN_of {q : Qy} (h : chkQ q = 0) : QyN q:=by
 have hq:=okQ_of h
 refine ⟨fun n hn => ?_,fun n hn => ?_,fun a ha n hn => ?_⟩
 ·exact good_okN (hq.wh (List.length_pos_of_mem hn)) n hn
 ·exact good_okN (hq.by_ (List.length_pos_of_mem hn)) n hn
 ·have h1:=hq.ag a ha
  unfold chkA at h1
  by_cases h2 : a.kind < 1 ∨ 5 < a.kind
  ·rw [if_pos h2] at h1;exact absurd h1 (by decide)
  ·rw [if_neg h2] at h1
   by_cases h3 : a.kind = 1
   ·rw [if_pos h3,if_pos (List.length_pos_of_mem hn)] at h1;exact absurd h1 (by decide)
   ·rw [if_neg h3] at h1
    by_cases h4 : (kindQ a.of).2 = 0
    ·exact good_okN (kindQ_zero h4) n hn
    ·rw [if_pos h4] at h1;exact absurd h1 h4
theorem qyK_of {q : Qy} (h : chkQ q = 0) : ∀ a ∈ q.aggs,1 ≤ a.kind ∧ a.kind ≤ 5:=fun a ha => by
 have h1:=(okQ_of h).ag a ha
 unfold chkA at h1
 by_cases h2 : a.kind < 1 ∨ 5 < a.kind
 ·rw [if_pos h2] at h1;exact absurd h1 (by decide)
 ·omega
theorem qyS_of {q : Qy} (h : chkQ q = 0) : QyS q:=by
 have hq:=okQ_of h
 have h5 : chkS q = 0:=by
  unfold chkQ at h
  by_cases h1 : q.aggs.length = 0 ∨ 4 < q.aggs.length
  ·rw [if_pos h1] at h;exact absurd h (by decide)
  rw [if_neg h1] at h
  have h2 : chkAs q.aggs = 0:=Classical.byContradiction fun h2 => by rw [if_pos h2] at h;exact h2 h
  rw [if_neg (by simp [h2])] at h
  have h3 : chkW q.wh = 0:=Classical.byContradiction fun h3 => by rw [if_pos h3] at h;exact h3 h
  rw [if_neg (by simp [h3])] at h
  have h4 : chkB q.bys = 0:=Classical.byContradiction fun h4 => by rw [if_pos h4] at h;exact h4 h
  rw [if_neg (by simp [h4])] at h
  exact h
 unfold chkS at h5
 rw [if_neg (by have:=hq.s1;have:=hq.s2;have:=hq.s3;have:=hq.s4;omega)] at h5
 have h6 : ¬ (q.size < q.slide ∨ 4 * q.slide < q.size):=fun h6 => by rw [if_pos h6] at h5;exact absurd h5 (by decide)
 have:=hq.s1
 have:=hq.s2
 have:=hq.s3
 have:=hq.s4
 constructor <;> omega
theorem partC_len {q : Qy} (hS : QyS q) : ∀ (l : List Ev) (g : Int) (k : Bool),(partC q g k l).length ≤ 4 * l.length ∧ partN q g k l ≤ 4 * l.length
 | [],g,k => by simp [partC,partN]
 | x :: l,g,k => by
  unfold partC partN
  by_cases h : evC x ≠ 0
  ·rw [if_pos h,if_pos h]
   have:=partC_len hS l g k
   simp only [List.length_cons]
   omega
  ·rw [if_neg h,if_neg h]
   have h0 : evC x = 0:=by omega
   obtain ⟨-,t0,t1⟩:=ev_ok h0
   have h1:=takeC_len (q:=q) (x:=x) ⟨t0,t1,hS.s1,hS.s2,hS.s3,hS.s4⟩ (g - q.delay) k
   have h2:=partC_len hS l (max g x.t) true
   simp only [List.length_cons,List.length_append]
   omega
structure PtsR (w : World) (pv : Value) (vs : List Value) (M : List (List Ev)) : Prop where
 row : RowG w pv 1 M.length vs
 len : vs.length = M.length
 each : ∀ (i : Nat) (v : Value) (l : List Ev),vs[i]? = some v → M[i]? = some l → RowG w v 7 l.length (rowOf cellsE l)
theorem ptsR_below {w w' : World} {pv : Value} {vs : List Value} {M : List (List Ev)} (h : PtsR w pv vs M) (hb : Below w.heap.size w w') : PtsR w' pv vs M:=⟨rowG_below h.row hb,h.len,fun i v l h1 h2 => rowG_below (h.each i v l h1 h2) hb⟩
theorem allC_cons (q : Qy) (l : List Ev) (M : List (List Ev)) : allC q (l :: M) = partC q 0 false l ++ allC q M:=by simp [allC]
def evsN (M : List (List Ev)) : Nat:=(M.map List.length).sum
theorem evsN_cons (l : List Ev) (M : List (List Ev)) : evsN (l :: M) = l.length + evsN M:=by simp [evsN]
theorem evsN_40 : ∀ (M : List (List Ev)),(∀ l ∈ M,l.length ≤ 40) → evsN M ≤ 40 * M.length
 | [],_ => by simp [evsN]
 | l :: M,h => by
  rw [evsN_cons,List.length_cons]
  have h1:=h l (by simp)
  have h2:=evsN_40 M (fun x hx => h x (by simp [hx]))
  omega
theorem allN_cons (q : Qy) (l : List Ev) (M : List (List Ev)) : allN q (l :: M) = partN q 0 false l + allN q M:=by simp [allN]
theorem answer_gen (va vw vb pv : Value) (q : Qy) (ps : List (AgQ × Value)) (vs : List Value) (M : List (List Ev)) (W : World) (h : QyG W va vw vb q ps) (hc : chkQ q = 0) (hM : PtsR W pv vs M) (hm3 : M.length ≤ 3) (hml : evsN M ≤ 120) :
  Calls Tryz.prog 11 #[qyV va vw vb q,pv] W fun e w' => ∃ u os tbl,e = .returned (.tuple #[u,.int .i64 (allN q M : Nat)]) ∧ PosR W.heap.size w' u os ∧ os.map outO = tbl.map outP ∧ OfT (q.aggs.map AgQ.kind) (allC q M) tbl ∧ Below W.heap.size W w':=by
 have hql : q.aggs.length = ps.length:=by rw [← h.qa];simp
 have h4 : ps.length ≤ 4:=by have:=(okQ_of hc).n4;omega
 have hn:=qyN_of hc
 have hkd:=qyK_of hc
 have hS:=qyS_of hc
 have ba:=below_alloc W (.cells #[va,vw,vb,Value.int .i64 q.size,Value.int .i64 q.slide,Value.int .i64 q.delay,Value.int .i64 q.late] 32)
 have CK:=qcheck_any va vw vb q ps _ (qyG_below h ba)
 rw [hc] at CK
 unfold qyV at CK ⊢
 obtain ⟨ao,cap,rfl⟩:=rowG_shape h.ag.row
 obtain ⟨a2,c2,rfl⟩:=rowG_shape h.wh
 obtain ⟨a3,c3,rfl⟩:=rowG_shape h.by_
 obtain ⟨ap,cp,rfl⟩:=rowG_shape hM.row
 have CKH:=hidE CK
 have BQ:=hidE (blk_alloc W [Value.slice ao ps.length cap,Value.slice a2 q.wh.length c2,Value.slice a3 q.bys.length c3,Value.int .i64 q.size,Value.int .i64 q.slide,Value.int .i64 q.delay,Value.int .i64 q.late] 32)
 have HBA:=hidE ba
 have HG:=hidE h
 have HM:=hidE hM
 have HML:=hidE hml
 have HN:=hidE hn
 have HSQ:=hidE hS
 have HKD:=hidE hkd
 have hsz : W.heap.size < (W.alloc (.cells #[Value.slice ao ps.length cap,Value.slice a2 q.wh.length c2,Value.slice a3 q.bys.length c3,Value.int .i64 q.size,Value.int .i64 q.slide,Value.int .i64 q.delay,Value.int .i64 q.late] 32)).heap.size:=BQ.out.lt
 have e0 : errC 0 = .nilIface:=rfl
 rw [e0] at CKH
 clear CK ba h hM hml hn hS hkd hc e0
 go_enter Tryz.func11,Tryz.ntmps11
 go_wp2_with fail
 refine CKH.out.mono ?_
 rintro e w1 ⟨rfl,hb⟩
 have HB1:=nxt HBA hb
 have BQ1:=hidE (blk_below BQ.out hb BQ.out.lt)
 have hs1 : W.heap.size < w1.heap.size:=BQ1.out.lt
 have HB2 : Hid (Below W.heap.size W (w1.alloc (.cells #[.slice none 0 0] 60))):=HB1.out.alloc HB1.out.size _
 have BT2:=hidE (blk_alloc w1 [.slice none 0 0] 60)
 have TW : Hid (TabW W w1.heap.size W.heap.size (.slice ao ps.length cap) (.slice a2 q.wh.length c2) (.slice a3 q.bys.length c3) q ps [] (w1.alloc (.cells #[.slice none 0 0] 60))) :=
  ⟨⟨.slice none 0 0,[],BT2.out,⟨⟨rfl,.inl ⟨rfl,rfl⟩⟩,fun p hp => by simp at hp⟩,ofT_nil _,fun k hk => by simp [Value.ownBlock] at hk,fun p hp => by simp at hp⟩,fun d hd => by simp at hd,blk_below BQ1.out (below_alloc w1 _) BQ1.out.lt,HB2.out⟩
 have hal:=below_alloc w1 (.cells #[.slice none 0 0] 60)
 have PT:=hidE (put_any W w1.heap.size W.heap.size (.slice ao ps.length cap) (.slice a2 q.wh.length c2) (.slice a3 q.bys.length c3) q ps (by omega) (by omega) HG.out h4 HKD.out)
 have hlt2 : w1.heap.size < (w1.alloc (.cells #[.slice none 0 0] 60)).heap.size:=BT2.out.lt
 clear hb HBA BQ BQ1 HB1 HB2 BT2 hsz CKH
 go_wp2_with fail
 generalize hbt : w1.heap.size = bt at *
 generalize w1.alloc (.cells #[.slice none 0 0] 60) = w2 at *
 go_loopw [8,17] (fun n i wr => ∃ (m N : Nat) (C : List Ct),m ≤ M.length ∧ N + 4 * evsN (M.drop m) ≤ 480 ∧ n = .int .i64 N ∧ i = .int .i64 m ∧ Hid (TabW W bt W.heap.size (.slice ao ps.length cap) (.slice a2 q.wh.length c2) (.slice a3 q.bys.length c3) q ps C wr) ∧ Hid (C ++ allC q (M.drop m) = allC q M) ∧ Hid (N + allN q (M.drop m) = allN q M) ∧ C.length + 4 * evsN (M.drop m) ≤ 480) (fun _ i _ => M.length - (intOf i).toNat)
 case atStart => exact ⟨0,0,[],Nat.zero_le _,by have:=HML.out;simpa using (by omega : 4 * evsN M ≤ 480),rfl,rfl,TW,by show _ = _;simp,by show _ = _;simp,by have:=HML.out;simpa using (by omega : 4 * evsN M ≤ 480)⟩
 case round =>
  clear TW
  obtain ⟨m,N,C,hm,hN,rfl,rfl,HR,HC,HNN,hcl⟩:=hrel
  by_cases hlt : m < M.length
  ·have hMr:=ptsR_below HM.out HR.out.old
   obtain ⟨g,off,v,hao,hv,y0,z1,z2,z3⟩:=rowG_cell hMr.row m hlt
   subst hao
   have hrl:=HM.out.each m v M[m] hv (List.getElem?_eq_getElem hlt)
   have hdr : M.drop m = M[m] :: M.drop (m + 1):=List.drop_eq_getElem_cons hlt
   rw [hdr,allC_cons] at HC
   rw [hdr,allN_cons] at HNN
   rw [hdr,evsN_cons] at hN hcl
   clear hdr hv hMr
   generalize M[m] = l at *
   obtain ⟨al,cl,rfl⟩:=rowG_shape hrl
   unfold maxLen at z2
   have hpc:=partC_len HSQ.out l 0 false
   have BT:=hidE (btake_any (TabW W bt W.heap.size (.slice ao ps.length cap) (.slice a2 q.wh.length c2) (.slice a3 q.bys.length c3) q ps) (fun k => k = bt) (.slice ao ps.length cap) (.slice a2 q.wh.length c2) (.slice a3 q.bys.length c3) (.slice al l.length cl) q ps l _ _ C wr
    (fun w' hk => by
     have hb9 : Below W.heap.size W w':=HR.out.old.trans (keptB_below hk HR.out.old.size (fun k e => by omega))
     exact ⟨qyG_below HG.out hb9,rowG_below hrl hb9⟩) h4 HN.out HSQ.out PT.out HR.out (fun k e => by
     obtain ⟨tv,tbl,h1,-⟩:=HR.out.tb
     rw [e]
     exact h1.lt) (by omega))
   unfold qyV at BT
   have BQr:=HR.out.qx
   have q0 : wr.cell? ⟨W.heap.size,0,none⟩ = some (Value.slice ao ps.length cap):=BQr.c 0 (by simp)
   have q1 : wr.cell? ⟨W.heap.size,1,none⟩ = some (Value.slice a2 q.wh.length c2):=BQr.c 1 (by simp)
   have q2 : wr.cell? ⟨W.heap.size,2,none⟩ = some (Value.slice a3 q.bys.length c3):=BQr.c 2 (by simp)
   have q3 : wr.cell? ⟨W.heap.size,3,none⟩ = some (Value.int .i64 q.size):=BQr.c 3 (by simp)
   have q4 : wr.cell? ⟨W.heap.size,4,none⟩ = some (Value.int .i64 q.slide):=BQr.c 4 (by simp)
   have q5 : wr.cell? ⟨W.heap.size,5,none⟩ = some (Value.int .i64 q.delay):=BQr.c 5 (by simp)
   have q6 : wr.cell? ⟨W.heap.size,6,none⟩ = some (Value.int .i64 q.late):=BQr.c 6 (by simp)
   have lq:=BQr.lt
   generalize partC q 0 false l = TC at *
   generalize partN q 0 false l = TN at *
   clear BQr hrl
   go_wp2_with fail
   refine BT.out.mono ?_
   rintro e w3 ⟨rfl,hr3,-⟩
   have HR3:=hidE hr3
   clear hr3 BT HR q0 q1 q2 q3 q4 q5 q6
   go_wp2_with fail
   go_roundw
   case rel => exact ⟨m + 1,N + TN,C ++ TC,by omega,by omega,by go_num,by go_num,HR3,by show _ = _;rw [List.append_assoc];exact HC.out,by have:=HNN.out;show _ = _;omega,by rw [List.length_append];omega⟩
   case measure => simp [intOf];omega
  ·have hme : m = M.length:=by omega
   subst hme
   have E1 : C = allC q M:=by
    have:=HC.out
    rw [List.drop_length] at this
    simpa [allC] using this
   have E2 : N = allN q M:=by
    have:=HNN.out
    rw [List.drop_length] at this
    simpa [allN] using this
   rw [← E2]
   obtain ⟨tv,tbl,h1,h2,h3,h5,h6⟩:=HR.out.tb
   obtain ⟨at_,ct,rfl⟩:=rowS_shape h2.row
   have hkl : (q.aggs.map AgQ.kind).length = ps.length:=by rw [List.length_map,hql]
   have hkk2 : ∀ x ∈ q.aggs.map AgQ.kind,1 ≤ x ∧ x ≤ 5:=fun x hx => by
    obtain ⟨a,ha,rfl⟩:=List.mem_map.1 hx
    exact HKD.out a ha
   have OU:=hidE (outs_any tbl _ wr h2 (by have:=h3.few;omega) (fun p hp => by
    have ha:=(h3.acc p hp).2.1
    rw [ha]
    exact ⟨by rw [accOf_len _ _ (fun c hc => by rw [hkl];exact HR.out.vs c (List.mem_filter.1 hc).1)];omega,fun a h9 => ⟨(accOf_ok _ hkk2 _ a h9).1,(accOf_ok _ hkk2 _ a h9).2.1⟩⟩))
   have y0 : wr.cell? ⟨bt,0,none⟩ = some (.slice at_ tbl.length ct):=h1.c 0 (by simp)
   have lt_:=h1.lt
   rw [← E1]
   have H3:=hidE h3
   have HOLD:=hidE HR.out.old
   clear h1 h2 h5 h6 HR h3
   go_wp2_with fail
   refine OU.out.mono ?_
   rintro e w3 ⟨u,os,rfl,hp,ho,hb⟩
   have HP3:=hidE hp
   have HO3:=hidE ho
   have HB3:=nxt HOLD hb
   have hle:=HOLD.out.size
   obtain ⟨au,cu,rfl⟩:=owns_shapeE hp.row
   clear hp ho hb OU
   go_wp2_with fail
   refine bodyPost_ret (results_tmp2 rfl _ _ _) rfl ?_
   exact ⟨_,os,tbl,rfl,⟨owns_baseG HP3.out.row hle,fun o h9 => owns_baseG (HP3.out.vs o h9) hle⟩,HO3.out,by rw [← E1];exact H3.out,HB3.out⟩
theorem answer_any (va vw vb pv : Value) (q : Qy) (ps : List (AgQ × Value)) (vs : List Value) (M : List (List Ev)) (W : World) (h : QyG W va vw vb q ps) (hc : chkQ q = 0) (hM : PtsR W pv vs M) (hm3 : M.length ≤ 3) (hml : ∀ l ∈ M,l.length ≤ 40) :
  Calls Tryz.prog 11 #[qyV va vw vb q,pv] W fun e w' => ∃ u os tbl,e = .returned (.tuple #[u,.int .i64 (allN q M : Nat)]) ∧ PosR W.heap.size w' u os ∧ os.map outO = tbl.map outP ∧ OfT (q.aggs.map AgQ.kind) (allC q M) tbl ∧ Below W.heap.size W w' :=
 answer_gen va vw vb pv q ps vs M W h hc hM hm3 (by have:=evsN_40 M hml;omega)
end Go.Proofs.YtaomljdbndajgaaGreatDoor
