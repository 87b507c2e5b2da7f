/- Several texts in one, each with its own head. What is proved: what the parts say. Conditions: theirs. -/
import Derived.Test.YteaanpdckkmjoaaGreatDoorPrsLJ
import Derived.Test.YteaanpdckkmjoaaGreatDoorExpr2J
import Derived.Test.YteaanpdckkmjoaaGreatDoorExpr9J
import Derived.OrdersHeld
import Derived.Test.YteaanpdckkmjoaaGreatDoorLexPureJ
import Derived.Test.YteaanpdckkmjoaaGreatDoorRqCJ
set_option linter.unusedVariables false
set_option linter.unusedSimpArgs false
set_option maxRecDepth 100000
set_option maxHeartbeats 8000000
namespace Go.Proofs.YteaanpdckkmjoaaGreatDoor
open Go.ChangeShapes Go.WideShapes Go.ChangeAt Go.RowKit
theorem chkAs_all : ∀ (l : List AgQ),(∀ (m : Nat) (a : AgQ),l[m]? = some a → chkA a = 0) → chkAs l = 0
 | [],_ => rfl
 | a :: l,h => by
  unfold chkAs
  rw [if_neg (by simp [h 0 a rfl])]
  exact chkAs_all l (fun m b hb => h (m + 1) b (by simpa using hb))
theorem chkAs_at : ∀ (l : List AgQ) (j : Nat) (a : AgQ),l[j]? = some a → chkA a ≠ 0 → (∀ m b,m < j → l[m]? = some b → chkA b = 0) → chkAs l = chkA a
 | [],j,a,h,_,_ => by simp at h
 | b :: l,0,a,h,hc,_ => by
  simp at h
  subst h
  unfold chkAs
  rw [if_pos hc]
 | b :: l,j + 1,a,h,hc,hp => by
  unfold chkAs
  rw [if_neg (by simp [hp 0 b (by omega) rfl])]
  exact chkAs_at l j a (by simpa using h) hc (fun m b hm hb => hp (m + 1) b (by omega) (by simpa using hb))
structure AggG (w : World) (va : Value) (ps : List (AgQ × Value)) : Prop where
 row : RowG w va 2 ps.length (rowOf cellsAg ps)
 nds : ∀ p ∈ ps,NodG w p.2 p.1.of ∧ p.1.of.length ≤ 1000
theorem cellsAg_len (p : AgQ × Value) : (cellsAg p).length = 2:=rfl
theorem aggG_below {w w' : World} {va : Value} {ps : List (AgQ × Value)} (h : AggG w va ps) (hb : Below w.heap.size w w') : AggG w' va ps:=⟨rowG_below h.row hb,fun p hp => ⟨nodG_below (h.nds p hp).1 hb,(h.nds p hp).2⟩⟩
structure QyG (w : World) (va vw vb : Value) (q : Qy) (ps : List (AgQ × Value)) : Prop where
 ag : AggG w va ps
 qa : ps.map Prod.fst = q.aggs
 wh : NodG w vw q.wh
 by_ : NodG w vb q.bys
 lw : q.wh.length ≤ 1000
 lb : q.bys.length ≤ 1000
theorem qyG_below {w w' : World} {va vw vb : Value} {q : Qy} {ps : List (AgQ × Value)} (h : QyG w va vw vb q ps) (hb : Below w.heap.size w w') : QyG w' va vw vb q ps:=⟨aggG_below h.ag hb,h.qa,nodG_below h.wh hb,nodG_below h.by_ hb,h.lw,h.lb⟩
def qyV (va vw vb : Value) (q : Qy) : Value:=.agg #[va,vw,vb,.int .i64 q.size,.int .i64 q.slide,.int .i64 q.delay,.int .i64 q.late]
theorem qcheck_any (va vw vb : Value) (q : Qy) (ps : List (AgQ × Value)) (W : World) (h : QyG W va vw vb q ps) :
  Calls Tryz.prog 9 #[qyV va vw vb q] W fun e w' => e = .returned (errC (chkQ q)) ∧ Below W.heap.size W w':=by
 unfold qyV
 obtain ⟨ao,cap,rfl⟩:=rowG_shape h.ag.row
 obtain ⟨a2,c2,rfl⟩:=rowG_shape h.wh
 obtain ⟨a3,c3,rfl⟩:=rowG_shape h.by_
 have ba:=below_alloc W (.cells #[.slice ao ps.length cap,.slice a2 q.wh.length c2,.slice a3 q.bys.length c3,.int .i64 q.size,.int .i64 q.slide,.int .i64 q.delay,.int .i64 q.late] 25)
 have BA:=hidE ba
 have hlen : q.aggs.length = ps.length:=by rw [← h.qa];simp
 have BQ:=hidE (blk_alloc W [.slice ao ps.length cap,.slice a2 q.wh.length c2,.slice a3 q.bys.length c3,.int .i64 q.size,.int .i64 q.slide,.int .i64 q.delay,.int .i64 q.late] 25)
 by_cases h0 : ps.length = 0 ∨ 4 < ps.length
 ·have e : chkQ q = 2:=by unfold chkQ;rw [if_pos (by omega)]
  rw [e,errC_ne (by decide)]
  clear e hlen h ba BQ
  by_cases h1 : ps.length = 0
  ·rw [h1] at *
   clear h0
   go_enter Tryz.func9,Tryz.ntmps9
   go_wp2_with fail
   go_ret
   exact ⟨rfl,below_alloc _ _⟩
  ·have h2 : (4 : Int) < (ps.length : Int):=by omega
   have h3 : ((ps.length : Int) == 0) = false:=beq_eq_false_iff_ne.2 (by omega)
   clear h0
   go_enter Tryz.func9,Tryz.ntmps9
   go_wp2_with fail
   go_ret
   exact ⟨rfl,BA.out⟩
 ·have h1 : ¬ (4 : Int) < (ps.length : Int):=by omega
  have h3 : ((ps.length : Int) == 0) = false:=beq_eq_false_iff_ne.2 (by omega)
  have HE : Hid (∀ j a,q.aggs[j]? = some a → chkA a ≠ 0 → (∀ m b,m < j → q.aggs[m]? = some b → chkA b = 0) → chkQ q = chkA a):=fun j a ha hc hp => by
   have e9:=chkAs_at q.aggs j a ha hc hp
   unfold chkQ
   rw [if_neg (by omega),if_pos (by rw [e9];exact hc),e9]
  have HW : Hid ((∀ m b,q.aggs[m]? = some b → chkA b = 0) → chkQ q = if chkW q.wh ≠ 0 then chkW q.wh else if chkB q.bys ≠ 0 then chkB q.bys else chkS q):=fun hp => by
   have e9:=chkAs_all q.aggs hp
   unfold chkQ
   rw [if_neg (by omega),if_neg (by simp [e9])]
  have HG:=hidE (qyG_below h ba)
  have HQA:=hidE h.qa
  have hn4 : ps.length ≤ 4:=by omega
  generalize hc : chkQ q = c at *
  clear hlen h ba h0 hc
  go_enter Tryz.func9,Tryz.ntmps9
  go_wp2_with fail
  generalize hgz : W.heap.size = gz at *
  generalize W.alloc (.cells #[.slice ao ps.length cap,.slice a2 q.wh.length c2,.slice a3 q.bys.length c3,.int .i64 q.size,.int .i64 q.slide,.int .i64 q.delay,.int .i64 q.late] 25) = w0 at *
  have lq:=BQ.out.lt
  have hle : gz ≤ w0.heap.size:=by rw [← hgz];exact BA.out.size
  go_loopw [22] (fun i wr => ∃ j : Nat,j ≤ ps.length ∧ i = .int .i64 j ∧ Hid (Below w0.heap.size w0 wr) ∧ Hid (∀ m b,m < j → q.aggs[m]? = some b → chkA b = 0)) (fun i _ => ps.length - (intOf i).toNat)
  case atStart => exact ⟨0,Nat.zero_le _,rfl,Below.refl _ _,fun m b hm => absurd hm (by omega)⟩
  case round =>
   obtain ⟨j,hj,rfl,HB,HP⟩:=hrel
   by_cases hlt : j < ps.length
   ·have HGr:=hidE (qyG_below HG.out HB.out)
    obtain ⟨g,off,hao,hcell,q1,q2,lg⟩:=rowOf_val cellsAg_len HGr.out.ag.row j hlt
    subst hao
    have hnd:=HGr.out.ag.nds ps[j] (List.getElem_mem hlt)
    have hqa : q.aggs[j]? = some ps[j].1:=by rw [← HQA.out];simp [hlt]
    have HQJ:=hidE hqa
    generalize ps[j] = p at *
    obtain ⟨⟨k,l⟩,v⟩:=p
    have y0:=hcell 0 (by omega)
    have y1:=hcell 1 (by omega)
    have y0 : wr.cell? ⟨g,off + j * 2,none⟩ = some (.int .i64 k):=y0
    have y1 : wr.cell? ⟨g,off + j * 2 + 1,none⟩ = some v:=y1
    have hsh : ∃ a9 n9 c9,v = .slice a9 n9 c9:=by obtain ⟨a9,c9,e9⟩:=rowG_shape hnd.1;exact ⟨_,_,_,e9⟩
    obtain ⟨a9,n9,c9,rfl⟩:=hsh
    have ba2:=below_alloc wr (.cells #[.int .i64 k,.slice a9 n9 c9] 46)
    have CA:=checkAgg_any ⟨k,l⟩ (.slice a9 n9 c9) _ hnd.2 (nodG_below hnd.1 ba2)
    have HB2:=hidE (HB.out.trans (ba2.mono HB.out.size))
    unfold maxLen at q2
    clear hcell hnd ba2 hqa
    by_cases hca : chkA ⟨k,l⟩ = 0
    ·rw [hca,errC_0] at CA
     have CAH:=hidE CA
     have HP2 : Hid (∀ m b,m < j + 1 → q.aggs[m]? = some b → chkA b = 0):=fun m b hm hb => by
      by_cases e9 : m < j
      ·exact HP.out m b e9 hb
      ·have : m = j:=by omega
       subst this
       rw [HQJ.out] at hb
       cases hb
       exact hca
     clear CA hca HP
     go_wp2_with fail
     refine CAH.out.mono ?_
     rintro r w1 ⟨rfl,hb⟩
     have HB3:=hidE (HB2.out.trans (hb.mono HB2.out.size))
     clear hb CAH
     go_wp2_with fail
     go_roundw
     case rel => exact ⟨j + 1,by omega,rfl,HB3,HP2⟩
     case measure => simp [intOf];omega
    ·have e : c = chkA ⟨k,l⟩:=HE.out j ⟨k,l⟩ HQJ.out hca HP.out
     rw [errC_ne hca] at CA
     have CAH:=hidE CA
     have e2 : Hid (errC c = .iface 48 (.int .i64 (chkA ⟨k,l⟩))):=by show _ = _;rw [e,errC_ne hca]
     generalize chkA ⟨k,l⟩ = cc at *
     clear CA hca HP e
     go_wp2_with fail
     refine CAH.out.mono ?_
     rintro r w1 ⟨rfl,hb⟩
     have HB3:=hidE (HB2.out.trans (hb.mono HB2.out.size))
     clear hb CAH
     go_wp2_with fail
     go_ret
     rw [e2.out]
     exact ⟨rfl,by rw [hgz];exact BA.out.trans (HB3.out.mono hle)⟩
   ·have hje : j = ps.length:=by omega
    subst hje
    have hall : ∀ m b,q.aggs[m]? = some b → chkA b = 0:=fun m b hb => HP.out m b (by
     have:=(List.getElem?_eq_some_iff.1 hb).1
     rw [← HQA.out] at this
     simpa using this) hb
    have e:=HW.out hall
    have HGr:=hidE (qyG_below HG.out HB.out)
    have BQr:=hidE (blk_below BQ.out HB.out lq)
    clear hlt hall HP HE HW
    have CW:=checkWhere_any q.wh _ wr HGr.out.lw HGr.out.wh
    have CB:=hidE (fun w (hb : Below wr.heap.size wr w) => checkBy_any q.bys _ w HGr.out.lb (nodG_below HGr.out.by_ hb))
    have b1:=BQr.out.c 1 (by simp)
    simp only [List.getElem?_cons_zero,List.getElem?_cons_succ] at b1
    by_cases hw : chkW q.wh = 0
    ·rw [hw,errC_0] at CW
     rw [if_neg (by simp [hw])] at e
     have CWH:=hidE CW
     clear CW hw
     by_cases hbz : chkB q.bys = 0
     ·rw [if_neg (by simp [hbz])] at e
      subst e
      have HBZ:=hidE hbz
      clear hbz
      go_wp2_with fail
      refine CWH.out.mono ?_
      rintro r w1 ⟨rfl,hb⟩
      have HB3:=hidE (HB.out.trans (hb.mono HB.out.size))
      have BQ1:=hidE (blk_below BQr.out hb BQr.out.lt)
      have CB1:=CB.out w1 hb
      rw [HBZ.out,errC_0] at CB1
      have CBH:=hidE CB1
      have d2:=BQ1.out.c 2 (by simp)
      simp only [List.getElem?_cons_zero,List.getElem?_cons_succ] at d2
      clear hb CWH CB CB1 b1
      go_wp2_with fail
      refine CBH.out.mono ?_
      rintro r w2 ⟨rfl,hb⟩
      have HB4:=hidE (HB3.out.trans (hb.mono HB3.out.size))
      have BQ2:=hidE (blk_below BQ1.out hb BQ1.out.lt)
      have CS:=hidE (checkWindow_any (.slice ao ps.length cap) (.slice a2 q.wh.length c2) (.slice a3 q.bys.length c3) rfl rfl rfl q w2)
      have z0:=BQ2.out.c 0 (by simp)
      have z1:=BQ2.out.c 1 (by simp)
      have z2:=BQ2.out.c 2 (by simp)
      have z3:=BQ2.out.c 3 (by simp)
      have z4:=BQ2.out.c 4 (by simp)
      have z5:=BQ2.out.c 5 (by simp)
      have z6:=BQ2.out.c 6 (by simp)
      simp only [List.getElem?_cons_zero,List.getElem?_cons_succ] at z0 z1 z2 z3 z4 z5 z6
      obtain ⟨ev,hev⟩ : ∃ ev,errC (chkS q) = ev:=⟨_,rfl⟩
      rw [hev] at CS
      have HEV:=hidE hev
      clear hb CBH d2 hev
      go_wp2_with fail
      refine CS.out.mono ?_
      rintro r w3 ⟨rfl,hb⟩
      have HB5:=hidE (HB4.out.trans (hb.mono HB4.out.size))
      clear hb CS
      go_wp2_with fail
      go_ret
      rw [HEV.out]
      exact ⟨rfl,by rw [hgz];exact BA.out.trans (HB5.out.mono hle)⟩
     ·rw [if_pos hbz] at e
      have e2 : Hid (errC c = .iface 48 (.int .i64 (chkB q.bys))):=by show _ = _;rw [e,errC_ne hbz]
      have HBZ:=hidE hbz
      clear hbz e
      go_wp2_with fail
      refine CWH.out.mono ?_
      rintro r w1 ⟨rfl,hb⟩
      have HB3:=hidE (HB.out.trans (hb.mono HB.out.size))
      have BQ1:=hidE (blk_below BQr.out hb BQr.out.lt)
      have CB1:=CB.out w1 hb
      rw [errC_ne HBZ.out] at CB1
      have CBH:=hidE CB1
      have d2:=BQ1.out.c 2 (by simp)
      simp only [List.getElem?_cons_zero,List.getElem?_cons_succ] at d2
      generalize chkB q.bys = cc at *
      clear hb CWH CB CB1 b1 HBZ
      go_wp2_with fail
      refine CBH.out.mono ?_
      rintro r w2 ⟨rfl,hb⟩
      have HB4:=hidE (HB3.out.trans (hb.mono HB3.out.size))
      clear hb CBH d2
      go_wp2_with fail
      go_ret
      rw [e2.out]
      exact ⟨rfl,by rw [hgz];exact BA.out.trans (HB4.out.mono hle)⟩
    ·rw [if_pos hw] at e
     rw [errC_ne hw] at CW
     have CWH:=hidE CW
     have e2 : Hid (errC c = .iface 48 (.int .i64 (chkW q.wh))):=by show _ = _;rw [e,errC_ne hw]
     generalize chkW q.wh = cc at *
     clear CW hw e CB
     go_wp2_with fail
     refine CWH.out.mono ?_
     rintro r w1 ⟨rfl,hb⟩
     have HB3:=hidE (HB.out.trans (hb.mono HB.out.size))
     clear hb CWH
     go_wp2_with fail
     go_ret
     rw [e2.out]
     exact ⟨rfl,by rw [hgz];exact BA.out.trans (HB3.out.mono hle)⟩
end Go.Proofs.YteaanpdckkmjoaaGreatDoor
namespace Go.Proofs.YteaanpdckkmjoaaGreatDoor
open Go.ChangeShapes Go.WideShapes Go.ChangeAt Go.RowKit
attribute [local go_sem ↓] eql_value neq_value
def okV (p : V2) : Prop:=vok p.1 p.2 = true
theorem nth_in (vs : List V2) (i : Nat) (h : i < vs.length) : nth vs (i : Int) = vs[i]:=by
 unfold nth
 rw [if_neg (by omega),List.getD_eq_getElem?_getD,Int.toNat_natCast,List.getElem?_eq_getElem h];rfl
theorem okN_val {n : Nd} (h : okN n = 0) : okV (n.k,n.v):=by
 unfold okN at h
 by_cases hh : badN n
 ·simp [hh] at h
 ·rw [if_neg hh] at h
  by_cases h3 : n.n < 0 ∨ 4 ≤ n.n
  ·simp [h3] at h
  ·rw [if_neg h3] at h
   by_cases hv : vokB n.k n.v = true
   ·exact hv
   ·rw [if_neg hv] at h;exact absurd h (by decide)
end Go.Proofs.YteaanpdckkmjoaaGreatDoor
namespace Go.Proofs.YteaanpdckkmjoaaGreatDoor
open Go.ChangeShapes Go.WideShapes Go.ChangeAt Go.RowKit
theorem evF_pre (O : Int → V2 → V2 → V2) (ev : List V2) : ∀ (l : List Nd) (vs : List V2),(evF O ev l vs).take vs.length = vs
 | [],vs => by simp [evF]
 | n :: l,vs => by
  have h:=evF_pre O ev l (vs ++ [evN O ev n vs])
  simp only [evF]
  have h2 : ((evF O ev l (vs ++ [evN O ev n vs])).take (vs ++ [evN O ev n vs]).length).take vs.length = (vs ++ [evN O ev n vs]).take vs.length:=by rw [h]
  rw [List.take_take,Nat.min_eq_left (by simp)] at h2
  simpa using h2
theorem evF_at (O : Int → V2 → V2 → V2) (ev : List V2) (l : List Nd) (i : Nat) (n : Nd) (h : l[i]? = some n) : (evF O ev l [])[i]? = some (evN O ev n ((evF O ev l []).take i)):=by
 have hi:=(List.getElem?_eq_some_iff.1 h).1
 have hsp : l = l.take i ++ n :: l.drop (i + 1):=by
  have h1 : n = l[i]:=(List.getElem?_eq_some_iff.1 h).2.symm
  rw [h1,← List.drop_eq_getElem_cons hi,List.take_append_drop]
 have hlen : (evF O ev (l.take i) []).length = i:=by rw [evF_len];simp;omega
 have e1 : evF O ev l [] = evF O ev (l.drop (i + 1)) (evF O ev (l.take i) [] ++ [evN O ev n (evF O ev (l.take i) [])]):=by
  conv => lhs;rw [hsp]
  rw [evF_app]
  rfl
 have h2:=evF_pre O ev (l.drop (i + 1)) (evF O ev (l.take i) [] ++ [evN O ev n (evF O ev (l.take i) [])])
 rw [← e1] at h2
 rw [List.length_append,hlen,List.length_singleton] at h2
 have h3 : (evF O ev l []).take i = evF O ev (l.take i) []:=by
  have : ((evF O ev l []).take (i + 1)).take i = (evF O ev (l.take i) [] ++ [evN O ev n (evF O ev (l.take i) [])]).take i:=by rw [h2]
  rw [List.take_take,Nat.min_eq_left (by omega),List.take_left' hlen] at this
  exact this
 rw [h3]
 have h4 : ((evF O ev l []).take (i + 1))[i]? = some (evN O ev n (evF O ev (l.take i) [])):=by
  rw [h2,List.getElem?_append_right (by omega),hlen]
  simp
 rwa [List.getElem?_take_of_lt (by omega)] at h4
theorem nth_take (vs : List V2) (i : Nat) (x : Int) (h0 : 0 ≤ x) (h1 : x < i) (h2 : i ≤ vs.length) : nth (vs.take i) x = nth vs x:=by
 unfold nth
 rw [if_neg (by simp;omega),if_neg (by omega),List.getD_eq_getElem?_getD,List.getD_eq_getElem?_getD,List.getElem?_take_of_lt (by omega)]
theorem okN_parts {n : Nd} (h : okN n = 0) : 0 ≤ ar n.op ∧ (n.op ≠ 1 → n.k = 0 ∧ n.v = 0) ∧ (n.op ≠ 2 → n.n = 0) ∧ (ar n.op < 2 → n.y = 0) ∧ (ar n.op < 1 → n.x = 0) ∧ 0 ≤ n.n ∧ n.n < 4:=by
 unfold okN at h
 by_cases hb : badN n
 ·simp [hb] at h
 ·rw [if_neg hb] at h
  by_cases h3 : n.n < 0 ∨ 4 ≤ n.n
  ·rw [if_pos h3] at h;exact absurd h (by decide)
  ·unfold badN at hb
   refine ⟨by omega,fun q => by omega,fun q => by omega,fun q => by omega,fun q => by omega,by omega,by omega⟩
theorem ar_op {op : Int} (h : 0 ≤ ar op) : op = 1 ∨ op = 2 ∨ op = 3 ∨ op = 4 ∨ op = 5 ∨ (6 ≤ op ∧ ar op = 2):=by
 unfold ar at h ⊢
 by_cases h1 : op = 1 ∨ op = 2
 ·omega
 ·rw [if_neg h1] at h ⊢
  by_cases h2 : 3 ≤ op ∧ op ≤ 5
  ·omega
  ·rw [if_neg h2] at h ⊢
   by_cases h3 : 6 ≤ op ∧ op ≤ 12
   ·rw [if_pos h3];omega
   ·rw [if_neg h3] at h;omega
end Go.Proofs.YteaanpdckkmjoaaGreatDoor
