/- The contract of query.Parse, over this seat's translation. Conditions: the library's tables and the fields' names lie. -/
import Derived.Test.YtcgjflamgnjhcaaGreatDoorChkRJ
import Derived.Test.YtcgjflamgnjhcaaGreatDoorEnJJ
import Derived.Test.YtcgjflamgnjhcaaGreatDoorLex2J
set_option linter.unusedVariables false
set_option linter.unusedSimpArgs false
set_option maxRecDepth 100000
set_option maxHeartbeats 8000000
namespace Go.Proofs.YtcgjflamgnjhcaaGreatDoor
open Go.ChangeShapes Go.WideShapes Go.ChangeAt Go.RowKit
structure QyO (w : World) (B : Nat) (va vw vb : Value) (q : Qy) (ps : List (AgQ × Value)) : Prop where
 qa : ps.map Prod.fst = q.aggs
 row : w.ownsRow B 143 2 va ps.length (rowOf cellsAg ps)
 nds : ∀ p ∈ ps,OptR w B p.2 p.1.of
 wh : OptR w B vw q.wh
 by_ : OptR w B vb q.bys
theorem optR_base {w : World} {B B' : Nat} {v : Value} {l : List Nd} (h : OptR w B v l) (hB : B' ≤ B) : OptR w B' v l:=by
 rcases h with h | h
 ·exact .inl h
 ·exact .inr ⟨owns_baseG h.1 hB,h.2⟩
theorem optR_nod {w : World} {B : Nat} {v : Value} {l : List Nd} (h : OptR w B v l) : NodG w v l ∧ l.length ≤ 1000:=by
 rcases h with ⟨rfl,rfl⟩ | h
 ·exact ⟨nil_row6 w,by simp⟩
 ·exact ⟨rowG_of_owns h.1,by have:=h.2.2.1;omega⟩
theorem qyO_G {w : World} {B : Nat} {va vw vb : Value} {q : Qy} {ps : List (AgQ × Value)} (h : QyO w B va vw vb q ps) : QyG w va vw vb q ps :=
 ⟨⟨rowG_of_owns h.row,fun p hp => optR_nod (h.nds p hp)⟩,h.qa,(optR_nod h.wh).1,(optR_nod h.by_).1,(optR_nod h.wh).2,(optR_nod h.by_).2⟩
theorem qyO_below {w w' : World} {B : Nat} {va vw vb : Value} {q : Qy} {ps : List (AgQ × Value)} (h : QyO w B va vw vb q ps) (hb : Below w.heap.size w w') : QyO w' B va vw vb q ps :=
 have k:=keptB_of_below (bad:=fun _ => False) hb
 ⟨h.qa,own_kept h.row k (fun k e h9 => h9),fun p hp => optR_kept (h.nds p hp) k (fun k e => e.elim),optR_kept h.wh k (fun k e => e.elim),optR_kept h.by_ k (fun k e => e.elim)⟩
theorem qyO_ty {w w' : World} {B g t : Nat} {va vw vb : Value} {q : Qy} {ps : List (AgQ × Value)} (h : QyO w B va vw vb q ps) (hk : KeptB w w' (fun q => q = g)) (ht : TyAt w g t) (h1 : t ≠ 153) (h2 : t ≠ 143) : QyO w' B va vw vb q ps :=
 ⟨h.qa,own_kept h.row hk (fun k e h9 => by subst h9;exact own_ty h.row ht h2 e),fun p hp => optR_ty (h.nds p hp) hk ht h1,optR_ty h.wh hk ht h1,optR_ty h.by_ hk ht h1⟩
theorem qyO_base {w : World} {B B' : Nat} {va vw vb : Value} {q : Qy} {ps : List (AgQ × Value)} (h : QyO w B va vw vb q ps) (hB : B' ≤ B) : QyO w B' va vw vb q ps :=
 ⟨h.qa,owns_baseG h.row hB,fun p hp => optR_base (h.nds p hp) hB,optR_base h.wh hB,optR_base h.by_ hB⟩
theorem qyO_of {w : World} {B0 B : Nat} {va vw vb : Value} {q : Qy} (h1 : AggsR w B0 B va q.aggs true) (h2 : OptS w B vw q.wh true) (h3 : OptS w B vb q.bys true) (B' : Nat) (hB0 : B' ≤ B0) (hB : B' ≤ B) : ∃ ps,QyO w B' va vw vb q ps:=by
 obtain ⟨ps,e1,e2,e3,e4⟩:=h1
 have hl : q.aggs.length = ps.length:=by rw [← e1];simp
 rw [hl] at e2
 exact ⟨ps,e1,owns_baseG e2 hB0,fun p hp => optR_base (e4 rfl p hp) hB,optR_base (h2.2 rfl) hB,optR_base (h3.2 rfl) hB⟩
theorem lexT_240 (s : ByteArray) : ∀ x ∈ (lexT s).2,x.size ≤ 240:=by
 by_cases h : s.size ≤ 240
 ·exact fun x hx => Nat.le_trans (lexT_small s x hx) h
 ·unfold lexT
  rw [if_neg h]
  exact fun x hx => by simp at hx
theorem lexT_wq (s : ByteArray) : ∀ x ∈ (lexT s).2,WQ x:=fun x hx => ⟨.inl (lexT_wordy s x hx),lexT_240 s x hx⟩
def qzV : Value:=.agg #[.slice none 0 0,.slice none 0 0,.slice none 0 0,.int .i64 0,.int .i64 0,.int .i64 0,.int .i64 0]
def ParseR (s : ByteArray) (w : World) (r : Ending) (w' : World) : Prop:=Below w.heap.size w w' ∧ match parseQ s with
 | .error c => r = .returned (.tuple #[qzV,errC c]) ∧ c ≠ 0
 | .ok q => ∃ va vw vb ps,r = .returned (.tuple #[qyV va vw vb q,.nilIface]) ∧ QyO w' w.heap.size va vw vb q ps
theorem parse_lex (s : ByteArray) (w : World) (ht : TabQ w) (hx : (lexT s).1 ≠ 0) :
  Calls Tryz.prog 38 #[.string s] w fun r w' => ParseR s w r w':=by
 have ba:=below_alloc w (.cells #[.slice none 0 0,.slice none 0 0,.slice none 0 0,.int .i64 0,.int .i64 0,.int .i64 0,.int .i64 0] 28)
 have BA:=hidE ba
 have BR:=hidE (blk_alloc w [.slice none 0 0,.slice none 0 0,.slice none 0 0,.int .i64 0,.int .i64 0,.int .i64 0,.int .i64 0] 28)
 have TR:=hidE (tyAt_new w #[.slice none 0 0,.slice none 0 0,.slice none 0 0,.int .i64 0,.int .i64 0,.int .i64 0,.int .i64 0] 28)
 have WO:=words_any s (w.alloc (.cells #[.slice none 0 0,.slice none 0 0,.slice none 0 0,.int .i64 0,.int .i64 0,.int .i64 0,.int .i64 0] 28))
 have T0:=hidE (ht.below ba)
 have e9 : (w.alloc (.cells #[.slice none 0 0,.slice none 0 0,.slice none 0 0,.int .i64 0,.int .i64 0,.int .i64 0,.int .i64 0] 28)).heap.size = w.heap.size + 1:=by simp
 have EP : Hid (parseQ s = .error (lexT s).1):=by show _ = _;unfold parseQ;rw [if_pos hx]
 have ev : errV (lexT s).1 = .iface 93 (.int .i64 (lexT s).1):=by unfold errV;rw [if_neg hx]
 rw [ev] at WO
 have HX:=hidE hx
 generalize (lexT s).1 = c at *
 have WOH:=hidE WO
 clear WO ht ba hx ev e9
 go_enter Tryz.func38,Tryz.ntmps38
 go_wp2_with fail
 refine WOH.out.mono ?_
 rintro r w1 ⟨v,rfl,ho,hb⟩
 obtain ⟨ao,cap,rfl⟩:=owns_shapeE ho
 have B1:=hidE (BA.out.trans (hb.mono BA.out.size))
 have BR1:=hidE (blk_below BR.out hb BR.out.lt)
 have f0:=BR1.out.fz 0
 have f1:=BR1.out.fz 1
 have f2:=BR1.out.fz 2
 have f3:=BR1.out.fz 3
 have f4:=BR1.out.fz 4
 have f5:=BR1.out.fz 5
 have f6:=BR1.out.fz 6
 have c0:=BR1.out.c 0 (by simp)
 have c1:=BR1.out.c 1 (by simp)
 have c2:=BR1.out.c 2 (by simp)
 have c3:=BR1.out.c 3 (by simp)
 have c4:=BR1.out.c 4 (by simp)
 have c5:=BR1.out.c 5 (by simp)
 have c6:=BR1.out.c 6 (by simp)
 simp only [List.getElem?_cons_zero,List.getElem?_cons_succ] at c0 c1 c2 c3 c4 c5 c6
 have Z:=hidE (show BlkAt (((((((w1.setCell ⟨w.heap.size,0,none⟩ (.slice none 0 0)).setCell ⟨w.heap.size,1,none⟩ (.slice none 0 0)).setCell ⟨w.heap.size,2,none⟩ (.slice none 0 0)).setCell ⟨w.heap.size,3,none⟩ (.int .i64 0)).setCell ⟨w.heap.size,4,none⟩ (.int .i64 0)).setCell ⟨w.heap.size,5,none⟩ (.int .i64 0)).setCell ⟨w.heap.size,6,none⟩ (.int .i64 0)) w.heap.size [.slice none 0 0,.slice none 0 0,.slice none 0 0,.int .i64 0,.int .i64 0,.int .i64 0,.int .i64 0] by simpa using (blk_set (blk_set (blk_set (blk_set (blk_set (blk_set (blk_set BR1.out 0 (.slice none 0 0) (by simp)) 1 (.slice none 0 0) (by simp)) 2 (.slice none 0 0) (by simp)) 3 (.int .i64 0) (by simp)) 4 (.int .i64 0) (by simp)) 5 (.int .i64 0) (by simp)) 6 (.int .i64 0) (by simp)))
 have KG : Hid (KeptB w1 (((((((w1.setCell ⟨w.heap.size,0,none⟩ (.slice none 0 0)).setCell ⟨w.heap.size,1,none⟩ (.slice none 0 0)).setCell ⟨w.heap.size,2,none⟩ (.slice none 0 0)).setCell ⟨w.heap.size,3,none⟩ (.int .i64 0)).setCell ⟨w.heap.size,4,none⟩ (.int .i64 0)).setCell ⟨w.heap.size,5,none⟩ (.int .i64 0)).setCell ⟨w.heap.size,6,none⟩ (.int .i64 0)) (fun q => q = w.heap.size)):=(keptB_set (keptB_set (keptB_set (keptB_set (keptB_set (keptB_set (keptB_set (keptB_of_below (bad:=fun q => q = w.heap.size) (Below.refl w1.heap.size w1)) rfl 0 _) rfl 1 _) rfl 2 _) rfl 3 _) rfl 4 _) rfl 5 _) rfl 6 _)
 clear hb ho WOH BR
 go_wp2_with fail
 generalize (((((((w1.setCell ⟨w.heap.size,0,none⟩ (.slice none 0 0)).setCell ⟨w.heap.size,1,none⟩ (.slice none 0 0)).setCell ⟨w.heap.size,2,none⟩ (.slice none 0 0)).setCell ⟨w.heap.size,3,none⟩ (.int .i64 0)).setCell ⟨w.heap.size,4,none⟩ (.int .i64 0)).setCell ⟨w.heap.size,5,none⟩ (.int .i64 0)).setCell ⟨w.heap.size,6,none⟩ (.int .i64 0)) = wz at *
 have z0:=Z.out.c 0 (by simp)
 have z1:=Z.out.c 1 (by simp)
 have z2:=Z.out.c 2 (by simp)
 have z3:=Z.out.c 3 (by simp)
 have z4:=Z.out.c 4 (by simp)
 have z5:=Z.out.c 5 (by simp)
 have z6:=Z.out.c 6 (by simp)
 simp only [List.getElem?_cons_zero,List.getElem?_cons_succ] at z0 z1 z2 z3 z4 z5 z6
 refine bodyPost_ret (v:=.tuple #[.agg #[.slice none 0 0,.slice none 0 0,.slice none 0 0,.int .i64 0,.int .i64 0,.int .i64 0,.int .i64 0],.iface 93 (.int .i64 c)]) (by simp [results,Tryz.results38,go_sem,z0,z1,z2,z3,z4,z5,z6]) rfl ?_
 refine ⟨keptB_below (kept_own (gp:=w.heap.size) (keptB_of_below B1.out) KG.out (Nat.le_refl _)) (Nat.le_refl _) (fun k e => by omega),?_⟩
 rw [EP.out]
 exact ⟨by rw [errC_ne HX.out];rfl,HX.out⟩
theorem px_made {B : Nat} {w1 w2 : World} {v : Value} {ws : Ws} (ht : TabQ w2) (ho : w1.ownsRow B 9 1 v ws.length (ws.map Value.string)) (hb : Below w1.heap.size w1 w2) (gm gp : Nat) (hm : MapL w2 gm sgL) (hgm : gm < gp)
  (hbd : BlkAt w2 gp [v,.map (some gm),.int .i64 0,.nilIface]) (hgp : w1.heap.size ≤ gp) (hlo : 7 ≤ gp) (hw : ∀ x ∈ ws,WQ x) (hf : ws.length ≤ 80) : PXS w2 gp gm (.ok ws):=by
 refine ⟨v,⟨?_,ht,hw,hlo⟩⟩
 refine ⟨hbd,rowG_below (rowG_of_owns ho) hb,fun g off m c e => ?_,hm,hgm,fun h => absurd rfl h,by omega⟩
 have:=(own_at ho g (by rw [e];rfl)).2
 omega
theorem parse_rest (s : ByteArray) (w : World) (ht : TabQ w) (hx : (lexT s).1 = 0) :
  Calls Tryz.prog 38 #[.string s] w fun r w' => ParseR s w r w':=by
 have ba:=below_alloc w (.cells #[.slice none 0 0,.slice none 0 0,.slice none 0 0,.int .i64 0,.int .i64 0,.int .i64 0,.int .i64 0] 28)
 have BA:=hidE ba
 have BR:=hidE (blk_alloc w [.slice none 0 0,.slice none 0 0,.slice none 0 0,.int .i64 0,.int .i64 0,.int .i64 0,.int .i64 0] 28)
 have TR:=hidE (tyAt_new w #[.slice none 0 0,.slice none 0 0,.slice none 0 0,.int .i64 0,.int .i64 0,.int .i64 0,.int .i64 0] 28)
 have WO:=words_any s (w.alloc (.cells #[.slice none 0 0,.slice none 0 0,.slice none 0 0,.int .i64 0,.int .i64 0,.int .i64 0,.int .i64 0] 28))
 have T0:=hidE (ht.below ba)
 have e9 : (w.alloc (.cells #[.slice none 0 0,.slice none 0 0,.slice none 0 0,.int .i64 0,.int .i64 0,.int .i64 0,.int .i64 0] 28)).heap.size = w.heap.size + 1:=by simp
 have ev : errV (lexT s).1 = .nilIface:=by rw [hx];rfl
 rw [ev] at WO
 have WQH:=hidE (lexT_wq s)
 have FEW:=hidE (lexT_few s)
 have HX:=hidE hx
 have EPQ : Hid (parseQ s = match questP (lexT s).2 with | .error c => .error c | .ok q => if chkQ q ≠ 0 then .error (chkQ q) else .ok q):=by show _ = _;unfold parseQ;rw [if_neg (by simp [hx])];rfl
 have hsz:=ht.t.sz
 generalize (lexT s).2 = ws at *
 have WOH:=hidE WO
 have HZ:=hidE e9
 clear WO ht ba hx ev e9
 go_enter Tryz.func38,Tryz.ntmps38
 go_wp2_with fail
 refine WOH.out.mono ?_
 rintro r w1 ⟨v,rfl,ho,hb⟩
 obtain ⟨ao,cap,rfl⟩:=owns_shapeE ho
 have B1:=hidE (BA.out.trans (hb.mono BA.out.size))
 have BR1:=hidE (blk_below BR.out hb BR.out.lt)
 have TR1:=hidE (tyAt_kept TR.out (keptB_of_below (bad:=fun _ => False) hb) id)
 have T1:=hidE (T0.out.below hb)
 have HO:=hidE ho
 have SG:=hidE (signs_any w1)
 clear hb ho WOH BR TR T0
 go_wp2_with fail
 refine SG.out.mono ?_
 rintro r w2 ⟨rfl,hb,hm⟩
 have BW2:=hidE (below_alloc w2 (.cells #[.slice ao ws.length cap,.map (some w1.heap.size),.int .i64 0,.nilIface] 134))
 have HB2:=hidE hb
 have HM2:=hidE hm
 have T2:=hidE (T1.out.below hb)
 have BP:=hidE (blk_alloc w2 [.slice ao ws.length cap,.map (some w1.heap.size),.int .i64 0,.nilIface] 134)
 have lm:=mapL_lt hm
 have b1s:=B1.out.size
 have b2s:=hb.size
 have lr1:=BR1.out.lt
 clear SG hb hm
 go_upto_region 5 with fail
 generalize w2.alloc (.cells #[.slice ao ws.length cap,.map (some w1.heap.size),.int .i64 0,.nilIface] 134) = w3 at *
 have P3:=px_made (T2.out.below BW2.out) HO.out (HB2.out.trans (BW2.out.mono b2s)) w1.heap.size w2.heap.size (mapL_kept HM2.out (keptB_of_below (bad:=fun _ => False) BW2.out) id) lm BP.out b2s (by omega) WQH.out FEW.out
 have BR3:=hidE (blk_below (blk_below BR1.out HB2.out lr1) BW2.out (by omega))
 have TR3:=hidE (tyAt_kept (tyAt_kept TR1.out (keptB_of_below (bad:=fun _ => False) HB2.out) id) (keptB_of_below (bad:=fun _ => False) BW2.out) id)
 have B3:=hidE (B1.out.trans ((HB2.out.trans (BW2.out.mono b2s)).mono b1s))
 have QA:=hidE (quest_any w2.heap.size w1.heap.size ws w3 P3)
 have b3s:=BW2.out.size
 generalize w2.heap.size = gp at *
 generalize w1.heap.size = gm at *
 clear P3 HO HB2 BW2 HM2 T1 T2 B1 BR1 TR1 BP WQH FEW BA lm
 go_wp2_with fail
 refine QA.out.mono ?_
 rintro r w4 ⟨va,vw,vb,rfl,hk4,hp4,ha4,hw4,hb4⟩
 obtain ⟨a1,n1,c1,rfl⟩:=sl_shape (aggs_sl ha4)
 obtain ⟨a2,n2,c2,rfl⟩:=sl_shape hw4.1
 obtain ⟨a3,n3,c3,rfl⟩:=sl_shape hb4.1
 have BR4:=hidE (blk_kept BR3.out hk4 (by omega))
 have TR4:=hidE (tyAt_kept TR3.out hk4 (by omega))
 have EQ:=hidE (quest_run ws)
 generalize questS ws = qs at *
 obtain ⟨q,st⟩:=qs
 simp only at hp4 ha4 hw4 hb4
 have B6:=hidE (below_alloc w4 (.cells #[.slice a1 n1 c1,.slice a2 n2 c2,.slice a3 n3 c3,.int .i64 q.size,.int .i64 q.slide,.int .i64 q.delay,.int .i64 q.late] 28))
 have BV:=hidE (blk_alloc w4 [.slice a1 n1 c1,.slice a2 n2 c2,.slice a3 n3 c3,.int .i64 q.size,.int .i64 q.slide,.int .i64 q.delay,.int .i64 q.late] 28)
 have lr4:=BR4.out.lt
 have lp4:=pxs_lt hp4
 have BR6:=hidE (blk_below BR4.out B6.out lr4)
 have TR6:=hidE (tyAt_kept TR4.out (keptB_of_below (bad:=fun _ => False) B6.out) id)
 have B4:=hidE (show Below w.heap.size w w4 from B3.out.trans (keptB_below hk4 (by omega) (fun k e => by omega)))
 have P6:=hidE (pxs_below hp4 B6.out)
 go_upto_region 6 with fail
 generalize w4.alloc (.cells #[.slice a1 n1 c1,.slice a2 n2 c2,.slice a3 n3 c3,.int .i64 q.size,.int .i64 q.slide,.int .i64 q.delay,.int .i64 q.late] 28) = w6 at *
 cases st with
 | error c =>
  obtain ⟨hc0,wv,hp⟩:=P6.out
  have hcc:=hp.ps.bd.c 3 (by simp)
  simp only [List.getElem?_cons_zero,List.getElem?_cons_succ] at hcc
  rw [errC_ne hc0] at hcc
  have lgp:=hp.ps.bd.lt
  have ngp : ¬ gp = w.heap.size:=by omega
  have HC0:=hidE hc0
  have EP : Hid (parseQ s = .error c):=by show _ = _;rw [EPQ.out,EQ.out];rfl
  clear hp P6 EQ EPQ ha4 hw4 hb4 hc0 hp4 hk4 TR6 TR4 BR4 BV TR3 BR3 B3 QA
  go_wp2_with fail
  have dd : Below w6.heap.size w6 ({ w6 with drawn:=w6.drawn + 1 } : World):=(Below.refl _ _).drew
  have hS : KeptB w6 ({ w6 with drawn:=w6.drawn + 1 } : World) (fun q => q = w.heap.size):=keptB_of_below dd
  have BR6d:=hidE (blk_below BR6.out dd BR6.out.lt)
  have B7 : Hid (Below w4.heap.size w4 ({ w6 with drawn:=w6.drawn + 1 } : World)):=B6.out.trans (dd.mono B6.out.size)
  clear dd BR6 B6
  refine wp_region_held (S:=fun w' => KeptB w6 w' (fun q => q = w.heap.size)) (by kernel_rfl) ?_
  generalize ({ w6 with drawn:=w6.drawn + 1 } : World) = wd at *
  have f0:=BR6d.out.fz 0
  have f1:=BR6d.out.fz 1
  have f2:=BR6d.out.fz 2
  have f3:=BR6d.out.fz 3
  have f4:=BR6d.out.fz 4
  have f5:=BR6d.out.fz 5
  have f6:=BR6d.out.fz 6
  have c0:=BR6d.out.c 0 (by simp)
  have c1:=BR6d.out.c 1 (by simp)
  have c2:=BR6d.out.c 2 (by simp)
  have c3:=BR6d.out.c 3 (by simp)
  have c4:=BR6d.out.c 4 (by simp)
  have c5:=BR6d.out.c 5 (by simp)
  have c6:=BR6d.out.c 6 (by simp)
  simp only [List.getElem?_cons_zero,List.getElem?_cons_succ] at c0 c1 c2 c3 c4 c5 c6
  have Z:=hidE (show BlkAt (((((((wd.setCell ⟨w.heap.size,0,none⟩ (.slice none 0 0)).setCell ⟨w.heap.size,1,none⟩ (.slice none 0 0)).setCell ⟨w.heap.size,2,none⟩ (.slice none 0 0)).setCell ⟨w.heap.size,3,none⟩ (.int .i64 0)).setCell ⟨w.heap.size,4,none⟩ (.int .i64 0)).setCell ⟨w.heap.size,5,none⟩ (.int .i64 0)).setCell ⟨w.heap.size,6,none⟩ (.int .i64 0)) w.heap.size [.slice none 0 0,.slice none 0 0,.slice none 0 0,.int .i64 0,.int .i64 0,.int .i64 0,.int .i64 0] by simpa using (blk_set (blk_set (blk_set (blk_set (blk_set (blk_set (blk_set BR6d.out 0 (.slice none 0 0) (by simp)) 1 (.slice none 0 0) (by simp)) 2 (.slice none 0 0) (by simp)) 3 (.int .i64 0) (by simp)) 4 (.int .i64 0) (by simp)) 5 (.int .i64 0) (by simp)) 6 (.int .i64 0) (by simp)))
  have KG : Hid (KeptB wd (((((((wd.setCell ⟨w.heap.size,0,none⟩ (.slice none 0 0)).setCell ⟨w.heap.size,1,none⟩ (.slice none 0 0)).setCell ⟨w.heap.size,2,none⟩ (.slice none 0 0)).setCell ⟨w.heap.size,3,none⟩ (.int .i64 0)).setCell ⟨w.heap.size,4,none⟩ (.int .i64 0)).setCell ⟨w.heap.size,5,none⟩ (.int .i64 0)).setCell ⟨w.heap.size,6,none⟩ (.int .i64 0)) (fun q => q = w.heap.size)):=(keptB_set (keptB_set (keptB_set (keptB_set (keptB_set (keptB_set (keptB_set (keptB_of_below (bad:=fun q => q = w.heap.size) (Below.refl wd.heap.size wd)) rfl 0 _) rfl 1 _) rfl 2 _) rfl 3 _) rfl 4 _) rfl 5 _) rfl 6 _)
  clear BR6d
  refine held_take (i:=0) (v:=.agg #[.slice none 0 0,.slice none 0 0,.slice none 0 0,.int .i64 0,.int .i64 0,.int .i64 0,.int .i64 0]) (L:=#[true,false,false,false,false]) rfl (by kernel_rfl) (by kernel_rfl) (by kernel_rfl) (fun c a w h => h) (Or.inl ⟨by kernel_rfl,fun wq hq => by go_simp⟩) hS (by kernel_rfl) ?_
  refine held_take (i:=1) (v:=.pointer (some ⟨gp,3,none⟩)) (L:=#[true,true,false,false,false]) rfl (by kernel_rfl) (by kernel_rfl) (by kernel_rfl) (fun c a w h => h) (Or.inl ⟨by kernel_rfl,fun wq hq => by go_simp⟩) hS (by kernel_rfl) ?_
  refine held_take (i:=2) (v:=.iface 93 (.int .i64 c)) (L:=#[true,true,true,false,false]) rfl (by kernel_rfl) (by kernel_rfl) (by kernel_rfl) (fun c a w h => h) (Or.inl ⟨by kernel_rfl,fun wq hq => by have q9:=kept_cell hq 3 lgp ngp;rw [hcc] at q9;go_simp⟩) hS (by kernel_rfl) ?_
  refine held_go (i:=3) (L:=#[true,true,true,true,false]) (by kernel_rfl) rfl (by kernel_rfl) (by kernel_rfl) ?_
  intro K' hK
  go_simp
  refine hK _ _ ⟨keptB_trans hS KG.out,?_⟩
  clear hK
  refine held_go (i:=4) (L:=#[true,true,true,true,true]) (by kernel_rfl) rfl (by kernel_rfl) (by kernel_rfl) ?_
  intro K' hK
  go_simp
  refine hK _ _ ⟨keptB_trans hS KG.out,?_⟩
  clear hK
  refine wpAnyH_done (by kernel_rfl) ?_ _
  clear hS
  generalize (((((((wd.setCell ⟨w.heap.size,0,none⟩ (.slice none 0 0)).setCell ⟨w.heap.size,1,none⟩ (.slice none 0 0)).setCell ⟨w.heap.size,2,none⟩ (.slice none 0 0)).setCell ⟨w.heap.size,3,none⟩ (.int .i64 0)).setCell ⟨w.heap.size,4,none⟩ (.int .i64 0)).setCell ⟨w.heap.size,5,none⟩ (.int .i64 0)).setCell ⟨w.heap.size,6,none⟩ (.int .i64 0)) = wz at *
  go_wp2_with fail
  have z0:=Z.out.c 0 (by simp)
  have z1:=Z.out.c 1 (by simp)
  have z2:=Z.out.c 2 (by simp)
  have z3:=Z.out.c 3 (by simp)
  have z4:=Z.out.c 4 (by simp)
  have z5:=Z.out.c 5 (by simp)
  have z6:=Z.out.c 6 (by simp)
  simp only [List.getElem?_cons_zero,List.getElem?_cons_succ] at z0 z1 z2 z3 z4 z5 z6
  refine bodyPost_ret (v:=.tuple #[.agg #[.slice none 0 0,.slice none 0 0,.slice none 0 0,.int .i64 0,.int .i64 0,.int .i64 0,.int .i64 0],.iface 93 (.int .i64 c)]) (by simp [results,Tryz.results38,go_sem,z0,z1,z2,z3,z4,z5,z6]) rfl ?_
  refine ⟨keptB_below (kept_own (gp:=w.heap.size) (keptB_of_below (B4.out.trans (B7.out.mono B4.out.size))) KG.out (Nat.le_refl _)) (Nat.le_refl _) (fun k e => by omega),?_⟩
  rw [EP.out]
  exact ⟨by rw [errC_ne HC0.out];rfl,HC0.out⟩
 | ok ws9 =>
  obtain ⟨wv,hp⟩:=P6.out
  have hcc:=hp.ps.bd.c 3 (by simp)
  simp only [List.getElem?_cons_zero,List.getElem?_cons_succ] at hcc
  rw [errC_0] at hcc
  obtain ⟨ps,hqo⟩:=qyO_of ha4 hw4 hb4 w.heap.size (by have:=B3.out.size;omega) (by omega)
  have EP0 : Hid (questP ws = .ok q):=EQ.out
  have QO6:=hidE (qyO_below hqo B6.out)
  have CK:=qcheck_any (.slice a1 n1 c1) (.slice a2 n2 c2) (.slice a3 n3 c3) q ps w6 (qyO_G QO6.out)
  unfold qyV at CK
  have d0:=BV.out.c 0 (by simp)
  have d1:=BV.out.c 1 (by simp)
  have d2:=BV.out.c 2 (by simp)
  have d3:=BV.out.c 3 (by simp)
  have d4:=BV.out.c 4 (by simp)
  have d5:=BV.out.c 5 (by simp)
  have d6:=BV.out.c 6 (by simp)
  simp only [List.getElem?_cons_zero,List.getElem?_cons_succ] at d0 d1 d2 d3 d4 d5 d6
  have B6':=hidE (B4.out.trans (B6.out.mono B4.out.size))
  have lr6:=BR6.out.lt
  have lv6:=BV.out.lt
  clear hp P6 EQ ha4 hw4 hb4 hp4 hk4 hqo TR4 BR4 TR3 BR3 B3 QA B6 B4
  by_cases hck : chkQ q = 0
  ·rw [hck,errC_0] at CK
   have EP : Hid (parseQ s = .ok q):=by show _ = _;rw [EPQ.out,EP0.out];simp only;rw [if_neg (by simp [hck])]
   have CKH:=hidE CK
   clear CK hck EPQ EP0
   go_wp2_with fail
   refine CKH.out.mono ?_
   rintro r w7 ⟨rfl,hb⟩
   have B7:=hidE (B6'.out.trans (hb.mono B6'.out.size))
   have BR7:=hidE (blk_below BR6.out hb lr6)
   have TR7:=hidE (tyAt_kept TR6.out (keptB_of_below (bad:=fun _ => False) hb) id)
   have BV7:=hidE (blk_below BV.out hb lv6)
   have QO7:=hidE (qyO_below QO6.out hb)
   clear hb CKH B6' BR6 TR6 BV QO6 d0 d1 d2 d3 d4 d5 d6
   have f0:=BR7.out.fz 0
   have y0:=BR7.out.c 0 (by simp)
   have f1:=BR7.out.fz 1
   have y1:=BR7.out.c 1 (by simp)
   have f2:=BR7.out.fz 2
   have y2:=BR7.out.c 2 (by simp)
   have f3:=BR7.out.fz 3
   have y3:=BR7.out.c 3 (by simp)
   have f4:=BR7.out.fz 4
   have y4:=BR7.out.c 4 (by simp)
   have f5:=BR7.out.fz 5
   have y5:=BR7.out.c 5 (by simp)
   have f6:=BR7.out.fz 6
   have y6:=BR7.out.c 6 (by simp)
   simp only [List.getElem?_cons_zero,List.getElem?_cons_succ] at y0 y1 y2 y3 y4 y5 y6
   have d0:=BV7.out.c 0 (by simp)
   have d1:=BV7.out.c 1 (by simp)
   have d2:=BV7.out.c 2 (by simp)
   have d3:=BV7.out.c 3 (by simp)
   have d4:=BV7.out.c 4 (by simp)
   have d5:=BV7.out.c 5 (by simp)
   have d6:=BV7.out.c 6 (by simp)
   simp only [List.getElem?_cons_zero,List.getElem?_cons_succ] at d0 d1 d2 d3 d4 d5 d6
   have Z:=hidE (show BlkAt (((((((w7.setCell ⟨w.heap.size,0,none⟩ (.slice a1 n1 c1)).setCell ⟨w.heap.size,1,none⟩ (.slice a2 n2 c2)).setCell ⟨w.heap.size,2,none⟩ (.slice a3 n3 c3)).setCell ⟨w.heap.size,3,none⟩ (.int .i64 q.size)).setCell ⟨w.heap.size,4,none⟩ (.int .i64 q.slide)).setCell ⟨w.heap.size,5,none⟩ (.int .i64 q.delay)).setCell ⟨w.heap.size,6,none⟩ (.int .i64 q.late)) w.heap.size [.slice a1 n1 c1,.slice a2 n2 c2,.slice a3 n3 c3,.int .i64 q.size,.int .i64 q.slide,.int .i64 q.delay,.int .i64 q.late] by simpa using (blk_set (blk_set (blk_set (blk_set (blk_set (blk_set (blk_set BR7.out 0 (.slice a1 n1 c1) (by simp)) 1 (.slice a2 n2 c2) (by simp)) 2 (.slice a3 n3 c3) (by simp)) 3 (.int .i64 q.size) (by simp)) 4 (.int .i64 q.slide) (by simp)) 5 (.int .i64 q.delay) (by simp)) 6 (.int .i64 q.late) (by simp)))
   have KG : Hid (KeptB w7 (((((((w7.setCell ⟨w.heap.size,0,none⟩ (.slice a1 n1 c1)).setCell ⟨w.heap.size,1,none⟩ (.slice a2 n2 c2)).setCell ⟨w.heap.size,2,none⟩ (.slice a3 n3 c3)).setCell ⟨w.heap.size,3,none⟩ (.int .i64 q.size)).setCell ⟨w.heap.size,4,none⟩ (.int .i64 q.slide)).setCell ⟨w.heap.size,5,none⟩ (.int .i64 q.delay)).setCell ⟨w.heap.size,6,none⟩ (.int .i64 q.late)) (fun q => q = w.heap.size)):=(keptB_set (keptB_set (keptB_set (keptB_set (keptB_set (keptB_set (keptB_set (keptB_of_below (bad:=fun q => q = w.heap.size) (Below.refl w7.heap.size w7)) rfl 0 _) rfl 1 _) rfl 2 _) rfl 3 _) rfl 4 _) rfl 5 _) rfl 6 _)
   clear BR7 BV7
   go_wp2_with fail
   generalize (((((((w7.setCell ⟨w.heap.size,0,none⟩ (.slice a1 n1 c1)).setCell ⟨w.heap.size,1,none⟩ (.slice a2 n2 c2)).setCell ⟨w.heap.size,2,none⟩ (.slice a3 n3 c3)).setCell ⟨w.heap.size,3,none⟩ (.int .i64 q.size)).setCell ⟨w.heap.size,4,none⟩ (.int .i64 q.slide)).setCell ⟨w.heap.size,5,none⟩ (.int .i64 q.delay)).setCell ⟨w.heap.size,6,none⟩ (.int .i64 q.late)) = wz at *
   have z0:=Z.out.c 0 (by simp)
   have z1:=Z.out.c 1 (by simp)
   have z2:=Z.out.c 2 (by simp)
   have z3:=Z.out.c 3 (by simp)
   have z4:=Z.out.c 4 (by simp)
   have z5:=Z.out.c 5 (by simp)
   have z6:=Z.out.c 6 (by simp)
   simp only [List.getElem?_cons_zero,List.getElem?_cons_succ] at z0 z1 z2 z3 z4 z5 z6
   refine bodyPost_ret (v:=.tuple #[.agg #[.slice a1 n1 c1,.slice a2 n2 c2,.slice a3 n3 c3,.int .i64 q.size,.int .i64 q.slide,.int .i64 q.delay,.int .i64 q.late],.nilIface]) (by simp [results,Tryz.results38,go_sem,z0,z1,z2,z3,z4,z5,z6]) rfl ?_
   refine ⟨keptB_below (kept_own (gp:=w.heap.size) (keptB_of_below B7.out) KG.out (Nat.le_refl _)) (Nat.le_refl _) (fun k e => by omega),?_⟩
   rw [EP.out]
   exact ⟨_,_,_,ps,rfl,qyO_ty QO7.out KG.out TR7.out qty_node qty_agg⟩
  ·rw [errC_ne hck] at CK
   have EP : Hid (parseQ s = .error (chkQ q)):=by show _ = _;rw [EPQ.out,EP0.out];simp only;rw [if_pos hck]
   have HC0:=hidE hck
   have CKH:=hidE CK
   generalize chkQ q = c at *
   clear CK hck EPQ EP0 QO6
   go_wp2_with fail
   refine CKH.out.mono ?_
   rintro r w7 ⟨rfl,hb⟩
   have B7:=hidE (B6'.out.trans (hb.mono B6'.out.size))
   have BR7:=hidE (blk_below BR6.out hb lr6)
   clear hb CKH B6' BR6 TR6 BV d0 d1 d2 d3 d4 d5 d6
   have f0:=BR7.out.fz 0
   have y0:=BR7.out.c 0 (by simp)
   have f1:=BR7.out.fz 1
   have y1:=BR7.out.c 1 (by simp)
   have f2:=BR7.out.fz 2
   have y2:=BR7.out.c 2 (by simp)
   have f3:=BR7.out.fz 3
   have y3:=BR7.out.c 3 (by simp)
   have f4:=BR7.out.fz 4
   have y4:=BR7.out.c 4 (by simp)
   have f5:=BR7.out.fz 5
   have y5:=BR7.out.c 5 (by simp)
   have f6:=BR7.out.fz 6
   have y6:=BR7.out.c 6 (by simp)
   simp only [List.getElem?_cons_zero,List.getElem?_cons_succ] at y0 y1 y2 y3 y4 y5 y6
   have Z:=hidE (show BlkAt (((((((w7.setCell ⟨w.heap.size,0,none⟩ (.slice none 0 0)).setCell ⟨w.heap.size,1,none⟩ (.slice none 0 0)).setCell ⟨w.heap.size,2,none⟩ (.slice none 0 0)).setCell ⟨w.heap.size,3,none⟩ (.int .i64 0)).setCell ⟨w.heap.size,4,none⟩ (.int .i64 0)).setCell ⟨w.heap.size,5,none⟩ (.int .i64 0)).setCell ⟨w.heap.size,6,none⟩ (.int .i64 0)) w.heap.size [.slice none 0 0,.slice none 0 0,.slice none 0 0,.int .i64 0,.int .i64 0,.int .i64 0,.int .i64 0] by simpa using (blk_set (blk_set (blk_set (blk_set (blk_set (blk_set (blk_set BR7.out 0 (.slice none 0 0) (by simp)) 1 (.slice none 0 0) (by simp)) 2 (.slice none 0 0) (by simp)) 3 (.int .i64 0) (by simp)) 4 (.int .i64 0) (by simp)) 5 (.int .i64 0) (by simp)) 6 (.int .i64 0) (by simp)))
   have KG : Hid (KeptB w7 (((((((w7.setCell ⟨w.heap.size,0,none⟩ (.slice none 0 0)).setCell ⟨w.heap.size,1,none⟩ (.slice none 0 0)).setCell ⟨w.heap.size,2,none⟩ (.slice none 0 0)).setCell ⟨w.heap.size,3,none⟩ (.int .i64 0)).setCell ⟨w.heap.size,4,none⟩ (.int .i64 0)).setCell ⟨w.heap.size,5,none⟩ (.int .i64 0)).setCell ⟨w.heap.size,6,none⟩ (.int .i64 0)) (fun q => q = w.heap.size)):=(keptB_set (keptB_set (keptB_set (keptB_set (keptB_set (keptB_set (keptB_set (keptB_of_below (bad:=fun q => q = w.heap.size) (Below.refl w7.heap.size w7)) rfl 0 _) rfl 1 _) rfl 2 _) rfl 3 _) rfl 4 _) rfl 5 _) rfl 6 _)
   clear BR7
   go_wp2_with fail
   generalize (((((((w7.setCell ⟨w.heap.size,0,none⟩ (.slice none 0 0)).setCell ⟨w.heap.size,1,none⟩ (.slice none 0 0)).setCell ⟨w.heap.size,2,none⟩ (.slice none 0 0)).setCell ⟨w.heap.size,3,none⟩ (.int .i64 0)).setCell ⟨w.heap.size,4,none⟩ (.int .i64 0)).setCell ⟨w.heap.size,5,none⟩ (.int .i64 0)).setCell ⟨w.heap.size,6,none⟩ (.int .i64 0)) = wz at *
   have z0:=Z.out.c 0 (by simp)
   have z1:=Z.out.c 1 (by simp)
   have z2:=Z.out.c 2 (by simp)
   have z3:=Z.out.c 3 (by simp)
   have z4:=Z.out.c 4 (by simp)
   have z5:=Z.out.c 5 (by simp)
   have z6:=Z.out.c 6 (by simp)
   simp only [List.getElem?_cons_zero,List.getElem?_cons_succ] at z0 z1 z2 z3 z4 z5 z6
   refine bodyPost_ret (v:=.tuple #[.agg #[.slice none 0 0,.slice none 0 0,.slice none 0 0,.int .i64 0,.int .i64 0,.int .i64 0,.int .i64 0],.iface 93 (.int .i64 c)]) (by simp [results,Tryz.results38,go_sem,z0,z1,z2,z3,z4,z5,z6]) rfl ?_
   refine ⟨keptB_below (kept_own (gp:=w.heap.size) (keptB_of_below B7.out) KG.out (Nat.le_refl _)) (Nat.le_refl _) (fun k e => by omega),?_⟩
   rw [EP.out]
   exact ⟨by rw [errC_ne HC0.out];rfl,HC0.out⟩
theorem parse_any (s : ByteArray) (w : World) (ht : TabQ w) : Calls Tryz.prog 38 #[.string s] w fun r w' => ParseR s w r w':=by
 by_cases hx : (lexT s).1 = 0
 ·exact parse_rest s w ht hx
 ·exact parse_lex s w ht hx
end Go.Proofs.YtcgjflamgnjhcaaGreatDoor
