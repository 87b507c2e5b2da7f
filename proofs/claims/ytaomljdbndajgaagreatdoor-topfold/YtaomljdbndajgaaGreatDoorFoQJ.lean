/- Several texts in one, each with its own head. What is proved: what the parts say. Conditions: theirs. -/
import Derived.Test.YtaomljdbndajgaaGreatDoorBtFJ
import Derived.Test.YtaomljdbndajgaaGreatDoorFoldTreeJ
import Derived.Test.YtaomljdbndajgaaGreatDoorExpr8J
import Derived.Test.YtaomljdbndajgaaGreatDoorExpr7J
import Derived.Test.YtaomljdbndajgaaGreatDoorKinJ
import Derived.Test.YtaomljdbndajgaaGreatDoorExprT1J
set_option linter.unusedVariables false
set_option linter.unusedSimpArgs false
set_option maxRecDepth 100000
set_option maxHeartbeats 8000000
namespace Go.Proofs.YtaomljdbndajgaaGreatDoor
open Go.ChangeShapes Go.WideShapes Go.ChangeAt Go.RowKit
theorem fldC_kind {k n : Int} (h : fldC k n = 0) : k = 1 ∨ k = 0:=by
 have h1:=fldC_vok h
 unfold fldC at h
 rw [if_neg (by simp [h1])] at h
 by_cases h2 : k = 2
 ·rw [if_pos h2] at h;omega
 ·unfold vok at h1
  simp only [Bool.or_eq_true,Bool.and_eq_true,decide_eq_true_eq] at h1
  omega
theorem ev_parts {x : Ev} (h : evC x = 0) : fldC x.k1 x.k2 = 0 ∧ fldC x.a1 x.a2 = 0 ∧ fldC x.b1 x.b2 = 0:=by
 unfold evC at h
 by_cases h1 : x.t < 0
 ·rw [if_pos h1] at h;omega
 rw [if_neg h1] at h
 by_cases h2 : 9999 < x.t
 ·rw [if_pos h2] at h;omega
 rw [if_neg h2] at h
 by_cases h3 : fldC x.k1 x.k2 = 0
 ·rw [if_neg (by simp [h3])] at h
  by_cases h4 : fldC x.a1 x.a2 = 0
  ·rw [if_neg (by simp [h4])] at h
   exact ⟨h3,h4,h⟩
  ·rw [if_pos h4] at h;exact absurd h h4
 ·rw [if_pos h3] at h;exact absurd h h3
theorem ev_kinds {x : Ev} (h : evC x = 0) : ∀ n : Int,(nth (evX x) n).1 = 1 ∨ (nth (evX x) n).1 = 0:=by
 obtain ⟨hk,ha,hb⟩:=ev_parts h
 intro n
 unfold nth
 split
 ·exact .inr rfl
 ·rename_i h9
  have hl : (evX x).length = 4:=rfl
  rw [hl] at h9
  rcases (by omega : n.toNat = 0 ∨ n.toNat = 1 ∨ n.toNat = 2 ∨ n.toNat = 3) with e | e | e | e <;> rw [e]
  ·exact numV_kind x.t
  ·exact fldC_kind hk
  ·exact fldC_kind ha
  ·exact fldC_kind hb
def FoldOf (l m : List Nd) : Prop:=∃ t,Wf t ∧ flat t = l ∧ m = flat (foldT t) ∧ l.length ≤ 40
theorem foldOf_len {l m : List Nd} (h : FoldOf l m) : 0 < l.length ∧ 0 < m.length ∧ m.length ≤ l.length ∧ l.length ≤ 40:=by
 obtain ⟨t,hw,rfl,rfl,hl⟩:=h
 exact ⟨flat_pos t,flat_pos _,foldT_len t,hl⟩
theorem foldOf_chk {l m : List Nd} (h : FoldOf l m) : chkE l = 0 ∧ chkE m = 0:=by
 have hl:=foldOf_len h
 obtain ⟨t,hw,rfl,rfl,h40⟩:=h
 exact ⟨flat_chk hw h40,flat_chk (foldT_wf t hw) (by omega)⟩
theorem foldOf_ev {l m : List Nd} (h : FoldOf l m) {x : Ev} (hx : evC x = 0) : evL opV (evX x) m = evL opV (evX x) l:=by
 obtain ⟨t,hw,rfl,rfl,h40⟩:=h
 rw [ev_flat opV _ (foldT t) (foldT_wf t hw),foldT_ev (ev_ok hx).1 (ev_kinds hx) t hw,← ev_flat opV _ t hw]
theorem foldOf_ty {l m : List Nd} (h : FoldOf l m) {k : Int} (hk : kindQ l = (k,0)) : kindQ m = (k,0) ∨ kindQ m = (0,0):=by
 have hc:=foldOf_chk h
 unfold kindQ at hk ⊢
 rw [if_neg (by simp [hc.1])] at hk
 rw [if_neg (by simp [hc.2])]
 obtain ⟨t,hw,rfl,rfl,h40⟩:=h
 rw [ty_flat t hw] at hk
 rw [ty_flat _ (foldT_wf t hw)]
 have ht : tyT t = some k:=by
  cases ht : tyT t with
  | none => rw [ht] at hk;simp [tyP] at hk
  | some j => rw [ht] at hk;simp only [tyP,Prod.mk.injEq,and_true] at hk;rw [hk]
 rcases foldT_ty t k hw ht with e | e
 ·exact .inl (by rw [e];rfl)
 ·exact .inr (by rw [e];rfl)
theorem foldOf_kind {l m : List Nd} (h : FoldOf l m) (hk : (kindQ l).2 = 0) : (kindQ m).2 = 0 ∧ ((kindQ m).1 = (kindQ l).1 ∨ (kindQ m).1 = 0):=by
 have:=foldOf_ty h (k:=(kindQ l).1) (by rw [← hk])
 rcases this with e | e
 ·rw [e];exact ⟨rfl,.inl rfl⟩
 ·rw [e];exact ⟨rfl,.inr rfl⟩
def FoldA (a b : AgQ) : Prop:=b.kind = a.kind ∧ (a.kind = 1 ∧ b.of = a.of ∨ a.kind ≠ 1 ∧ FoldOf a.of b.of)
structure FoldQ (q p : Qy) : Prop where
 len : p.aggs.length = q.aggs.length
 ag : ∀ (i : Nat) (a b : AgQ),q.aggs[i]? = some a → p.aggs[i]? = some b → FoldA a b
 wh : (q.wh = [] ∧ p.wh = []) ∨ FoldOf q.wh p.wh
 by_ : (q.bys = [] ∧ p.bys = []) ∨ FoldOf q.bys p.bys
 size : p.size = q.size
 slide : p.slide = q.slide
 delay : p.delay = q.delay
 late : p.late = q.late
theorem foldA_chk {a b : AgQ} (h : FoldA a b) (hc : chkA a = 0) : chkA b = 0:=by
 obtain ⟨hk,hf⟩:=h
 unfold chkA at hc ⊢
 rw [hk]
 by_cases h1 : a.kind < 1 ∨ 5 < a.kind
 ·rw [if_pos h1] at hc;omega
 rw [if_neg h1] at hc ⊢
 rcases hf with ⟨h2,h3⟩ | ⟨h2,h3⟩
 ·rw [if_pos h2] at hc ⊢
  rw [h3]
  exact hc
 ·rw [if_neg h2] at hc ⊢
  by_cases h4 : (kindQ a.of).2 = 0
  ·rw [if_neg (by simp [h4])] at hc
   obtain ⟨e1,e2⟩:=foldOf_kind h3 h4
   rw [if_neg (by simp [e1])]
   by_cases h5 : (kindQ a.of).1 = 2 ∧ a.kind ≠ 2
   ·rw [if_pos h5] at hc;omega
   ·rw [if_neg]
    rintro ⟨h6,h7⟩
    rcases e2 with e2 | e2
    ·exact h5 ⟨by rw [← e2];exact h6,h7⟩
    ·omega
  ·rw [if_pos h4] at hc;exact absurd hc h4
theorem chkAs_of : ∀ (l : List AgQ),(∀ a ∈ l,chkA a = 0) → chkAs l = 0
 | [],_ => rfl
 | a :: l,h => by
  unfold chkAs
  rw [if_neg (by simp [h a (by simp)])]
  exact chkAs_of l (fun b hb => h b (by simp [hb]))
theorem foldQ_chk {q p : Qy} (h : FoldQ q p) (hc : chkQ q = 0) : chkQ p = 0:=by
 have ho:=okQ_of hc
 have hag : chkAs p.aggs = 0:=chkAs_of _ (fun b hb => by
  obtain ⟨i,hi,rfl⟩:=List.mem_iff_getElem.1 hb
  have hi2 : i < q.aggs.length:=by rw [← h.len];exact hi
  exact foldA_chk (h.ag i _ _ (List.getElem?_eq_getElem hi2) (List.getElem?_eq_getElem hi)) (ho.ag _ (List.getElem_mem hi2)))
 unfold chkQ at hc ⊢
 rw [h.len]
 by_cases h1 : q.aggs.length = 0 ∨ 4 < q.aggs.length
 ·rw [if_pos h1] at hc;omega
 rw [if_neg h1] at hc ⊢
 rw [if_neg (by simp [hag])]
 by_cases h2 : chkAs q.aggs = 0
 ·rw [if_neg (by simp [h2])] at hc
  by_cases h3 : chkW q.wh = 0
  ·rw [if_neg (by simp [h3])] at hc
   have h3' : chkW p.wh = 0:=by
    rcases h.wh with ⟨-,e⟩ | e
    ·rw [e];rfl
    ·have hl:=foldOf_len e
     unfold chkW at h3 ⊢
     rw [if_neg (by omega)] at h3 ⊢
     by_cases h4 : (kindQ q.wh).2 = 0
     ·rw [if_neg (by simp [h4])] at h3
      obtain ⟨e1,e2⟩:=foldOf_kind e h4
      rw [if_neg (by simp [e1])]
      by_cases h5 : (kindQ q.wh).1 = 1
      ·rw [if_pos h5] at h3;omega
      ·rw [if_neg]
       intro h6
       rcases e2 with e2 | e2
       ·exact h5 (by rw [← e2];exact h6)
       ·omega
     ·rw [if_pos h4] at h3;exact absurd h3 h4
   rw [if_neg (by simp [h3'])]
   by_cases h4 : chkB q.bys = 0
   ·rw [if_neg (by simp [h4])] at hc
    have h4' : chkB p.bys = 0:=by
     rcases h.by_ with ⟨-,e⟩ | e
     ·rw [e];rfl
     ·have hl:=foldOf_len e
      unfold chkB at h4 ⊢
      rw [if_neg (by omega)] at h4 ⊢
      exact (foldOf_kind e h4).1
    rw [if_neg (by simp [h4'])]
    unfold chkS at hc ⊢
    rw [h.size,h.slide,h.delay,h.late]
    exact hc
   ·rw [if_pos h4] at hc;exact absurd hc h4
  ·rw [if_pos h3] at hc;exact absurd hc h3
 ·rw [if_pos h2] at hc;exact absurd hc h2
theorem foldQ_ask {q p : Qy} (h : FoldQ q p) {x : Ev} (hx : evC x = 0) : askQ p x = askQ q x:=by
 unfold askQ
 rcases h.wh with ⟨e1,e2⟩ | e
 ·rw [e1,e2]
 ·have hl:=foldOf_len e
  rw [foldOf_ev e hx,show (p.wh.length == 0) = false from by rw [beq_eq_false_iff_ne];omega,show (q.wh.length == 0) = false from by rw [beq_eq_false_iff_ne];omega]
theorem foldQ_key {q p : Qy} (h : FoldQ q p) {x : Ev} (hx : evC x = 0) : keyQ p x = keyQ q x:=by
 unfold keyQ
 rcases h.by_ with ⟨e1,e2⟩ | e
 ·rw [e1,e2]
 ·have hl:=foldOf_len e
  rw [if_neg (by omega),if_neg (by omega),foldOf_ev e hx]
theorem foldQ_vals {q p : Qy} (h : FoldQ q p) {x : Ev} (hx : evC x = 0) : valsQ p x = valsQ q x:=by
 unfold valsQ
 apply List.ext_getElem?
 intro i
 rw [List.getElem?_map,List.getElem?_map]
 by_cases hi : i < q.aggs.length
 ·have hi2 : i < p.aggs.length:=by rw [h.len];exact hi
  have:=h.ag i _ _ (List.getElem?_eq_getElem hi) (List.getElem?_eq_getElem hi2)
  rw [List.getElem?_eq_getElem hi,List.getElem?_eq_getElem hi2]
  simp only [Option.map_some,Option.some.injEq]
  obtain ⟨hk,hf⟩:=this
  unfold valQ
  rw [hk]
  rcases hf with ⟨h2,h3⟩ | ⟨h2,h3⟩
  ·rw [if_pos h2,if_pos h2]
  ·rw [if_neg h2,if_neg h2]
   exact foldOf_ev h3 hx
 ·rw [List.getElem?_eq_none (by rw [h.len];omega),List.getElem?_eq_none (by omega)]
theorem foldQ_kinds {q p : Qy} (h : FoldQ q p) : p.aggs.map AgQ.kind = q.aggs.map AgQ.kind:=by
 apply List.ext_getElem?
 intro i
 rw [List.getElem?_map,List.getElem?_map]
 by_cases hi : i < q.aggs.length
 ·have hi2 : i < p.aggs.length:=by rw [h.len];exact hi
  have:=h.ag i _ _ (List.getElem?_eq_getElem hi) (List.getElem?_eq_getElem hi2)
  rw [List.getElem?_eq_getElem hi,List.getElem?_eq_getElem hi2]
  simp only [Option.map_some,Option.some.injEq]
  exact this.1
 ·rw [List.getElem?_eq_none (by rw [h.len];omega),List.getElem?_eq_none (by omega)]
theorem foldQ_late {q p : Qy} (h : FoldQ q p) (u : Int) (k : Bool) (st : Int) : lateB p u k st = lateB q u k st:=by
 unfold lateB
 rw [h.size,h.late]
theorem foldQ_part {q p : Qy} (h : FoldQ q p) : ∀ (l : List Ev) (g : Int) (k : Bool),partC p g k l = partC q g k l ∧ partN p g k l = partN q g k l
 | [],g,k => ⟨rfl,rfl⟩
 | x :: l,g,k => by
  unfold partC partN
  by_cases hx : evC x ≠ 0
  ·rw [if_pos hx,if_pos hx,if_pos hx,if_pos hx]
   exact foldQ_part h l g k
  ·rw [if_neg hx,if_neg hx,if_neg hx,if_neg hx]
   have hx0 : evC x = 0:=by omega
   obtain ⟨e1,e2⟩:=foldQ_part h l (max g x.t) true
   rw [e1,e2]
   have et : ∀ u k,takeC p x u k = takeC q x u k ∧ takeN p x u k = takeN q x u k:=fun u k => by
    unfold takeC takeN putL lateL
    have e3 : (fun st => lateB p u k st) = (fun st => lateB q u k st):=funext (foldQ_late h u k)
    have e4 : (fun st => !lateB p u k st) = (fun st => !lateB q u k st):=funext fun st => by rw [foldQ_late h u k]
    rw [foldQ_ask h hx0,foldQ_key h hx0,foldQ_vals h hx0,h.size,h.slide,e3,e4]
    exact ⟨rfl,rfl⟩
   rw [h.delay,(et _ _).1,(et _ _).2]
   exact ⟨rfl,rfl⟩
theorem foldQ_all {q p : Qy} (h : FoldQ q p) (M : List (List Ev)) : allC p M = allC q M ∧ allN p M = allN q M:=by
 have e1 : partC p 0 false = partC q 0 false:=funext fun l => (foldQ_part h l 0 false).1
 have e2 : partN p 0 false = partN q 0 false:=funext fun l => (foldQ_part h l 0 false).2
 unfold allC allN
 rw [e1,e2]
 exact ⟨rfl,rfl⟩
theorem rowN_cons (a : Nd) (l : List Nd) : rowN (a :: l) = cellsN a ++ rowN l:=rfl
theorem rowN_drop : ∀ (l : List Nd) (b : Nat),rowN (l.drop b) = (rowN l).drop (b * 6)
 | l,0 => by simp
 | [],b + 1 => by simp [rowN]
 | a :: l,b + 1 => by
  have h6 : (cellsN a).drop ((b + 1) * 6) = []:=List.drop_eq_nil_of_le (by show 6 ≤ _;omega)
  rw [List.drop_succ_cons,rowN_drop l b,rowN_cons,List.drop_append,show (cellsN a).length = 6 from rfl,show (b + 1) * 6 - 6 = b * 6 from by omega,h6,List.nil_append]
theorem rowN_take : ∀ (l : List Nd) (b : Nat),rowN (l.take b) = (rowN l).take (b * 6)
 | l,0 => by simp [rowN]
 | [],b + 1 => by simp [rowN]
 | a :: l,b + 1 => by
  have h6 : (cellsN a).take ((b + 1) * 6) = cellsN a:=List.take_of_length_le (by show 6 ≤ _;omega)
  rw [List.take_succ_cons,rowN_cons,rowN_take l b,rowN_cons,List.take_append,show (cellsN a).length = 6 from rfl,show (b + 1) * 6 - 6 = b * 6 from by omega,h6]
theorem rowN_sub {w : World} {l : List Nd} {g off cap : Nat} (h : RowG w (.slice (some ⟨g,off,none⟩) l.length cap) 6 l.length (rowN l)) (b e : Nat) (hb : b ≤ e) (he : e < l.length) :
  RowG w (.slice (some ⟨g,off + b * 6,none⟩) (e + 1 - b) (cap - b)) 6 ((l.take (e + 1)).drop b).length (rowN ((l.take (e + 1)).drop b)):=by
 have hlen : ((l.take (e + 1)).drop b).length = e + 1 - b:=by simp;omega
 refine ⟨rowN_len _,.inr ?_⟩
 obtain ⟨h0,h⟩:=h
 rcases h with ⟨-,h⟩ | ⟨g',off',cap',e1,h1,h2,h3,h4⟩
 ·omega
 ·simp only [Value.slice.injEq,Option.some.injEq,Addr.mk.injEq] at e1
  obtain ⟨⟨rfl,rfl,-⟩,-,rfl⟩:=e1
  refine ⟨g,off + b * 6,cap - b,by rw [hlen],by omega,by unfold maxLen at *;omega,h3,fun j hj => ?_⟩
  rw [hlen] at hj
  rw [Nat.add_assoc,h4 (b * 6 + j) (by omega),rowN_drop,rowN_take,List.getElem?_drop,List.getElem?_take_of_lt (by omega)]
theorem cut_any (l : List Nd) (bs : List Nat) (e : Nat) (v : Value) (w : World) (hl : l.length ≤ 100) (hg : Good l bs) (he : e < l.length) (hr : RowG w v 6 l.length (rowN l)) (h1 : ∀ n ∈ l,Mvb n) :
  Calls Tryz.prog 37 #[v,.int .i64 (e : Int)] w fun x w' => ∃ u',x = .returned u' ∧ w'.ownsRow w.heap.size 29 6 u' (cutL l (bs.getD e 0) e).length (rowN (cutL l (bs.getD e 0) e)) ∧ Below w.heap.size w w':=by
 obtain ⟨ao,cap,rfl⟩:=rowG_shape hr
 have HR:=hidE hr
 have HG:=hidE hg
 have H1:=hidE h1
 have hbe : bs.getD e 0 ≤ e:=good_le hg e he
 clear hr hg h1
 generalize hb : bs.getD e 0 = b at *
 have HE:=hidE hb
 clear hb
 have hz : decide (l.length ≤ e) = false:=by simp;omega
 have hz' : (l.length ≤ e) = False:=by simp;omega
 go_enter Tryz.func37,Tryz.ntmps37
 go_wp2_with fail
 go_loop [5] (fun i => ∃ k : Nat,k ≤ e ∧ i = .int .i64 k ∧ Hid (bs.getD k 0 = b)) (fun i => (intOf i).toNat)
 case atStart => exact ⟨e,Nat.le_refl _,rfl,HE⟩
 case round =>
  clear HE
  obtain ⟨k,hk,rfl,HE⟩:=hrel
  have hkl : k < l.length:=by omega
  obtain ⟨g,off,rfl,hnode,l1,l2,l3⟩:=rowN_node HR.out _ hkl
  obtain ⟨ok,a0,aa,-,-⟩:=good_at HG.out (List.getElem?_eq_getElem hkl)
  obtain ⟨p1,-⟩:=good_part HG.out (List.getElem?_eq_getElem hkl)
  generalize l[k] = nd at *
  obtain ⟨n0,n1,n2,n3,n4,n5⟩:=hnode
  unfold maxLen at l2
  by_cases ha : 1 ≤ ar nd.op
  ·obtain ⟨x0,x1,x2⟩:=p1 ha
   have ha2 : 0 < ar nd.op:=by omega
   obtain ⟨q,hq⟩ : ∃ q : Nat,nd.x = (q : Int):=⟨nd.x.toNat,by omega⟩
   rw [hq] at n1 x1
   have hqk : q < k:=by omega
   have HQ : Hid (bs.getD q 0 = b):=by
    show _ = _
    rw [← HE.out,← x2,hq];rfl
   clear x2 p1 aa hq x0
   go_wp2_with (go_at_call 35;refine (arity_any _ _).mono ?_;rintro e w' ⟨rfl,hw⟩;subst w')
   go_round
   case rel => exact ⟨q,by omega,rfl,HQ⟩
   case measure => simp [intOf];omega
  ·have ha2 : ¬ (0 < ar nd.op):=by omega
   have hbk : b = k:=by rw [← HE.out];exact aa (by omega)
   subst hbk
   clear p1 aa ha
   go_wp2_with (go_at_call 35;refine (arity_any _ _).mono ?_;rintro e w' ⟨rfl,hw⟩;subst w')
   have hsub:=rowN_sub HR.out b e (by omega) he
   have hmv : ∀ n ∈ (l.take (e + 1)).drop b,Mvb n:=fun n hn => H1.out n (List.mem_of_mem_take (List.mem_of_mem_drop hn))
   have hlen : ((l.take (e + 1)).drop b).length ≤ 1000:=by simp;omega
   have hk:=moved_any w.heap.size [] ((l.take (e + 1)).drop b) (.slice none 0 0) _ (-(b : Int)) w (Nat.le_refl _) (World.ownsRow_nil _ _ _ _) hlen (by simp) hsub (rowG_lo hsub) hmv (by omega) (by omega)
   refine hk.mono ?_
   rintro x w1 ⟨u,rfl,ho,hb⟩
   have HO : Hid (w1.ownsRow w.heap.size 29 6 u (cutL l b e).length (rowN (cutL l b e))):=ho
   have HB:=hidE hb
   clear ho hb hsub hmv hlen hk
   go_wp2_with fail
   go_ret
   exact ⟨u,rfl,HO.out,HB.out⟩
end Go.Proofs.YtaomljdbndajgaaGreatDoor
namespace Go.Proofs.YtaomljdbndajgaaGreatDoor
open Go.ChangeShapes Go.WideShapes Go.ChangeAt Go.RowKit
theorem neq_nodeS (w : World) (a b c d x y : Int) : (binOp .neq 29 (.agg #[.int .i64 a,.int .i64 b,.int .i64 c,.int .i64 d,.int .i64 x,.int .i64 y]) (.agg #[.int .i64 a,.int .i64 b,.int .i64 c,.int .i64 d,.int .i64 x,.int .i64 y])).run Tryz.prog w = .ok (.bool false) w:=by
 go_simp
attribute [local go_sem ↓] neq_nodeS
def fineV (p : V2) : Bool:=vok p.1 p.2 && !(p.1 == 2) && decide (-1000 ≤ p.2) && decide (p.2 ≤ 1000)
def mayB (t k1 k2 a1 a2 b1 b2 : Int) : Bool:=fineV (k1,k2) && fineV (a1,a2) && fineV (b1,b2) && decide (0 ≤ t) && decide (t ≤ 9999)
theorem may_ok {t k1 k2 a1 a2 b1 b2 : Int} (h : mayB t k1 k2 a1 a2 b1 b2 = true) : ∀ p ∈ evE t k1 k2 a1 a2 b1 b2,okV p:=by
 unfold mayB fineV at h
 simp only [Bool.and_eq_true] at h
 obtain ⟨⟨⟨⟨h1,h2⟩,h3⟩,-⟩,-⟩:=h
 intro p hp
 unfold evE at hp
 simp only [List.mem_cons,List.not_mem_nil,or_false] at hp
 rcases hp with rfl | rfl | rfl | rfl
 ·exact ok_num t
 ·exact h1.1.1.1
 ·exact h2.1.1.1
 ·exact h3.1.1.1
end Go.Proofs.YtaomljdbndajgaaGreatDoor
namespace Go.Proofs.YtaomljdbndajgaaGreatDoor
open Go.ChangeShapes Go.WideShapes Go.ChangeAt Go.RowKit
attribute [local go_sem ↓] eql_value neq_value
def fld : Nd:=⟨2,0,0,0,0,0⟩
section
variable {P : Program} {md : Region.Mode} {ops : Array Oper} {Q : Exit → Act → World → Prop} {S : World → Prop}
end
end Go.Proofs.YtaomljdbndajgaaGreatDoor
namespace Go.Proofs.YtaomljdbndajgaaGreatDoor
open Go.ChangeShapes Go.WideShapes Go.ChangeAt Go.RowKit
attribute [local go_sem ↓] eql_value neq_value
abbrev RowT (w : World) (u : Value) (t : Ex) : Prop:=RowG w u 6 (flat t).length (rowN (flat t))
theorem eql_nodes_nil (w : World) (a : Addr) (n c : Nat) : (binOp .eql 23 (.slice (some a) n c) (.slice none 0 0)).run Tryz.prog w = .ok (.bool false) w:=by kernel_rfl
theorem isConst_any (t : Ex) (u : Value) (w : World) (hl : (flat t).length ≤ 1000) (hr : RowT w u t) :
  Calls Tryz.prog 61 #[u] w fun e w' => e = .returned (.bool (isC t)) ∧ w' = w:=by
 obtain ⟨ao,cap,rfl⟩:=rowG_shape hr
 by_cases h1 : (flat t).length = 1
 ·obtain ⟨g,off,rfl,hn,q1,q2,q3⟩:=rowN_node hr 0 (by omega)
  have c0 : w.cell? ⟨g,off,none⟩ = some (.int .i64 (flat t)[0].op):=by have:=hn.1;simpa using this
  have hop : ((flat t)[0].op == 1) = isC t:=by
   cases t with
   | cst k v => rfl
   | fld n => rfl
   | one op a =>
    exfalso
    have:=flat_pos a
    have h9 : (flat (.one op a)).length = (flat a).length + 1:=by simp [flat,join1]
    omega
   | two op a b =>
    exfalso
    have:=flat_pos a
    have h9 : (flat (.two op a b)).length = (flat a).length + (flat b).length + 1:=by simp [flat,joinL];omega
    omega
  have HO:=hidE hop
  rw [← hop]
  clear hop hn hr
  generalize ((flat t)[0].op) = o at *
  rw [h1]
  rw [h1] at q1
  unfold maxLen at q2
  go_enter Tryz.func61,Tryz.ntmps61
  go_wp2_with fail
  go_ret
  exact ⟨rfl,rfl⟩
 ·have hc : isC t = false:=by
   cases t with
   | cst k v => exact absurd rfl h1
   | fld n => exact absurd rfl h1
   | one op a => rfl
   | two op a b => rfl
  rw [hc]
  have d : (((flat t).length : Int) == 1) = false:=by simp;omega
  go_enter Tryz.func61,Tryz.ntmps61
  go_wp2_with fail
  go_ret
  exact ⟨rfl,rfl⟩
def FrV (B : Nat) (v : Value) : Prop:=∀ a n c,v = .slice (some a) n c → B ≤ a.block
theorem frV_of_owns {w : World} {base size n : Nat} {e : TypeId} {v : Value} {xs : List Value} (h : w.ownsRow base e size v n xs) : FrV base v:=fun a k c e1 => by
 rcases h.2 with ⟨rfl,-⟩ | ⟨g,cap,cur,rfl,hb,-⟩
 ·cases e1
 ·cases e1
  exact hb
theorem frV_mono {B B' : Nat} {v : Value} (h : FrV B v) (hB : B' ≤ B) : FrV B' v:=fun a n c e => Nat.le_trans hB (h a n c e)
theorem constant_any (v : V2) (w : World) :
  Calls Tryz.prog 62 #[.agg #[.int .i64 v.1,.int .i64 v.2]] w fun e w' => ∃ u,e = .returned u ∧ RowT w' u (cstV v) ∧ Below w.heap.size w w' ∧ FrV w.heap.size u:=by
 obtain ⟨k,n⟩:=v
 go_enter Tryz.func62,Tryz.ntmps62
 go_wp2_with fail
 go_ret
 refine ⟨_,rfl,?_,((Below.refl _ _).alloc (Nat.le_refl _) _).alloc (by simp) _,fun a n c e => by cases e;simp⟩
 have h:=World.ownsRow_lit (base:=0) (size:=6) (e:=29) (w.alloc (.cells #[.int .i64 k,.int .i64 n] 26)) #[.int .i64 1,.int .i64 0,.int .i64 0,.int .i64 0,.int .i64 k,.int .i64 n] 1 (Nat.zero_le _) (by decide) rfl
 have h2:=rowG_of_owns h
 simp only [World.size_alloc] at h2
 exact h2
theorem ownKind_any (op : Int) (w : World) (h : 1 ≤ op ∧ op ≤ 12) :
  Calls Tryz.prog 65 #[.int .i64 op] w fun e w' => e = .returned (.int .i64 (ownK op)) ∧ w' = w:=by
 rcases (by omega : op = 1 ∨ op = 2 ∨ op = 3 ∨ op = 4 ∨ op = 5 ∨ op = 6 ∨ op = 7 ∨ op = 8 ∨ op = 9 ∨ op = 10 ∨ op = 11 ∨ op = 12) with rfl | rfl | rfl | rfl | rfl | rfl | rfl | rfl | rfl | rfl | rfl | rfl
 all_goals
  clear h
  go_enter Tryz.func65,Tryz.ntmps65
  go_wp2_with fail
  go_ret
  exact ⟨rfl,rfl⟩
theorem isOf_any (t : Ex) (k : Int) (u : Value) (w : World) (hl : (flat t).length ≤ 1000) (hw : Wf t) (hr : RowT w u t) :
  Calls Tryz.prog 64 #[u,.int .i64 k] w fun e w' => e = .returned (.bool (isO t k)) ∧ Below w.heap.size w w':=by
 have TA:=type_any (flat t) u w hl hr
 rw [ty_flat t hw] at TA
 obtain ⟨ao,cap,rfl⟩:=rowG_shape hr
 rcases ht : tyT t with _ | m
 ·rw [ht] at TA
  have hO : isO t k = false:=by unfold isO;simp [ht]
  rw [hO]
  have TB:=hidE TA
  rw [show tyP none = (0,3) from rfl,show errC 3 = .iface 56 (.int .i64 3) from rfl] at TB
  simp only at TB
  clear TA
  go_enter Tryz.func64,Tryz.ntmps64
  go_wp2_with fail
  refine TB.out.mono ?_
  rintro e w1 ⟨rfl,hb⟩
  go_wp2_with fail
  go_ret
  exact ⟨rfl,hb⟩
 ·rw [ht] at TA
  have hO : isO t k = (m == k):=by
   unfold isO
   rw [ht]
   by_cases e : m = k
   ·simp [e]
   ·simp [e]
  rw [hO]
  have TB:=hidE TA
  rw [show tyP (some m) = (m,0) from rfl,show errC 0 = .nilIface from rfl] at TB
  simp only at TB
  clear TA
  go_enter Tryz.func64,Tryz.ntmps64
  go_wp2_with fail
  refine TB.out.mono ?_
  rintro e w1 ⟨rfl,hb⟩
  go_wp2_with fail
  go_ret
  exact ⟨rfl,hb⟩
theorem settles_any (op : Int) (k n : Int) (w : World) :
  Calls Tryz.prog 67 #[.int .i64 op,.agg #[.int .i64 k,.int .i64 n]] w fun e w' => e = .returned (.bool (setl op (k,n))) ∧ Below w.heap.size w w':=by
 have H1 : Hid (Below w.heap.size w (w.alloc (.cells #[.int .i64 k,.int .i64 n] 26))):=(Below.refl _ _).alloc (Nat.le_refl _) _
 have c0 : (w.alloc (.cells #[.int .i64 k,.int .i64 n] 26)).cell? ⟨w.heap.size,0,none⟩ = some (.int .i64 k):=by go_simp
 have c1 : (w.alloc (.cells #[.int .i64 k,.int .i64 n] 26)).cell? ⟨w.heap.size,1,none⟩ = some (.int .i64 n):=by go_simp
 have lw : w.heap.size < (w.alloc (.cells #[.int .i64 k,.int .i64 n] 26)).heap.size:=by simp
 have HR9 : Hid (Below (w.alloc (.cells #[.int .i64 k,.int .i64 n] 26)).heap.size (w.alloc (.cells #[.int .i64 k,.int .i64 n] 26)) (w.alloc (.cells #[.int .i64 k,.int .i64 n] 26))):=Below.refl _ _
 unfold setl
 by_cases h9 : op = 9
 ·subst h9
  rw [if_pos rfl]
  go_enter Tryz.func67,Tryz.ntmps67
  go_wp2_with fail
  generalize (w.alloc (.cells #[.int .i64 k,.int .i64 n] 26)) = wx at *
  have kn:=kin_some wx
  obtain ⟨kc,kf⟩:=kin_rules wx
  refine wp_region_kin HR9 (by kernel_rfl) (by kernel_rfl) ?_
  repeat (go_big_quiet_step ((go_at_call 7;exact kin_of (truth_bb _ _))))
  refine wpQuiet_nil ?_
  rintro _ ⟨pk,rfl⟩
  have HP:=pk.h
  go_wp2_with fail
  go_ret
  exact ⟨rfl,H1.out.trans (HP.mono H1.out.size)⟩
 ·rw [if_neg h9]
  have d9 : (op == 9) = false:=by simp [h9]
  by_cases h10 : op = 10
  ·subst h10
   rw [if_pos rfl]
   go_enter Tryz.func67,Tryz.ntmps67
   go_wp2_with fail
   generalize (w.alloc (.cells #[.int .i64 k,.int .i64 n] 26)) = wx at *
   have kn:=kin_some wx
   obtain ⟨kc,kf⟩:=kin_rules wx
   refine wp_region_kin HR9 (by kernel_rfl) (by kernel_rfl) ?_
   repeat (go_big_quiet_step ((go_at_call 7;exact kin_of (truth_bb _ _))))
   refine wpQuiet_nil ?_
   rintro _ ⟨pk,rfl⟩
   have HP:=pk.h
   go_wp2_with fail
   go_ret
   exact ⟨rfl,H1.out.trans (HP.mono H1.out.size)⟩
  ·rw [if_neg h10]
   have d10 : (op == 10) = false:=by simp [h10]
   go_enter Tryz.func67,Tryz.ntmps67
   go_wp2_with fail
   go_ret
   exact ⟨by simp [bne],H1.out⟩
theorem settled_any (op : Int) (k n : Int) (w : World) :
  Calls Tryz.prog 68 #[.int .i64 op,.agg #[.int .i64 k,.int .i64 n]] w fun e w' => e = .returned (.agg #[.int .i64 (setd op (k,n)).1,.int .i64 (setd op (k,n)).2]) ∧ Below w.heap.size w w':=by
 unfold setd
 by_cases h9 : op = 9
 ·subst h9
  rw [if_pos (by omega)]
  go_enter Tryz.func68,Tryz.ntmps68
  go_wp2_with fail
  refine bodyPost_ret (v:=.agg #[.int .i64 k,.int .i64 n]) (by simp [results,Tryz.results68,go_sem]) rfl ⟨rfl,?_⟩
  repeat (first | exact Below.refl _ _ | refine Below.alloc ?_ (by first | (simp;done) | (simp;omega)) _ | refine Below.setCell ?_ (by first | (simp;done) | (simp;omega)) _)
 ·have d9 : (op == 9) = false:=by simp [h9]
  by_cases h10 : op = 10
  ·subst h10
   rw [if_pos (by omega)]
   go_enter Tryz.func68,Tryz.ntmps68
   go_wp2_with fail
   refine bodyPost_ret (v:=.agg #[.int .i64 k,.int .i64 n]) (by simp [results,Tryz.results68,go_sem]) rfl ⟨rfl,?_⟩
   repeat (first | exact Below.refl _ _ | refine Below.alloc ?_ (by first | (simp;done) | (simp;omega)) _ | refine Below.setCell ?_ (by first | (simp;done) | (simp;omega)) _)
  ·rw [if_neg (by omega)]
   have d10 : (op == 10) = false:=by simp [h10]
   go_enter Tryz.func68,Tryz.ntmps68
   go_wp2_with fail
   refine (null_any _).mono ?_
   rintro e w1 ⟨rfl,rfl⟩
   go_wp2_with fail
   refine bodyPost_ret (v:=.agg #[.int .i64 0,.int .i64 0]) (by simp [results,Tryz.results68,go_sem]) rfl ⟨rfl,?_⟩
   repeat (first | exact Below.refl _ _ | refine Below.alloc ?_ (by first | (simp;done) | (simp;omega)) _ | refine Below.setCell ?_ (by first | (simp;done) | (simp;omega)) _)
theorem idleAhead_any (op : Int) (k n : Int) (w : World) :
  Calls Tryz.prog 69 #[.int .i64 op,.agg #[.int .i64 k,.int .i64 n]] w fun e w' => e = .returned (.bool (idlA op (k,n))) ∧ Below w.heap.size w w':=by
 have H1 : Hid (Below w.heap.size w (w.alloc (.cells #[.int .i64 k,.int .i64 n] 26))):=(Below.refl _ _).alloc (Nat.le_refl _) _
 have c0 : (w.alloc (.cells #[.int .i64 k,.int .i64 n] 26)).cell? ⟨w.heap.size,0,none⟩ = some (.int .i64 k):=by go_simp
 have c1 : (w.alloc (.cells #[.int .i64 k,.int .i64 n] 26)).cell? ⟨w.heap.size,1,none⟩ = some (.int .i64 n):=by go_simp
 have lw : w.heap.size < (w.alloc (.cells #[.int .i64 k,.int .i64 n] 26)).heap.size:=by simp
 have HR9 : Hid (Below (w.alloc (.cells #[.int .i64 k,.int .i64 n] 26)).heap.size (w.alloc (.cells #[.int .i64 k,.int .i64 n] 26)) (w.alloc (.cells #[.int .i64 k,.int .i64 n] 26))):=Below.refl _ _
 unfold idlA
 by_cases h9 : op = 9
 ·subst h9
  rw [if_pos rfl]
  go_enter Tryz.func69,Tryz.ntmps69
  go_wp2_with fail
  generalize (w.alloc (.cells #[.int .i64 k,.int .i64 n] 26)) = wx at *
  have kn:=kin_some wx
  obtain ⟨kc,kf⟩:=kin_rules wx
  refine wp_region_kin HR9 (by kernel_rfl) (by kernel_rfl) ?_
  repeat (go_big_quiet_step ((go_at_call 7;exact kin_of (truth_bb _ _))))
  refine wpQuiet_nil ?_
  rintro _ ⟨pk,rfl⟩
  have HP:=pk.h
  go_wp2_with fail
  go_ret
  exact ⟨rfl,H1.out.trans (HP.mono H1.out.size)⟩
 rw [if_neg h9]
 have d9 : (op == 9) = false:=by simp [h9]
 by_cases h10 : op = 10
 ·subst h10
  rw [if_pos rfl]
  go_enter Tryz.func69,Tryz.ntmps69
  go_wp2_with fail
  generalize (w.alloc (.cells #[.int .i64 k,.int .i64 n] 26)) = wx at *
  have kn:=kin_some wx
  obtain ⟨kc,kf⟩:=kin_rules wx
  refine wp_region_kin HR9 (by kernel_rfl) (by kernel_rfl) ?_
  repeat (go_big_quiet_step ((go_at_call 7;exact kin_of (truth_bb _ _))))
  refine wpQuiet_nil ?_
  rintro _ ⟨pk,rfl⟩
  have HP:=pk.h
  go_wp2_with fail
  go_ret
  exact ⟨rfl,H1.out.trans (HP.mono H1.out.size)⟩
 rw [if_neg h10]
 have d10 : (op == 10) = false:=by simp [h10]
 by_cases h6 : op = 6
 ·subst h6
  rw [if_pos rfl]
  go_enter Tryz.func69,Tryz.ntmps69
  go_wp2_with fail
  generalize (w.alloc (.cells #[.int .i64 k,.int .i64 n] 26)) = wx at *
  have kn:=kin_some wx
  obtain ⟨kc,kf⟩:=kin_rules wx
  refine wp_region_kin HR9 (by kernel_rfl) (by kernel_rfl) ?_
  repeat (go_big_quiet_step ((go_at_call 96;exact kin_of (number_any _ _))))
  refine wpQuiet_nil ?_
  rintro _ ⟨pk,rfl⟩
  have HP:=pk.h
  go_wp2_with fail
  go_ret
  exact ⟨rfl,H1.out.trans (HP.mono H1.out.size)⟩
 rw [if_neg h6]
 have d6 : (op == 6) = false:=by simp [h6]
 by_cases h8 : op = 8
 ·subst h8
  rw [if_pos rfl]
  go_enter Tryz.func69,Tryz.ntmps69
  go_wp2_with fail
  generalize (w.alloc (.cells #[.int .i64 k,.int .i64 n] 26)) = wx at *
  have kn:=kin_some wx
  obtain ⟨kc,kf⟩:=kin_rules wx
  refine wp_region_kin HR9 (by kernel_rfl) (by kernel_rfl) ?_
  repeat (go_big_quiet_step ((go_at_call 96;exact kin_of (number_any _ _))))
  refine wpQuiet_nil ?_
  rintro _ ⟨pk,rfl⟩
  have HP:=pk.h
  go_wp2_with fail
  go_ret
  exact ⟨rfl,H1.out.trans (HP.mono H1.out.size)⟩
 rw [if_neg h8]
 have d8 : (op == 8) = false:=by simp [h8]
 go_enter Tryz.func69,Tryz.ntmps69
 go_wp2_with fail
 go_ret
 exact ⟨rfl,H1.out⟩
theorem idleBehind_any (op : Int) (k n : Int) (w : World) :
  Calls Tryz.prog 70 #[.int .i64 op,.agg #[.int .i64 k,.int .i64 n]] w fun e w' => e = .returned (.bool (idlB op (k,n))) ∧ Below w.heap.size w w':=by
 have H1 : Hid (Below w.heap.size w (w.alloc (.cells #[.int .i64 k,.int .i64 n] 26))):=(Below.refl _ _).alloc (Nat.le_refl _) _
 have c0 : (w.alloc (.cells #[.int .i64 k,.int .i64 n] 26)).cell? ⟨w.heap.size,0,none⟩ = some (.int .i64 k):=by go_simp
 have c1 : (w.alloc (.cells #[.int .i64 k,.int .i64 n] 26)).cell? ⟨w.heap.size,1,none⟩ = some (.int .i64 n):=by go_simp
 have lw : w.heap.size < (w.alloc (.cells #[.int .i64 k,.int .i64 n] 26)).heap.size:=by simp
 have HR9 : Hid (Below (w.alloc (.cells #[.int .i64 k,.int .i64 n] 26)).heap.size (w.alloc (.cells #[.int .i64 k,.int .i64 n] 26)) (w.alloc (.cells #[.int .i64 k,.int .i64 n] 26))):=Below.refl _ _
 have IA:=hidE (fun w => idleAhead_any op k n w)
 unfold idlB
 generalize hA : idlA op (k,n) = A at *
 have N0 : Hid (∀ w,Calls Tryz.prog 96 #[.int .i64 0] w fun e w' => e = .returned (.agg #[.int .i64 1,.int .i64 0]) ∧ Below w.heap.size w w'):=fun w => number_any 0 w
 clear hA
 by_cases h7 : op = 7
 ·subst h7
  by_cases hv : k = 1 ∧ n = 0
  ·obtain ⟨rfl,rfl⟩:=hv
   go_enter Tryz.func70,Tryz.ntmps70
   go_wp2_with fail
   generalize (w.alloc (.cells #[.int .i64 1,.int .i64 0] 26)) = wx at *
   have kn:=kin_some wx
   obtain ⟨kc,kf⟩:=kin_rules wx
   refine wp_region_kin HR9 (by kernel_rfl) (by kernel_rfl) ?_
   repeat (go_big_quiet_step ((go_at_call 96;exact kin_of (N0.out _))))
   refine wpQuiet_nil ?_
   rintro _ ⟨pk,rfl⟩
   have HP:=pk.h
   go_wp2_with fail
   go_ret
   exact ⟨rfl,H1.out.trans (HP.mono H1.out.size)⟩
  ·have dv : (k == 1 && n == 0) = false:=by simp;omega
   rw [show (((7 : Int) == 7) && (k == 1 && n == 0) || A) = A from by rw [dv];rfl]
   go_enter Tryz.func70,Tryz.ntmps70
   go_wp2_with fail
   generalize (w.alloc (.cells #[.int .i64 k,.int .i64 n] 26)) = wx at *
   have kn:=kin_some wx
   obtain ⟨kc,kf⟩:=kin_rules wx
   refine wp_region_kin HR9 (by kernel_rfl) (by kernel_rfl) ?_
   repeat (go_big_quiet_step ((first | (go_at_call 96;exact kin_of (N0.out _)) | (go_at_call 69;exact kin_of (IA.out _)))))
   refine wpQuiet_nil ?_
   rintro _ ⟨pk,rfl⟩
   have HP:=pk.h
   go_wp2_with fail
   go_ret
   exact ⟨rfl,H1.out.trans (HP.mono H1.out.size)⟩
 ·have d7 : (op == 7) = false:=by simp [h7]
  rw [show ((op == 7) && (k == 1 && n == 0) || A) = A from by rw [d7];rfl]
  go_enter Tryz.func70,Tryz.ntmps70
  go_wp2_with fail
  generalize (w.alloc (.cells #[.int .i64 k,.int .i64 n] 26)) = wx at *
  have kn:=kin_some wx
  obtain ⟨kc,kf⟩:=kin_rules wx
  refine wp_region_kin HR9 (by kernel_rfl) (by kernel_rfl) ?_
  repeat (go_big_quiet_step ((first | (go_at_call 96;exact kin_of (N0.out _)) | (go_at_call 69;exact kin_of (IA.out _)))))
  refine wpQuiet_nil ?_
  rintro _ ⟨pk,rfl⟩
  have HP:=pk.h
  go_wp2_with fail
  go_ret
  exact ⟨rfl,H1.out.trans (HP.mono H1.out.size)⟩
end Go.Proofs.YtaomljdbndajgaaGreatDoor
